import Derived.Test.YtkhlfhnbildmjaaGreatDoorF1
import Derived.Test.YtkhlfhnbildmjaaGreatDoorR1
import Derived.Test.YtkhlfhnbildmjaaGreatDoorAl
set_option linter.unusedVariables false
set_option linter.unusedSimpArgs false
set_option maxRecDepth 100000
namespace Go.Proofs.YtkhlfhnbildmjaaGreatDoor
open Go Go.AE Seg Go.ChangeShapes Go.WideShapes Go.RowKit

/-- WholeKnown returns true, and touches nothing that was there. -/
theorem known_calls {W : World} (H : WR 5 rho0 h0 W) : Calls Tryz.prog 3 #[] W fun e W' => ∃ ρ' v' h', e = .returned v' ∧ WR 5 ρ' h' W' ∧ Ext rho0 h0 W ρ' h' W' ∧ v' = .bool true := by
  refine Calls.mono (tell0 rho0 W H) ?_
  rintro e W' ⟨ρ', h', he, h1, h2⟩
  exact ⟨ρ', .bool true, h', he, h1, h2, rfl⟩

/-- The values of a table that is laid. -/
def dvals2 : DataW Unit → List Value
  | .agg l => (l.map fun | .lit x => [x.value] | .agg m => (m.map fun | .lit y => y.value | _ => undef) | _ => []).flatten
  | _ => []

noncomputable def lowB : Nat := (World.holding Tryz.prog default ⟨#[], #[], []⟩).heap.size

/-- A world that meets the condition. -/
noncomputable def laidWorld (os : Os) : World :=
  let w0 := World.holding Tryz.prog os ⟨#[], #[], []⟩
  let put := fun (w : World) (g : Nat) (c : Array Value) => { w with heap := w.heap.modify g fun
      | .cells _ t frozen => .cells c t frozen
      | o => o }
  put (put (put (put w0 0 #[errVal]) 1 (dvals Rows.laid_internal_strconv_uint64pow10).toArray) 2 (dvals Rows.laid_math_bits_deBruijn32tab).toArray) 3 (dvals Rows.laid_math_bits_deBruijn64tab).toArray

theorem laidWorld_met (os : Os) (args : Array Value) : laidMetH Tryz.prog Rows.wholeKnownRow.laid ((laidWorld os).forCall (fun _ _ => 0) ⟨#[], args, []⟩).memory :=
  laidMetH_of_parts (laidMet_of_run' 8 (by kernel_rfl) (by kernel_rfl)) (by kernel_rfl)

theorem law_lifted (os : Os) (started : os.Started) (H : Type) (enc : TypeId × Value → H) :
    ReturnsInLeavingWide {} Tryz.checked os 3 .any (fun w args => (Rows.wholeKnownSpec.pre enc Tryz.prog Tryz.f3 [] false w args ∧ laidMetH Tryz.prog Rows.wholeKnownRow.laid w) ∧ sizedMet enc Tryz.prog Tryz.f3 (OpenSpec.ofChange Rows.wholeKnownSpec) false w args)
      (Rows.wholeKnownSpec.post enc Tryz.prog Tryz.f3 false true false false) := by
  refine returnsInLeavingWide_of_change_and (C := Tryz.checked) (X := fun w _ => laidMetH Tryz.prog Rows.wholeKnownRow.laid w) (fun _ _ _ hh h => h.of_heap hh) ownKnob_none started (by kernel_rfl) Tryz.func3
    (ChangeSpec.witness_at (enc := enc) (C := Tryz.checked) (os := os) (X := fun w _ => laidMetH Tryz.prog Rows.wholeKnownRow.laid w) false (laidWorld os) #[] 8 rfl (by kernel_rfl) (by kernel_rfl) (by kernel_rfl) (by kernel_rfl) (by kernel_rfl) (laidWorld_met os _)) ?_
  intro W base args ds gs before hval0 hW hL hS
  have hW' := hW
  obtain ⟨p, q, hA0, hV0, rfl, hfz, hnd⟩ := hW
  have hA : DataW.TrodAll enc Tryz.prog W 0 (fun _ => true) true [] args.toList ds p := hA0
  have hV : DataW.TrodVars enc Tryz.prog W (fun _ => true) [] gs q := hV0
  obtain ⟨ha, rfl⟩ : args.toList = [] ∧ ds = [] := by
    generalize args.toList = l at hA
    cases l <;> cases ds <;> first | exact ⟨rfl, rfl⟩ | exact hA.elim
  obtain rfl : args = #[] := by
    have : args = args.toList.toArray := by simp
    rw [this, ha]
  obtain rfl : gs = [] := by
    cases gs with
    | nil => rfl
    | cons g r => exact hV.elim
  refine (known_calls (start_rel hL hS)).mono fun e W' ⟨ρ', v', h', he, h1, h2, hv⟩ => ?_
  subst he; subst hv
  refine ⟨_, rfl, [], [], _, [], [], [], hW', ?_, ?_, ?_, kept_of_ext h2 _, fun h => by cases h⟩
  · exact trodAll_mk1 (shut_bool (by kernel_rfl : Tryz.prog.underlying 4 = some .bool) true)
  · exact rfl
  · exact rfl

theorem known_holds : Rows.WholeKnownSaid :=
  OpenClaim.holds_of_wide_leaving 3 Tryz.f3 rfl rfl rfl rfl rfl rfl rfl ⟨rfl, rfl, rfl, rfl, rfl⟩ rfl rfl rfl rfl rfl (by kernel_rfl) Tryz.func3 facts
    (of_decide_eq_true (by kernel_rfl)) (by unfold Func.isWrapper; first | (rw [if_pos (by decide +kernel)]; kernel_rfl) | (rw [if_neg (by decide +kernel)]; exact ⟨rfl, rfl⟩))
    (fun os started H enc _ => law_lifted os started H enc)
end Go.Proofs.YtkhlfhnbildmjaaGreatDoor
