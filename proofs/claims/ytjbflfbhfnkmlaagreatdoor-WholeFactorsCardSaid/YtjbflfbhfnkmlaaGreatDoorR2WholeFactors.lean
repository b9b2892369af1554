import Derived.Test.YtjbflfbhfnkmlaaGreatDoorF1WholeFactors
import Derived.Test.YtjbflfbhfnkmlaaGreatDoorPN1
import Derived.Test.YtjbflfbhfnkmlaaGreatDoorPTurnN
import Derived.ChangeSame
import Derived.ChangeMaps5
set_option linter.unusedVariables false
set_option linter.unusedSimpArgs false
set_option maxRecDepth 100000
namespace Go.Proofs.YtjbflfbhfnkmlaaGreatDoor
open Go Go.AE Seg Go.ChangeShapes Go.WideShapes Go.RowKit
noncomputable def laidWorld (os : Os) : World :=
  let w0 := World.holding Tryz.prog os ⟨#[], #[], []⟩
  let put := fun (w : World) (g : Nat) (c : Array Value) => { w with heap := w.heap.modify g fun
      | .cells _ t frozen => .cells c t frozen
      | o => o }
  put (put (put (put w0 0 #[Cn.errVal]) 1 (Cn.Seg.dvals Rows.laid_internal_strconv_uint64pow10).toArray) 2 (Cn.Seg.dvals Rows.laid_math_bits_deBruijn32tab).toArray) 3 (Cn.Seg.dvals Rows.laid_math_bits_deBruijn64tab).toArray
theorem laidWorld_met (os : Os) (args : Array Value) : laidMetH Tryz.prog Rows.wholeFactorsRow.laid ((laidWorld os).forCall (fun _ _ => 0) ⟨#[], args, []⟩).memory :=
  laidMetH_of_parts (laidMet_of_run' 8 (by kernel_rfl) (by kernel_rfl)) (by kernel_rfl)
theorem law_list (s0 : ByteArray) {W : World} {a : Addr} {len cap : Nat} {zs : List Int} (hsp : a.spot = none) (hl : len ≤ zs.length) (HW : WR 5 (rho1 a.block) (h1 a.off zs) W) :
    Calls Tryz.prog 6 #[.string s0, .slice (some a) len cap] W fun e W' => ∃ ρ' h', e = .returned (.bool true) ∧ Ext (rho1 a.block) (h1 a.off zs) W ρ' h' W' := by
  obtain ⟨b, o, s⟩ := a
  simp only at hsp
  subst hsp
  obtain ⟨_, S⟩ : ∃ h', CSp Tryz.prog 5 6 #[.string s0, .slice (some ⟨5, o, none⟩) len cap] (mkH 6 [(0, Cn.gob0), (1, gob1), (2, Cn.gob2), (3, Cn.gob3), (5, (.win o (zs.map (Value.int .i64))))]) (.bool true) h' := (by obtain ⟨h9, S⟩ := wholeFactors_a zs o len cap s0 hl; exact ⟨_, S⟩)
  have hh : (mkH 6 [(0, Cn.gob0), (1, gob1), (2, Cn.gob2), (3, Cn.gob3), (5, (.win o (zs.map (Value.int .i64))))] : AH) = h1 o zs := by
    unfold h1 Cn.h0
    rw [gl_eq]
    rfl
  rw [hh] at S
  refine (S (rho1 b) W #[.string s0, .slice (some ⟨b, o, none⟩) len cap] HW ?_).mono ?_
  · have h9 : renA (rho1 b) ⟨5, o, none⟩ = some ⟨b, o, none⟩ := rfl
    have h8 : renC (rho1 b) 5 cap = some cap := rfl
    simp [renArr, renL, ren, h9, h8]
  · rintro e W' ⟨ρ', v', rfl, h2, h3, h4⟩
    refine ⟨ρ', _, ?_, h3⟩
    simp only [ren, Option.some.injEq] at h4
    rw [← h4]
theorem law_nil (s0 : ByteArray) {W : World} (HW : WR 5 Cn.rho0 Cn.h0 W) : Calls Tryz.prog 6 #[.string s0, .slice none 0 0] W fun e W' => ∃ ρ' h', e = .returned (.bool true) ∧ Ext Cn.rho0 Cn.h0 W ρ' h' W' := by
  obtain ⟨_, S⟩ : ∃ h', CSp Tryz.prog 5 6 #[.string s0, .slice none 0 0] (mkH 5 [(0, Cn.gob0), (1, gob1), (2, Cn.gob2), (3, Cn.gob3)]) (.bool true) h' := (by obtain ⟨h9, S⟩ := wholeFactors_n s0 ; exact ⟨_, S⟩)
  rw [show (mkH 5 [(0, Cn.gob0), (1, gob1), (2, Cn.gob2), (3, Cn.gob3)] : AH) = Cn.h0 by rw [← gl_eq]; rfl] at S
  refine (S Cn.rho0 W #[.string s0, .slice none 0 0] HW (by simp [renArr, renL, ren])).mono ?_
  rintro e W' ⟨ρ', v', rfl, h2, h3, h4⟩
  refine ⟨ρ', _, ?_, h3⟩
  simp only [ren, Option.some.injEq] at h4
  rw [← h4]
theorem law_lifted (os : Os) (started : os.Started) (H : Type) (enc : TypeId × Value → H) :
    ReturnsInLeavingWide {} Tryz.checked os 6 .any (fun w args => (Rows.wholeFactorsSpec.pre enc Tryz.prog Tryz.f6 [] false w args ∧ laidMetH Tryz.prog Rows.wholeFactorsRow.laid w) ∧ sizedMet enc Tryz.prog Tryz.f6 (OpenSpec.ofChange Rows.wholeFactorsSpec) false w args)
      (Rows.wholeFactorsSpec.post enc Tryz.prog Tryz.f6 false true false false) := by
  refine returnsInLeavingWide_of_change_and (C := Tryz.checked) (X := fun w _ => laidMetH Tryz.prog Rows.wholeFactorsRow.laid w) (fun _ _ _ hh h => h.of_heap hh) Cn.ownKnob_none started (by kernel_rfl) Tryz.func6
    (ChangeSpec.witness_at (enc := enc) (C := Tryz.checked) (os := os) (X := fun w _ => laidMetH Tryz.prog Rows.wholeFactorsRow.laid w) false (laidWorld os) #[.string ⟨#[]⟩, .slice none 0 0] 8 rfl (by kernel_rfl) (by kernel_rfl) (by kernel_rfl) (by kernel_rfl) (by kernel_rfl) (laidWorld_met os _)) ?_
  intro W base args ds gs before hval0 hW hL hS
  have hW' := hW
  obtain ⟨p, q, hA0, hV0, rfl, hfz, hnd⟩ := hW
  have hA : DataW.TrodAll enc Tryz.prog W 0 (fun _ => true) true [9, 22] args.toList ds p := hA0
  have hV : DataW.TrodVars enc Tryz.prog W (fun _ => true) [] gs q := hV0
  obtain ⟨rfl, rfl⟩ := trodVars_none hV
  obtain ⟨v0, vs0, d0, ds0, p0, q0, ha0, rfl, rfl, hd0, hA0⟩ := trodAll_cons hA
  obtain ⟨v, vs1, d, ds1, p1, q1, ha1, rfl, rfl, hd, hA1⟩ := trodAll_cons hA0
  obtain ⟨rfl, rfl, rfl⟩ := trodAll_nil hA1
  subst ha1
  obtain rfl : args = #[v0, v] := by cases args; simp_all
  obtain ⟨s0, rfl, rfl, rfl, hz0⟩ := Go.ChangeMaps.open_string (by kernel_rfl : Tryz.prog.underlying 9 = some .string) (hval0 0 9 v0 rfl rfl) hd0
  have hok := hval0 1 22 v rfl rfl
  have HW0 := Cn.start_rel hL hS
  obtain ⟨fuel, hf⟩ := hd
  rcases open_ints u22 u3 c3 hf with ⟨hcs, hx⟩ | ⟨a, len, cap, zs, hcs, _, hl, hm, hz, hx, hcell, hwz⟩
  · have hv : v = .slice none 0 0 := by
      rcases list_value hok with h | ⟨a, len, cap, rfl⟩
      · exact h
      · simp [Value.cells] at hcs
    subst hv
    simp only [Prod.mk.injEq] at hx
    obtain ⟨rfl, rfl⟩ := hx
    refine (law_nil s0 HW0).mono fun e W' ⟨ρ', h', he, E⟩ => ?_
    subst he
    refine ⟨_, rfl, [_, _], [], _, [], [], [], hW', ?_, ?_, rfl, Cn.kept_of_ext E _, fun h => by cases h⟩
    · exact trodAll_mk1 (shut_bool (by kernel_rfl : Tryz.prog.underlying 4 = some .bool) true)
    · exact ⟨[], _, (Go.ChangeMaps.shut_string (by kernel_rfl : Tryz.prog.underlying 9 = some .string) hz0), trodAll_mk1 (shut_slice_nil u22), rfl⟩
  · have hv : v = .slice (some a) len cap := by
      rcases list_value hok with rfl | ⟨a', len', cap', rfl⟩
      · simp [Value.cells] at hcs
      · simp [Value.cells] at hcs
        obtain ⟨rfl, rfl, rfl⟩ := hcs
        rfl
    subst hv
    simp only [Prod.mk.injEq] at hx
    obtain ⟨rfl, rfl⟩ := hx
    simp only [if_true] at hz
    obtain ⟨hsp, HW⟩ := start_list HW0 hS hok hz hcell
    refine (law_list s0 (cap := cap) hsp (by omega) HW).mono fun e W' ⟨ρ', h', he, E⟩ => ?_
    subst he
    obtain ⟨hp, hk⟩ := kept_of_ext1 E
    have again : DataW.Trod enc Tryz.prog W' 0 (fun b => decide (b < W.heap.size)) true 22 (.slice (some a) len cap) (.slice (lits .i64 (zs.take len)) (lits .i64 (zs.drop len))) (MemPlace.row a zs.length) := by
      rcases list_again (enc := enc) hl hm hz hcell hwz hp with h | h
      · exact h
      · have h0 : cap = 0 := by omega
        have h00 : len = 0 := by omega
        refine ⟨2, shut_ints 0 u22 u3 c3 (Nat.zero_le _) hl hm ?_ (fun i hi => by omega) hwz⟩
        rw [h, h0, h00]; split <;> rfl
    refine ⟨_, rfl, [_, _], [], _, [], _, [], hW', ?_, ⟨[], _, (Go.ChangeMaps.shut_string (by kernel_rfl : Tryz.prog.underlying 9 = some .string) hz0), trodAll_mk1 again, rfl⟩, rfl, hk _, fun h => by cases h⟩
    exact trodAll_mk1 (shut_bool (by kernel_rfl : Tryz.prog.underlying 4 = some .bool) true)
theorem law_holds : Rows.WholeFactorsSaid :=
  OpenClaim.holds_of_wide_leaving 6 Tryz.f6 rfl rfl rfl rfl rfl rfl rfl ⟨rfl, rfl, rfl, rfl, rfl⟩ rfl rfl rfl rfl rfl (by kernel_rfl) Tryz.func6 factsWholeFactors
    (of_decide_eq_true (by kernel_rfl)) (by unfold Func.isWrapper; first | (rw [if_pos (by decide +kernel)]; kernel_rfl) | (rw [if_neg (by decide +kernel)]; exact ⟨rfl, rfl⟩))
    (fun os started H enc _ => law_lifted os started H enc)
end Go.Proofs.YtjbflfbhfnkmlaaGreatDoor
