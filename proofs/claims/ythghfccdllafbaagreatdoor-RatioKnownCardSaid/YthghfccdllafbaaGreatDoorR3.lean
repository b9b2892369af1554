/- PROVED: the law RatioKnown (every known answer that the chapter prints, as the law spells it) returns true, on every schedule and under every order of evaluation that Go leaves open; nothing that was there at the call is touched. Conditions: the package-level variables that its row lists hold what the program text lays (the card ties that). -/
import Derived.Test.YthghfccdllafbaaGreatDoorR2
import Derived.SevenTold
set_option maxRecDepth 100000
namespace Go.Proofs.YthghfccdllafbaaGreatDoor
open Go

/-- The card of RatioKnown: what its row lists is tied to the program's text. -/
theorem known_card : Rows.RatioKnownCardSaid := by
  have hl : ∀ f fn, Tryz.pinned.checked.prog.funcNamed Rows.ratioKnownRow.func = some f → Tryz.pinned.checked.prog.funcs[f]? = some fn →
      true = Tryz.pinned.checked.prog.looks [] ∧ ∀ (j : Nat) t, fn.params[j]? = some t → Tryz.pinned.checked.prog.wantsStandIn t = false := fun f fn hf hfn => by
    obtain rfl : f = 3 := Option.some.inj ((show Tryz.prog.funcNamed "metewand/metewandlaw02.RatioKnown" = some 3 by kernel_rfl).symm.trans hf) |>.symm
    obtain rfl : fn = Tryz.f3 := (Option.some.inj (Tryz.func3.symm.trans hfn)).symm
    exact ⟨by kernel_rfl, fun j t ht => by
      have h0 : Tryz.f3.params = #[] := by kernel_rfl
      rw [h0] at ht
      simp at ht⟩
  refine ⟨Claim7.tied_new_at .later [.data, .data, .data, .data, .handle, .sentinel, .sentinel, .pinned] true
    (Claim7.new_of_sixth known_holds (true, "239fd5551db47f8db8e33951e21f1a5c60b1ee69596cee90566d3d5db29c885e") true rfl ⟨rfl, rfl⟩ (by kernel_rfl) (by kernel_rfl) hl) (by kernel_rfl),
    (fun D hD => by cases hD), ratioKnown_row_tie, (fun h => by cases h), by kernel_rfl⟩
end Go.Proofs.YthghfccdllafbaaGreatDoor
