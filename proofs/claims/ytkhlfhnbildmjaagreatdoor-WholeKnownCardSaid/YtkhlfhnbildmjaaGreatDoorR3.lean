/- PROVED: the law WholeKnown (every known answer that the chapter prints, as the law spells it) returns true, on every schedule and under every order of evaluation that Go leaves open; nothing that was there at the call is touched. Conditions: the package-level variables that its row lists hold what the program text lays (the card ties that). -/
import Derived.Test.YtkhlfhnbildmjaaGreatDoorR2
import Derived.SevenTold
set_option linter.unusedVariables false
set_option linter.unusedSimpArgs false
set_option maxRecDepth 100000
namespace Go.Proofs.YtkhlfhnbildmjaaGreatDoor
open Go

/-- The card of WholeKnown: what its row lists is tied to the program's text. -/
theorem known_card : Rows.WholeKnownCardSaid := by
  have hl : ∀ f fn, Tryz.pinned.checked.prog.funcNamed Rows.wholeKnownRow.func = some f → Tryz.pinned.checked.prog.funcs[f]? = some fn →
      true = Tryz.pinned.checked.prog.looks [] ∧ ∀ (j : Nat) t, fn.params[j]? = some t → Tryz.pinned.checked.prog.wantsStandIn t = false := fun f fn hf hfn => by
    obtain rfl : f = 3 := Option.some.inj ((show Tryz.prog.funcNamed "metewand/metewandlaw01.WholeKnown" = some 3 by as_aux_lemma => kernel_rfl).symm.trans hf) |>.symm
    obtain rfl : fn = Tryz.f3 := (Option.some.inj (Tryz.func3.symm.trans hfn)).symm
    exact ⟨(by as_aux_lemma => kernel_rfl), fun j t ht => by
      have h0 : Tryz.f3.params = #[] := by kernel_rfl
      rw [h0] at ht
      simp at ht⟩
  refine ⟨Claim7.tied_new_at .later [.data, .data, .data, .handle] true
    (Claim7.new_of_sixth known_holds (true, "7be428b71ad2a1bbe2ec5232c5b2745a6058a29185d1f21f984da4f587b54576") true rfl ⟨rfl, rfl⟩ (by as_aux_lemma => kernel_rfl) (by as_aux_lemma => kernel_rfl) hl) (by as_aux_lemma => kernel_rfl),
    (fun D hD => by cases hD), wholeKnown_row_tie, (fun h => by cases h), (by as_aux_lemma => kernel_rfl)⟩
end Go.Proofs.YtkhlfhnbildmjaaGreatDoor
