/- PROVED: WholeFactors at the commit of this claim: for every string of bytes (the law looks at those of at most 420 bytes) and every list of numbers, Factor of the string, and of the number from -2 to 30,000 that the law makes of the list, returns what the reference returns: the same error, or the same list of primes, ascending, whose product is the number. Conditions: none but those of the given card (P1.8). -/
import Derived.Test.YtjbflfbhfnkmlaaGreatDoorR2WholeFactors
import Derived.SevenTold
import Derived.SevenTiedAt
import Derived.Test.YtjbflfbhfnkmlaaGreatDoorTie
import Derived.Test.YtjbflfbhfnkmlaaGreatDoorCards
set_option linter.unusedVariables false
set_option linter.unusedSimpArgs false
set_option maxRecDepth 100000
namespace Go.Proofs.YtjbflfbhfnkmlaaGreatDoor
open Go
set_option maxHeartbeats 4000000 in
theorem law_card : Rows.WholeFactorsCardSaid := by
  have hl : ∀ f fn, Tryz.pinned.checked.prog.funcNamed Rows.wholeFactorsRow.func = some f → Tryz.pinned.checked.prog.funcs[f]? = some fn →
      true = Tryz.pinned.checked.prog.looks [] ∧ ∀ (j : Nat) t, fn.params[j]? = some t → Tryz.pinned.checked.prog.wantsStandIn t = false := fun f fn hf hfn => by
    obtain rfl : f = 6 := Option.some.inj ((show Tryz.prog.funcNamed "metewand/metewandlaw01.WholeFactors" = some 6 by as_aux_lemma => kernel_rfl).symm.trans hf) |>.symm
    obtain rfl : fn = Tryz.f6 := (Option.some.inj (Tryz.func6.symm.trans hfn)).symm
    exact ⟨(by as_aux_lemma => kernel_rfl), fun j t ht => by
      have h0 : Tryz.f6.params = #[9, 22] := by kernel_rfl
      rw [h0] at ht
      have hw9 : Tryz.pinned.checked.prog.wantsStandIn 9 = false := by kernel_rfl
      have hw22 : Tryz.pinned.checked.prog.wantsStandIn 22 = false := by kernel_rfl
      rcases j with _ | _ | j
      · cases ht; exact hw9
      · cases ht; exact hw22
      · simp at ht⟩
  refine ⟨Claim7.tied_new_at .later [.data, .data, .data, .handle] true
    (Claim7.new_of_sixth law_holds (true, "5b636d659ad764ac209590d385bf5e8b437e903c6188f89a6830ee7befcd27eb") true rfl ⟨rfl, rfl⟩ (by as_aux_lemma => kernel_rfl) (by as_aux_lemma => kernel_rfl) hl) (by as_aux_lemma => kernel_rfl),
    (fun D hD => by cases hD), wholeFactors_row_tie, (fun h => by cases h), (by as_aux_lemma => kernel_rfl)⟩
end Go.Proofs.YtjbflfbhfnkmlaaGreatDoor
