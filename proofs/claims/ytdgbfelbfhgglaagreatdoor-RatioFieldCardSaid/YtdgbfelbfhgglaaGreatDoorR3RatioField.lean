/- PROVED: RatioField at the commit of this claim: for every list of numbers, the sums and products of the three rational numbers that the law makes of it (numerators up to 900 away from 0, denominators up to 40) do not depend on order and grouping, products distribute over sums, and a difference undoes a sum and a quotient a product (an error if the divisor is 0). Conditions: none but those of the given card (P2.9). -/
import Derived.Test.YtdgbfelbfhgglaaGreatDoorR2RatioField
import Derived.SevenTold
import Derived.SevenTiedAt
import Derived.Test.YtdgbfelbfhgglaaGreatDoorTie
import Derived.Test.YtdgbfelbfhgglaaGreatDoorCards
set_option linter.unusedVariables false
set_option linter.unusedSimpArgs false
set_option maxRecDepth 100000
namespace Go.Proofs.YtdgbfelbfhgglaaGreatDoor
open Go
set_option maxHeartbeats 4000000 in
theorem law_card : Rows.RatioFieldCardSaid := by
  have hl : ∀ f fn, Tryz.pinned.checked.prog.funcNamed Rows.ratioFieldRow.func = some f → Tryz.pinned.checked.prog.funcs[f]? = some fn →
      true = Tryz.pinned.checked.prog.looks [] ∧ ∀ (j : Nat) t, fn.params[j]? = some t → Tryz.pinned.checked.prog.wantsStandIn t = false := fun f fn hf hfn => by
    obtain rfl : f = 3 := Option.some.inj ((show Tryz.prog.funcNamed "metewand/metewandlaw02.RatioField" = some 3 by as_aux_lemma => kernel_rfl).symm.trans hf) |>.symm
    obtain rfl : fn = Tryz.f3 := (Option.some.inj (Tryz.func3.symm.trans hfn)).symm
    exact ⟨(by as_aux_lemma => kernel_rfl), fun j t ht => by
      have h0 : Tryz.f3.params = #[22] := by kernel_rfl
      rw [h0] at ht
      have hw : Tryz.pinned.checked.prog.wantsStandIn 22 = false := by kernel_rfl
      cases j with
      | zero => cases ht; exact hw
      | succ j => simp at ht⟩
  refine ⟨Claim7.tied_new_at .later [.data, .data, .data, .data, .handle, .sentinel, .sentinel, .pinned] true
    (Claim7.new_of_sixth law_holds (true, "f239029033e51dffedbf419a4b1d69b0c16c68a93c14f3add47f91a85a404117") true rfl ⟨rfl, rfl⟩ (by as_aux_lemma => kernel_rfl) (by as_aux_lemma => kernel_rfl) hl) (by as_aux_lemma => kernel_rfl),
    (fun D hD => by cases hD), ratioField_row_tie, (fun h => by cases h), (by as_aux_lemma => kernel_rfl)⟩
end Go.Proofs.YtdgbfelbfhgglaaGreatDoor
