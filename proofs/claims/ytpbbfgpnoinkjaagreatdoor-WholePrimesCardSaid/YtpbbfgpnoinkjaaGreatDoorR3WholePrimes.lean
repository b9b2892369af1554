/- PROVED: the law WholePrimes (the factors of each whole number from 1 to 3000 ascend, their product is the number, and none of them has a lesser divisor but 1; and some of the chapter's examples) returns true for every list of numbers, wherever it lies, also for the nil list, on every schedule and under every order of evaluation that Go leaves open; nothing that was there at the call is touched. Conditions: the package-level variables that its row lists hold what the program text lays (the card ties that). -/
import Derived.Test.YtpbbfgpnoinkjaaGreatDoorR2WholePrimes
import Derived.SevenTold
import Derived.SevenTiedAt
import Derived.Test.YtpbbfgpnoinkjaaGreatDoorTie
import Derived.Test.YtpbbfgpnoinkjaaGreatDoorCards
set_option linter.unusedVariables false
set_option linter.unusedSimpArgs false
set_option maxRecDepth 100000
namespace Go.Proofs.YtpbbfgpnoinkjaaGreatDoor
open Go

set_option maxHeartbeats 4000000 in
/-- The card of WholePrimes: what its row lists is tied to the program's text. -/
theorem law_card : Rows.WholePrimesCardSaid := by
  have hl : ∀ f fn, Tryz.pinned.checked.prog.funcNamed Rows.wholePrimesRow.func = some f → Tryz.pinned.checked.prog.funcs[f]? = some fn →
      true = Tryz.pinned.checked.prog.looks [] ∧ ∀ (j : Nat) t, fn.params[j]? = some t → Tryz.pinned.checked.prog.wantsStandIn t = false := fun f fn hf hfn => by
    obtain rfl : f = 14 := Option.some.inj ((show Tryz.prog.funcNamed "metewand/metewandlaw01.WholePrimes" = some 14 by as_aux_lemma => kernel_rfl).symm.trans hf) |>.symm
    obtain rfl : fn = Tryz.f14 := (Option.some.inj (Tryz.func14.symm.trans hfn)).symm
    exact ⟨(by as_aux_lemma => kernel_rfl), fun j t ht => by
      have h0 : Tryz.f14.params = #[22] := by kernel_rfl
      rw [h0] at ht
      have hw : Tryz.pinned.checked.prog.wantsStandIn 22 = false := by kernel_rfl
      cases j with
      | zero => cases ht; exact hw
      | succ j => simp at ht⟩
  refine ⟨Claim7.tied_new_at .later [.data, .data, .data, .handle] true
    (Claim7.new_of_sixth law_holds (true, "5b636d659ad764ac209590d385bf5e8b437e903c6188f89a6830ee7befcd27eb") true rfl ⟨rfl, rfl⟩ (by as_aux_lemma => kernel_rfl) (by as_aux_lemma => kernel_rfl) hl) (by as_aux_lemma => kernel_rfl),
    (fun D hD => by cases hD), wholePrimes_row_tie, (fun h => by cases h), (by as_aux_lemma => kernel_rfl)⟩
end Go.Proofs.YtpbbfgpnoinkjaaGreatDoor
