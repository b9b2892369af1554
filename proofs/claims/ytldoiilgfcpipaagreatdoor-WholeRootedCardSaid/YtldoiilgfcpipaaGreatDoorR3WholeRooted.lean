/- PROVED: WholeRooted at the commit of this claim: for every list of numbers, whole.Root of the whole number and the exponent that the law draws (at most 30 digits; 1 to 20) returns a whole number whose power is not more than the number, while that of the next number is. Conditions: none but those of the given card (P1.14). -/
import Derived.Test.YtldoiilgfcpipaaGreatDoorR2WholeRooted
import Derived.SevenTold
import Derived.SevenTiedAt
import Derived.Test.YtldoiilgfcpipaaGreatDoorTie
import Derived.Test.YtldoiilgfcpipaaGreatDoorCards
set_option linter.unusedVariables false
set_option linter.unusedSimpArgs false
set_option maxRecDepth 100000
namespace Go.Proofs.YtldoiilgfcpipaaGreatDoor
open Go
set_option maxHeartbeats 4000000 in
theorem law_card:Rows.WholeRootedCardSaid:=by
 have hl: ∀f fn,Tryz.pinned.checked.prog.funcNamed Rows.wholeRootedRow.func=some f→Tryz.pinned.checked.prog.funcs[f]? =some fn→
   true=Tryz.pinned.checked.prog.looks []∧ ∀(j:Nat) t,fn.params[j]? =some t→Tryz.pinned.checked.prog.wantsStandIn t=false:=fun f fn hf hfn=>by
  obtain rfl:f=12:=Option.some.inj ((show Tryz.prog.funcNamed "metewand/metewandlaw01.WholeRooted"=some 12 by as_aux_lemma=>kernel_rfl).symm.trans hf)|>.symm
  obtain rfl:fn=Tryz.f12:=(Option.some.inj (Tryz.func12.symm.trans hfn)).symm
  exact⟨(by as_aux_lemma=>kernel_rfl),fun j t ht=>by
   have h0:Tryz.f12.params= #[22]:=by kernel_rfl
   rw[h0]at ht
   have hw:Tryz.pinned.checked.prog.wantsStandIn 22=false:=by kernel_rfl
   cases j with
   |zero=>cases ht;exact hw
   |succ j=>simp at ht⟩
 refine⟨Claim7.tied_new_at .later [.data,.data,.data,.handle] true
  (Claim7.new_of_sixth law_holds (true,"5b636d659ad764ac209590d385bf5e8b437e903c6188f89a6830ee7befcd27eb") true rfl ⟨rfl,rfl⟩ (by as_aux_lemma=>kernel_rfl) (by as_aux_lemma=>kernel_rfl) hl) (by as_aux_lemma=>kernel_rfl),
  (fun D hD=>by cases hD),wholeRooted_row_tie,(fun h=>by cases h),(by as_aux_lemma=>kernel_rfl)⟩
end Go.Proofs.YtldoiilgfcpipaaGreatDoor
