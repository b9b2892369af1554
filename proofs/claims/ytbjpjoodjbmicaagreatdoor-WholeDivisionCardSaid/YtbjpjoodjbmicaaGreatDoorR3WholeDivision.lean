/- PROVED: WholeDivision (P1.10): for every list of numbers, quotient and remainder of the two whole numbers made of it, both of Floor and of Quo, give the number again, the remainder is nearer to 0 than the divisor and has the sign that the document says, both agree where the signs do, and a divisor 0 gives the code for it -/
import Derived.Test.YtbjpjoodjbmicaaGreatDoorR2WholeDivision
import Derived.SevenTold
import Derived.SevenTiedAt
import Derived.Test.YtbjpjoodjbmicaaGreatDoorTie
import Derived.Test.YtbjpjoodjbmicaaGreatDoorCards
set_option linter.unusedVariables false
set_option linter.unusedSimpArgs false
set_option maxRecDepth 100000
namespace Go.Proofs.YtbjpjoodjbmicaaGreatDoor
open Go
set_option maxHeartbeats 4000000 in
theorem law_card:Rows.WholeDivisionCardSaid:=by
 have hl: ∀f fn,Tryz.pinned.checked.prog.funcNamed Rows.wholeDivisionRow.func=some f→Tryz.pinned.checked.prog.funcs[f]? =some fn→
   true=Tryz.pinned.checked.prog.looks []∧ ∀(j:Nat) t,fn.params[j]? =some t→Tryz.pinned.checked.prog.wantsStandIn t=false:=fun f fn hf hfn=>by
  obtain rfl:f=8:=Option.some.inj ((show Tryz.prog.funcNamed "metewand/metewandlaw01.WholeDivision"=some 8 by as_aux_lemma=>kernel_rfl).symm.trans hf)|>.symm
  obtain rfl:fn=Tryz.f8:=(Option.some.inj (Tryz.func8.symm.trans hfn)).symm
  exact⟨(by as_aux_lemma=>kernel_rfl),fun j t ht=>by
   have h0:Tryz.f8.params= #[22]:=by kernel_rfl
   rw[h0]at ht
   have hw:Tryz.pinned.checked.prog.wantsStandIn 22=false:=by kernel_rfl
   cases j with
   |zero=>cases ht;exact hw
   |succ j=>simp at ht⟩
 refine⟨Claim7.tied_new_at .later [.data,.data,.data,.handle] true
  (Claim7.new_of_sixth law_holds (true,"5b636d659ad764ac209590d385bf5e8b437e903c6188f89a6830ee7befcd27eb") true rfl ⟨rfl,rfl⟩ (by as_aux_lemma=>kernel_rfl) (by as_aux_lemma=>kernel_rfl) hl) (by as_aux_lemma=>kernel_rfl),
  (fun D hD=>by cases hD),wholeDivision_row_tie,(fun h=>by cases h),(by as_aux_lemma=>kernel_rfl)⟩
end Go.Proofs.YtbjpjoodjbmicaaGreatDoor
