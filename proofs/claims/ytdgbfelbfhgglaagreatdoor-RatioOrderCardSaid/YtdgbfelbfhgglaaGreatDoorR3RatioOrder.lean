/- PROVED: RatioOrder at the commit of this claim: for every list of numbers, Compare answers on the three rational numbers that the law makes of it (numerators up to 900 away from 0, denominators up to 40) as a total order does: it turns its sign when its arguments are exchanged, it is 0 for equal numbers alone, it is transitive, and it stays the same when a third number is added to both, or when both are multiplied with a number greater than 0. Conditions: none but those of the given card (P2.10). -/
import Derived.Test.YtdgbfelbfhgglaaGreatDoorR2RatioOrder
import Derived.SevenTold
import Derived.SevenTiedAt
import Derived.Test.YtdgbfelbfhgglaaGreatDoorTie
import Derived.Test.YtdgbfelbfhgglaaGreatDoorCards
set_option linter.unusedVariables false
set_option linter.unusedSimpArgs false
set_option maxRecDepth 100000
namespace Go.Proofs.YtdgbfelbfhgglaaGreatDoor
open Go
set_option maxHeartbeats 4000000 in
theorem law_card:Rows.RatioOrderCardSaid:=by
 have hl: ∀f fn,Tryz.pinned.checked.prog.funcNamed Rows.ratioOrderRow.func=some f→Tryz.pinned.checked.prog.funcs[f]? =some fn→
   true=Tryz.pinned.checked.prog.looks []∧ ∀(j:Nat) t,fn.params[j]? =some t→Tryz.pinned.checked.prog.wantsStandIn t=false:=fun f fn hf hfn=>by
  obtain rfl:f=4:=Option.some.inj ((show Tryz.prog.funcNamed "metewand/metewandlaw02.RatioOrder"=some 4 by as_aux_lemma=>kernel_rfl).symm.trans hf)|>.symm
  obtain rfl:fn=Tryz.f4:=(Option.some.inj (Tryz.func4.symm.trans hfn)).symm
  exact⟨(by as_aux_lemma=>kernel_rfl),fun j t ht=>by
   have h0:Tryz.f4.params= #[22]:=by kernel_rfl
   rw[h0]at ht
   have hw:Tryz.pinned.checked.prog.wantsStandIn 22=false:=by kernel_rfl
   cases j with
   |zero=>cases ht;exact hw
   |succ j=>simp at ht⟩
 refine⟨Claim7.tied_new_at .later [.data,.data,.data,.data,.handle,.sentinel,.sentinel,.pinned] true
  (Claim7.new_of_sixth law_holds (true,"f239029033e51dffedbf419a4b1d69b0c16c68a93c14f3add47f91a85a404117") true rfl ⟨rfl,rfl⟩ (by as_aux_lemma=>kernel_rfl) (by as_aux_lemma=>kernel_rfl) hl) (by as_aux_lemma=>kernel_rfl),
  (fun D hD=>by cases hD),ratioOrder_row_tie,(fun h=>by cases h),(by as_aux_lemma=>kernel_rfl)⟩
end Go.Proofs.YtdgbfelbfhgglaaGreatDoor
