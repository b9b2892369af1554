/- PROVED: WholePower at the commit of this claim: for every list of numbers, powers of the number that the law draws (at most 6 digits, exponents up to 25) multiply by the sum of exponents, and PowMod of it is the remainder of its power. Conditions: none but those of the given card (P1.13). -/
import Derived.Test.YtldoiilgfcpipaaGreatDoorR2WholePower
import Derived.SevenTold
import Derived.SevenTiedAt
import Derived.Test.YtldoiilgfcpipaaGreatDoorTie
import Derived.Test.YtldoiilgfcpipaaGreatDoorCards
set_option linter.unusedVariables false
set_option linter.unusedSimpArgs false
set_option maxRecDepth 100000
namespace Go.Proofs.YtldoiilgfcpipaaGreatDoor
open Go
set_option maxHeartbeats 4000000 in
theorem law_card:Rows.WholePowerCardSaid:=by
 have hl: ∀f fn,Tryz.pinned.checked.prog.funcNamed Rows.wholePowerRow.func=some f→Tryz.pinned.checked.prog.funcs[f]? =some fn→
   true=Tryz.pinned.checked.prog.looks []∧ ∀(j:Nat) t,fn.params[j]? =some t→Tryz.pinned.checked.prog.wantsStandIn t=false:=fun f fn hf hfn=>by
  obtain rfl:f=11:=Option.some.inj ((show Tryz.prog.funcNamed "metewand/metewandlaw01.WholePower"=some 11 by as_aux_lemma=>kernel_rfl).symm.trans hf)|>.symm
  obtain rfl:fn=Tryz.f11:=(Option.some.inj (Tryz.func11.symm.trans hfn)).symm
  exact⟨(by as_aux_lemma=>kernel_rfl),fun j t ht=>by
   have h0:Tryz.f11.params= #[22]:=by kernel_rfl
   rw[h0]at ht
   have hw:Tryz.pinned.checked.prog.wantsStandIn 22=false:=by kernel_rfl
   cases j with
   |zero=>cases ht;exact hw
   |succ j=>simp at ht⟩
 refine⟨Claim7.tied_new_at .later [.data,.data,.data,.handle] true
  (Claim7.new_of_sixth law_holds (true,"5b636d659ad764ac209590d385bf5e8b437e903c6188f89a6830ee7befcd27eb") true rfl ⟨rfl,rfl⟩ (by as_aux_lemma=>kernel_rfl) (by as_aux_lemma=>kernel_rfl) hl) (by as_aux_lemma=>kernel_rfl),
  (fun D hD=>by cases hD),wholePower_row_tie,(fun h=>by cases h),(by as_aux_lemma=>kernel_rfl)⟩
end Go.Proofs.YtldoiilgfcpipaaGreatDoor
