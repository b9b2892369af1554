import Derived.Test.YtdgbfelbfhgglaaGreatDoorLD
set_option linter.unusedVariables false
set_option linter.unusedSimpArgs false
namespace Go.AE
open Go
abbrev DX:=Array Bool×List Held×Array Value×AH
def dstep(P:Program)(G:Nat)(nest:FuncId→Array Value→AH→Option (Value×AH))(base:Nat)(ops:Array Oper)(x:DX):Option DX:=
 match x with
 |(listed,gs,tm,h)=>match Region.ready .any ops listed with
  |[]=>none
  |r::rs=>match pick P G ops listed tm h (r::rs) with
   |some (i,v,g)=>some (listed.setIfInBounds i true,g++gs,putA ops i tm v,h)
   |none=>match rs,ops[r]? with
    |[],some o=>if Region.wanted o (yielded ops tm) then match perform P G nest base o r tm h with
      |some (v,h')=>if gs.all (heldOk h' r) then some (listed.setIfInBounds r true,gs.filter fun g=> !g.wt.getD r false,putA ops r tm v,h') else none
      |none=>none
     else none
    |_,_=>none
def diter(st:DX→Option DX):Nat→DX→Option DX
 |0,x=>some x
 |n+1,x=>match st x with
  |some y=>diter st n y
  |none=>none
section
variable {P:Program} {G:Nat} {nest:FuncId→Array Value→AH→Option (Value×AH)} {base:Nat} {ops:Array Oper}
theorem dstep_adraw{x y:DX}(h:dstep P G nest base ops x=some y)(f:Nat)(r:Array Value×AH)(hr:adraw P G nest base ops f y.1 y.2.1 y.2.2.1 y.2.2.2=some r):adraw P G nest base ops (f+1) x.1 x.2.1 x.2.2.1 x.2.2.2=some r:=by
 obtain⟨listed,gs,tm,hh⟩:=x
 unfold dstep at h
 simp only at h ⊢
 unfold adraw
 split at h
 ·cases h
 ·rename_i i is hrd
  simp only[hrd]
  split at h
  ·rename_i j v g hp
   cases h
   simp only[hp]
   exact hr
  ·rename_i hp
   simp only[hp]
   split at h
   case h_2=>cases h
   rename_i o ho
   split at h
   case isFalse=>cases h
   rename_i hw
   split at h
   case h_2=>cases h
   rename_i v h' hpf
   split at h
   case isFalse=>cases h
   rename_i hall
   cases h
   unfold branches
   simp only[ho,hw,if_true,hpf,hall]
   simp only at hr
   rw[hr]
theorem diter_adraw: ∀{n:Nat} {x y:DX},diter (dstep P G nest base ops) n x=some y→ ∀(f:Nat) (r:Array Value×AH),adraw P G nest base ops f y.1 y.2.1 y.2.2.1 y.2.2.2=some r→adraw P G nest base ops (f+n) x.1 x.2.1 x.2.2.1 x.2.2.2=some r
 |0,x,y,h,f,r,hr=>by simp only[diter]at h;cases h;exact hr
 |n+1,x,y,h,f,r,hr=>by
  simp only[diter]at h
  split at h
  ·rename_i z hz
   have:=diter_adraw h f r hr
   exact dstep_adraw hz (f+n) r this
  ·cases h
theorem diter_add{st:DX→Option DX}: ∀{n m:Nat} {x y z:DX},diter st n x=some y→diter st m y=some z→diter st (n+m) x=some z
 |0,m,x,y,z,h,h'=>by simp only[diter]at h;cases h;simpa using h'
 |n+1,m,x,y,z,h,h'=>by
  rw[Nat.succ_add]
  simp only[diter]at h ⊢
  split at h
  ·rename_i u hu;exact diter_add h h'
  ·cases h
theorem drawAll_of_pieces{tm:Array Value}{h:AH}{n:Nat}{y:DX}(hc:(Region.noSelect ops&& !(ops.any fun o=>isDefer o.op))=true)(hd:diter (dstep P G nest h.next ops) n (Array.replicate ops.size false,[],tm,if hasAlloc ops then {h with next:=h.next+ops.size} else h)=some y)
  (hn:n≤ops.size) (he:(Region.ready .any ops y.1).isEmpty=true):adrawAll P G nest ops tm h=some (y.2.2.1,y.2.2.2):=by
 unfold adrawAll
 rw[if_pos hc]
 have hl:Region.ready .any ops y.1=[]:=by simpa using he
 have hend: ∀f,adraw P G nest h.next ops f y.1 y.2.1 y.2.2.1 y.2.2.2=some (y.2.2.1,y.2.2.2):=fun f=>by
  cases f with
  |zero=>unfold adraw;rw[if_pos he]
  |succ f=>unfold adraw;simp only[hl]
 have:=diter_adraw hd (ops.size-n) _ (hend _)
 rwa [Nat.sub_add_cancel hn]at this
theorem drawStep_ok(hmix:P.follows .mixedOrders=true)(hnest:NestOK P G nest){s:AS}{k:List Item}{id:Nat}{tm':Array Value}{h':AH}(hm:s.fr.mode=.run)(ht:s.fr.todo=.code (.region id ops true)::k)(hd:adrawAll P G nest ops s.fr.tmps s.h=some (tm',h'))
  {ρ0:Rho} {s0:AS} {fr0:Frame} {cr cs0:List Frame} {w0:World} (H:StepTo P G ρ0 s0 s fr0 cr cs0 w0):StepTo P G ρ0 s0 ⟨{s.fr with tmps:=tm',todo:=k},s.cs,h'⟩ fr0 cr cs0 w0:=by
 obtain⟨ρ1,fa,ca,wa,H1,E1,S1⟩:=H
 have hm1:=renM_run H1.fr hm
 have htd:=H1.fr.todo
 rw[ht]at htd
 obtain⟨x',k',q1,q2,ht1⟩:=renIs_cons.1 htd
 cases q1
 obtain⟨ρ',tmr,w',g1,g2,g3,g4⟩:=draw_ok hmix hnest ops s.fr.tmps s.h tm' h' hd ρ1 fa (ca++cs0) wa k' id H1.w H1.fr.tmps hm1 ht1
 exact⟨ρ',{fa with tmps:=tmr,todo:=k'},ca,w',⟨⟨H1.fr.fn,g3,renIs_mono g2.le q2,renDs_mono g2.le H1.fr.defers,renM_mono g2.le H1.fr.mode,H1.fr.kind,(H1.fr.mono g2.le).round⟩,H1.cs.mono g2.le,g1⟩,E1.trans g2,S1.trans g4⟩
theorem forget_ok{fr1:Frame}{cs1:List Frame}{hh:AH}{next:Nat}{l:List (Nat×AObj)}(hi:(hh.next,(l.map (·.1)).map hh.get)=(next,l.map fun x=>some x.2)){ρ0:Rho}{s0:AS}{fr0:Frame}{cr cs0:List Frame}{w0:World}
  (H:StepTo P G ρ0 s0 ⟨fr1,cs1,hh⟩ fr0 cr cs0 w0):StepTo P G ρ0 s0 ⟨fr1,cs1,mkH next l⟩ fr0 cr cs0 w0:=
 segS_ok (stp:=fun _=>none) (fun _ h=>by cases h) (n:=0) (by simp only[iter,Option.map_some,look];simp only[Prod.mk.injEq]at hi;rw[hi.1,hi.2]) H
end
end Go.AE
namespace Go.AE
open Go
section
variable {P:Program} {G:Nat}
end
end Go.AE
