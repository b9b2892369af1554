import Derived.Test.YtjbflfbhfnkmlaaGreatDoorLD
import Derived.Sort.Grow
import Derived.Deep.Draws
import Derived.Lib.LaidTab
import Derived.Test.YtjbflfbhfnkmlaaGreatDoorLC
import Derived.ChangeSlices
import Derived.Laws.MakeOwn
import Derived.Laws.RangeString
import Derived.Lib.ItoaNum
set_option linter.unusedVariables false
set_option linter.unusedSimpArgs false
namespace Go.AE
open Go
section
variable {P:Program} {G:Nat} {ρ:Rho} {h:AH} {w:World}
def PerfR(P:Program)(G:Nat)(base i:Nat)(o:Oper)(tm:Array Value)(h:AH)(v:Value)(h':AH):Prop:=
 ∃nest,Dt P G nest∧Hy P G nest base o i tm h=some (v,h')
theorem perf_aop{base i:Nat}{o:Oper}{tm:Array Value}{v:Value}{h':AH}(hn:isAlloc o.op=false)(h1:Nt P G h (Yy tm) o=some (.val v h')):PerfR P G base i o tm h v h':=by
 refine⟨Ub,Kq,?_⟩
 unfold Hy
 split
 ·rename_i t q
  rw[q]at hn
  cases hn
 ·rw[h1]
theorem perf_call{base i:Nat}{o:Oper}{tm:Array Value}{v:Value}{h':AH}{f:FuncId}{args:Array Value}(hn:isAlloc o.op=false)(h1:Nt P G h (Yy tm) o=some (.enter f args))(h2:CSp P G f args h v h'):PerfR P G base i o tm h v h':=by
 classical
 refine⟨fun f' a' g'=>if f'=f∧a'=args∧g'=h then some (v,h') else none,fun f' a' g' v' g2 e=> ?_,?_⟩
 ·dsimp only at e
  split at e
  ·rename_i q
   obtain⟨rfl,rfl,rfl⟩:=q
   cases e
   exact h2
  ·cases e
 ·unfold Hy
  split
  ·rename_i t q
   rw[q]at hn
   cases hn
  ·rw[h1]
   simp
def SubH(h h':AH):Prop:=h'.next=h.next∧ ∀i o,h'.get i=some o→h.get i=some o
def ADR(P:Program)(G:Nat)(base:Nat)(ops:Array Oper)(res:Array Value×AH):Nat→Array Bool→List Held→Array Value→AH→Prop
 |0,listed,_,tm,h=>Region.ready .any ops listed=[]∧tm=res.1∧SubH h res.2
 |f+1,listed,gs,tm,h=>
  (Region.ready .any ops listed=[]∧tm=res.1∧SubH h res.2)∨
  (∃i v g,pick P G ops listed tm h (Region.ready .any ops listed)=some (i,v,g)∧ADR P G base ops res f (listed.setIfInBounds i true) (g++gs) (Tg ops i tm v) h)∨
  (Region.ready .any ops listed≠[]∧ ∀i∈Region.ready .any ops listed,∃o v h',ops[i]? =some o∧Region.wanted o (yielded ops tm)=true∧PerfR P G base i o tm h v h'∧
   (∀g∈gs,g.wt.getD i false=true∨Mu h' g)∧ADR P G base ops res f (listed.setIfInBounds i true) (gs.filter fun g=> !g.wt.getD i false) (Tg ops i tm v) h')
theorem held_afterP{ρ':Rho}{h':AH}{w':World}(W':WR G ρ' h' w')(hle:ρ.le ρ')(i:Nat): ∀{gs:List Held} {Γ:List Mt},HeldsR ρ gs Γ→(∀g∈gs,g.wt.getD i false=true∨Mu h' g)→
  (∀g∈Γ,g.2 i=true→g.1 w')∧HeldsR ρ' (gs.filter fun g=> !g.wt.getD i false) (Γ.filter fun g=>g.2 i)
 |[],[],_,_=>⟨by simp,by simp[HeldsR]⟩
 |g::gs,W::Γ,⟨⟨h1,b,l',h2,h3,h4⟩,hr⟩,hall=>by
  obtain⟨i1,i2⟩:=held_afterP W' hle i hr fun x hx=>hall x (List.mem_cons_of_mem _ hx)
  have hW2:W.2 i= !g.wt.getD i false:=by rw[h1]
  have hg:=hall g (List.mem_cons_self ..)
  refine⟨fun V hV hVi=> ?_,?_⟩
  ·rcases List.mem_cons.1 hV with rfl|hV
   ·rw[hW2]at hVi
    simp only[Bool.not_eq_true']at hVi
    rw[hVi]at hg
    rcases hg with hg|hg
    ·cases hg
    ·obtain⟨l2,r1,r2,r3⟩:=Kg W' hg (Lo hle h2)
     rw[Ec hle _ _ h3]at r1
     cases r1
     rw[h4]
     exact r3
   ·exact i1 V hV hVi
  ·simp only[List.filter_cons,hW2]
   by_cases q:g.wt.getD i false=true
   ·simp only[q,Bool.not_true,Bool.false_eq_true,if_false];exact i2
   ·simp only[Bool.not_eq_true]at q
    simp only[q,Bool.not_false,if_true]
    exact⟨⟨h1,b,l',Lo hle h2,Ec hle _ _ h3,h4⟩,i2⟩
 |[],_::_,x,_|_::_,[],x,_=>x.elim
theorem adr_ok{base:Nat}{ops:Array Oper}(hns:Region.noSelect ops=true){ρ0:Rho}{h0:AH}{w0:World}(hbase:h0.next=base){ds:List Deferred}{res:Array Value×AH}:
  ∀{f:Nat} {listed:Array Bool} {gs:List Held} {tm:Array Value} {h:AH},ADR P G base ops res f listed gs tm h→
  ∀{ρ:Rho} {a:Act} {w:World} {Γ:List Mt},WR G ρ h w→Ext ρ0 h0 w0 ρ h w→Ai ρ tm=some a.tmps→a.defers=ds→HeldsR ρ gs Γ→(∀g∈Γ,g.1 w)→
   (Bm ops=true→base+ops.size≤h.next)→base≤h.next→(Bm ops=true→ ∀k,k<ops.size→listed.getD k true=false→ρ.blk (base+k)=none)→wpX P .any ops (DrawQ G ρ0 h0 w0 ds res) Γ f listed a w
 |0,listed,gs,tm,h,hd,ρ,a,w,Γ,H,E,ht,hdf,hG,hΓ,hn,hbn,hΩ=>by
  unfold ADR at hd
  obtain⟨hr,rfl,hs⟩:=hd
  exact⟨hr,rfl,hdf,ρ,H.sub hs.1 hs.2,E.sub hs.1 hs.2,ht⟩
 |f+1,listed,gs,tm,h,hd,ρ,a,w,Γ,H,E,ht,hdf,hG,hΓ,hn,hbn,hΩ=>by
  unfold ADR at hd
  rcases hd with⟨hr,rfl,hs⟩|⟨i,v,g,hp,hd⟩|⟨hr,hd⟩
  ·exact⟨fun _=>⟨rfl,hdf,ρ,H.sub hs.1 hs.2,E.sub hs.1 hs.2,ht⟩,fun i hi=>(by rw[hr]at hi;cases hi)⟩
  ·
   obtain⟨hmem,o,v',wt,S,ho,hk,hv,hy,hS,hg⟩:=pick_ok (P:=P) H ht hp
   obtain⟨k1,k2⟩:=Rp ho hk
   have hpd:(a.put o.dst v').defers=ds:=by
    cases o.dst<;>exact hdf
   have hΩ':Bm ops=true→ ∀k,k<ops.size→(listed.setIfInBounds i true).getD k true=false→ρ.blk (base+k)=none:=fun hal k hk hun=>by
    refine hΩ hal k hk ?_
    by_cases q:i=k
    ·subst q
     exact (mem_ready.1 hmem).1
    ·rw[getD_set_ne true q]at hun;exact hun
   refine Vj ho (Region.noSelect_spec hns) (fun c a w q=>by cases q.1) f Γ listed a w k1 k2 hmem hy hS hΓ ?_
   rcases hg with⟨rfl,hall⟩|⟨g0,rfl,hg0⟩
   ·have:=adr_ok hns hbase hd H E (Gz ho ht hv) hpd hG hΓ hn hbn hΩ'
    exact Tf _ _ _ _ _ _ (fun q hq=>by
     rcases List.mem_cons.1 hq with rfl|hq
     ·exact .inr hall
     ·exact .inl hq) this
   ·exact adr_ok hns hbase hd H E (Gz ho ht hv) hpd (Γ:=(S,fun j=> !wt.getD j false)::Γ) ⟨hg0,hG⟩ (fun q hq=>by
     rcases List.mem_cons.1 hq with rfl|hq
     ·exact hS
     ·exact hΓ q hq) hn hbn hΩ'
  ·
   refine⟨fun q=>absurd q hr,fun i hi=> ?_⟩
   obtain⟨o,v,h',ho,hw,⟨nest,hnest,hpf⟩,hall,hrec⟩:=hd i hi
   have hw':Region.wanted o (yielded ops a.tmps)=true:=by rw[Hr ht];exact hw
   have hisz:=(Array.getElem?_eq_some_iff.1 ho).1
   have hun:=(mem_ready.1 hi).1
   have hal:(∃t,o.op=.alloc t)→Bm ops=true:=fun⟨t,q⟩=>by
    unfold Bm
    exact Array.any_eq_true'.2 ⟨o,Array.mem_of_getElem? ho,by rw[q]⟩
   refine Tr hnest hpf H ht ho hw' (fun q=>hΩ (hal q) i hisz hun) hbn fun ρ' v' w' W' E' hlow hnx hv'=> ?_
   have E2:=(E.cast (n:=base) (by omega)).trans E'
   obtain⟨c1,c2⟩:=held_afterP W' E'.le i hG hall
   refine⟨c1,adr_ok hns hbase hrec W' E2 (Gz ho (Bx E'.le _ _ ht) hv') ?_ c2 (fun g hg=>c1 g (List.mem_filter.1 hg).1 (List.mem_filter.1 hg).2) (fun q=>Nat.le_trans (hn q) hnx) (Nat.le_trans hbn hnx) fun hala k hk hunk=> ?_⟩
   ·cases o.dst<;>exact hdf
   ·have hki:k≠i:=by
     rintro rfl
     have hls:k<listed.size:=by
      rcases Nat.lt_or_ge k listed.size with q|q
      ·exact q
      ·simp[Array.getElem?_eq_none q]at hun
     simp[hls]at hunk
    have hold:listed.getD k true=false:=by rw[getD_set_ne true (Ne.symm hki)]at hunk;exact hunk
    have q:=hn hala
    rw[hlow k hki (by omega)]
    exact hΩ hala k hk hold
def roomH(ops:Array Oper)(h:AH):AH:=if Bm ops then {h with next:=h.next+ops.size} else h
open Classical in
noncomputable def oneDraw(ops:Array Oper)(tm:Array Value)(h:AH)(r:Array Value×AH):Array Oper→Array Value→AH→Option (Array Value×AH):=
 fun ops' tm' h'=>if ops'=ops∧tm'=tm∧h'=h then some r else none
theorem oneDraw_ok(Eh:P.follows .mixedOrders=true){ops:Array Oper}{tm:Array Value}{h:AH}{r:Array Value×AH}(hns:(Region.noSelect ops&& !(ops.any fun o=>Gv o.op))=true)
  (hd:ADR P G h.next ops r ops.size (Array.replicate ops.size false) [] tm (roomH ops h)):Ky P G (oneDraw ops tm h r):=by
 intro ops1 tm1 h1 tm' h' hd1 ρ fr cs w k id H ht hm hto
 unfold oneDraw at hd1
 split at hd1
 case isFalse=>cases hd1
 rename_i hc1
 obtain⟨rfl,rfl,rfl⟩:=hc1
 cases hd1
 simp only[Bool.and_eq_true,Bool.not_eq_true',Array.any_eq_false]at hns
 obtain⟨hns,hnd⟩:=hns
 have hnd': ∀(j:Nat) (o:Oper) c,ops1[j]? =some o→o.op≠.defer c:=fun j o c hj q=>by
  obtain⟨hlt,e⟩:=Array.getElem?_eq_some_iff.1 hj
  have:=hnd j hlt
  rw[e,q]at this
  simp[Gv]at this
 let w1:World:={w with drawn:=w.drawn+1}
 have H1:WR G ρ h1 w1:=H.drawn _
 have E1:Ext ρ h1 w ρ h1 w1:=Ext.drawn _ _ _ _
 have hX:wpX P .any ops1 (DrawQ G ρ h1 w fr.defers (tm',h')) [] ops1.size (Array.replicate ops1.size false) ⟨fr.tmps,fr.defers⟩ w1:=
  by
   unfold roomH at hd
   by_cases hal:Bm ops1=true
   ·rw[if_pos hal]at hd
    exact adr_ok hns rfl hd (H1.cast (n:=h1.next+ops1.size) (by omega)) (E1.cast (n:=h1.next+ops1.size) (by omega)) ht rfl (Γ:=[]) (by exact trivial) (by simp) (fun _=>Nat.le_refl _) (by simp) (fun _ k _ _=>H.fresh _ (by omega))
   ·rw[if_neg hal]at hd
    exact adr_ok hns rfl hd H1 E1 ht rfl (Γ:=[]) (by exact trivial) (by simp) (fun q=>absurd q hal) (Nat.le_refl _) (fun q=>absurd q hal)
 have hA:=Ny _ _ _ _ _ hX
 have hO:=wpAny_sound ops1.size (w.tape w.drawn (.order fr.fn id)) _ _ _ hA
 obtain⟨fn,tmps,todo,defers,mode,kind,ro⟩:=fr
 simp only at hto hm hO
 subst hto
 subst hm
 obtain⟨a',w',⟨_,hdf,ρ',q1,q2,q3⟩,hst⟩:=Lq hnd' (fun e a w hq=>hq.1) (fn:=fn) (kind:=kind) (ro:=ro) (k:=k) (cs:=cs) _ _ _ _ hO
 refine⟨ρ',a'.tmps,w',q1,q2,q3,.head ?_ (by simpa [hdf] using hst)⟩
 refine step_lone_go ?_
 simp only[stepG,stepG.exec]
 simp[choose,Sem.run,Question.forced,Question.cut,Region.schedule,Eh,Region.linearise]
 rfl
theorem gets_drawR(Eh:P.follows .mixedOrders=true){s:AS}{ops:Array Oper}{k:List Item}(hc:Ls s=some (ops,k)){r:Array Value×AH}(hns:(Region.noSelect ops&& !(ops.any fun o=>Gv o.op))=true)
  (hd:ADR P G s.h.next ops r ops.size (Array.replicate ops.size false) [] s.fr.tmps (roomH ops s.h)):Gets P G s ⟨{s.fr with tmps:=r.1,todo:=k},s.cs,r.2⟩:=fun _ _ _ _ _ H=>by
 refine Sv (Kq (P:=P) (G:=G)) (oneDraw_ok Eh hns hd) H ?_
 have hone:oneDraw ops s.fr.tmps s.h r ops s.fr.tmps s.h=some r:=by
  unfold oneDraw
  rw[if_pos ⟨rfl,rfl,rfl⟩]
 unfold Ls at hc
 split at hc
 case h_2=>cases hc
 rename_i hm
 split at hc
 case h_2=>cases hc
 rename_i id ops' k' ht
 cases hc
 have hctl:ctl ({tmps:=s.fr.tmps,defers:=[]}:Act).eval (Item.code (Code.region id ops true)::k)=none:=rfl
 unfold Up
 simp only[hm,hctl,ht,hone,Option.map_some]
structure EndD where
 tm:Array Value
 next:Nat
 l:List (Nat×AObj)
def endEq(E:EndD)(tm:Array Value)(h:AH):Prop:=(tm,h.next,E.l.map fun x=>h.get x.1)=(E.tm,E.next,E.l.map fun x=>some x.2)
def Zy(E:EndD):Prop:=(E.tm,E.next,E.l.map fun x=>some x.2)=(E.tm,E.next,E.l.map fun x=>some x.2)
def Uy(i:Nat)(h h':AH):List Held→Prop
 |[]=>True
 |g::gs=>if g.wt.getD i false then Uy i h h' gs else (h'.get g.a.block=h.get g.a.block∧Uy i h h' gs)
def drawBs(P:Program)(G:Nat)(base:Nat)(ora:List (Nat×Ans))(calls:List CallA)(ops:Array Oper)(rec_:Nat→List Held→Array Value→AH→Option Prop)(gs:List Held)(tm:Array Value)(h:AH):List Nat→Option Prop
 |[]=>some True
 |r::rs=>
  match drawBs P G base ora calls ops rec_ gs tm h rs,ops[r]? with
  |some qs,some o=>if Region.wanted o (yielded ops tm) then
    if isAlloc o.op then match Hy P G Ub base o r tm h with
     |some (v,h')=>match rec_ r (gs.filter fun g=> !g.wt.getD r false) (Tg ops r tm v) h' with
      |some q=>some ((Uy r h h' gs∧q)∧qs)
      |none=>none
     |none=>none
    else
    match calls.find? (fun c=>Nat.beq c.i r) with
    |some c=>match Nt P G h (Yy tm) o with
     |some (.enter fn args)=>
      match rec_ r (gs.filter fun g=> !g.wt.getD r false) (Tg ops r tm c.v) (Cp (Ce h c.writes) c.news) with
      |some q=>some ((FSp P G fn args h.next (c.ids.filterMap fun i=>(h.get i).map fun o=>(i,o)) c.v c.writes c.news∧Uy r h (Cp (Ce h c.writes) c.news) gs∧q)∧qs)
      |none=>none
     |_=>none
    |none=>match (match ora.find? (fun x=>Nat.beq x.1 r) with|some x=>sop P G h (Yy tm) o x.2|none=>(Nt P G h (Yy tm) o).map fun r=>(r,True)) with
     |some (.val v h',p)=>match rec_ r (gs.filter fun g=> !g.wt.getD r false) (Tg ops r tm v) h' with
      |some q=>some ((p∧Uy r h h' gs∧q)∧qs)
      |none=>none
     |_=>none
   else none
  |_,_=>none
def drawB(P:Program)(G:Nat)(base:Nat)(ora:List (Nat×Ans))(calls:List CallA)(E:EndD)(ops:Array Oper):Nat→Array Bool→List Held→Array Value→AH→Option Prop
 |0,listed,_,tm,h=>if (Region.ready .any ops listed).isEmpty then some (endEq E tm h) else none
 |f+1,listed,gs,tm,h=>
  match Region.ready .any ops listed with
  |[]=>some (endEq E tm h)
  |r::rs=>match Zi P G ora ops listed tm h (r::rs) with
   |some (i,v,g,p)=>(drawB P G base ora calls E ops f (listed.setIfInBounds i true) (g++gs) (Tg ops i tm v) h).map fun q=>p∧q
   |none=>drawBs P G base ora calls ops (fun i gs tm h=>drawB P G base ora calls E ops f (listed.setIfInBounds i true) gs tm h) gs tm h (r::rs)
theorem Nu{i:Nat}{h h':AH}: ∀{gs:List Held},Uy i h h' gs→(∀g∈gs,Mu h g)→ ∀g∈gs,g.wt.getD i false=true∨Mu h' g
 |[],_,_,g,hg=>by cases hg
 |x::gs,hp,hv,g,hg=>by
  unfold Uy at hp
  split at hp
  ·rename_i hw
   rcases List.mem_cons.1 hg with rfl|hg
   ·exact .inl hw
   ·exact Nu hp (fun y hy=>hv y (List.mem_cons_of_mem _ hy)) g hg
  ·rcases List.mem_cons.1 hg with rfl|hg
   ·right
    have:=hv g (List.mem_cons_self ..)
    unfold Mu Cg at this ⊢
    rw[hp.1]
    exact this
   ·exact Nu hp.2 (fun y hy=>hv y (List.mem_cons_of_mem _ hy)) g hg
theorem endEq_ok{E:EndD}{tm:Array Value}{h:AH}(he:endEq E tm h):tm=E.tm∧SubH h (Ac E.next E.l):=by
 unfold endEq at he
 simp only[Prod.mk.injEq]at he
 obtain⟨h1,h2,h3⟩:=he
 refine⟨h1,?_,fun i o e=> ?_⟩
 ·rw[h2];exact Hb _ E.l _ rfl
 ·rcases Kx E.l _ i o e with q|q
  ·obtain⟨j,hj,e⟩:=List.mem_iff_getElem.1 q
   have:=congrArg (fun (m:List (Option AObj))=>m[j]?) h3
   simp[List.getElem?_eq_getElem hj,e]at this
   exact this
  ·simp[AH.get,T.get]at q
theorem Vp{base:Nat}{ora:List (Nat×Ans)}{calls:List CallA}{ops:Array Oper}{rec_:Nat→List Held→Array Value→AH→Option Prop}{R:Nat→List Held→Array Value→AH→Prop}{gs:List Held}{tm:Array Value}{h:AH}(hv: ∀g∈gs,Mu h g)
  (hR: ∀i gs tm h q,rec_ i gs tm h=some q→q→(∀g∈gs,Mu h g)→R i gs tm h): ∀(rs:List Nat) {p:Prop},drawBs P G base ora calls ops rec_ gs tm h rs=some p→p→
  ∀i∈rs,∃o v h',ops[i]? =some o∧Region.wanted o (yielded ops tm)=true∧PerfR P G base i o tm h v h'∧
   (∀g∈gs,g.wt.getD i false=true∨Mu h' g)∧R i (gs.filter fun g=> !g.wt.getD i false) (Tg ops i tm v) h'
 |[],p,hs,hp,i,hi=>by cases hi
 |r::rs,p,hs,hp,i,hi=>by
  unfold drawBs at hs
  split at hs
  case h_2=>cases hs
  rename_i qs o hqs ho
  split at hs
  case isFalse=>cases hs
  rename_i hcond
  have keep: ∀{h':AH},Uy r h h' gs→ ∀g∈gs.filter (fun g=> !g.wt.getD r false),Mu h' g:=fun hk g hg=>by
   obtain⟨hm,hw⟩:=List.mem_filter.1 hg
   rcases Nu hk hv g hm with q|q
   ·rw[q]at hw;cases hw
   ·exact q
  split at hs
  ·split at hs
   case h_2=>cases hs
   rename_i v h' hpf
   split at hs
   case h_2=>cases hs
   rename_i q hq
   cases hs
   obtain⟨⟨p2,p3⟩,p4⟩:=hp
   rcases List.mem_cons.1 hi with rfl|hi
   ·exact⟨o,v,h',ho,hcond,⟨Ub,Kq,hpf⟩,Nu p2 hv,hR _ _ _ _ _ hq p3 (keep p2)⟩
   ·exact Vp hv hR rs hqs p4 i hi
  rename_i hnal
  have hnal':isAlloc o.op=false:=by simpa using hnal
  split at hs
  ·rename_i c hc
   split at hs
   case h_2=>cases hs
   rename_i fn args ha
   split at hs
   case h_2=>cases hs
   rename_i q hq
   cases hs
   obtain⟨⟨p1,p2,p3⟩,p4⟩:=hp
   rcases List.mem_cons.1 hi with rfl|hi
   ·refine⟨o,c.v,_,ho,hcond,perf_call hnal' ha (p1 h rfl fun z hz=> ?_),Nu p2 hv,hR _ _ _ _ _ hq p3 (keep p2)⟩
    obtain⟨j,_,hj⟩:=List.mem_filterMap.1 hz
    obtain⟨o,ho,rfl⟩:=Option.map_eq_some_iff.1 hj
    exact ho
   ·exact Vp hv hR rs hqs p4 i hi
  ·split at hs
   case h_2=>cases hs
   rename_i v h' p0 hop
   split at hs
   case h_2=>cases hs
   rename_i q hq
   cases hs
   obtain⟨⟨p1,p2,p3⟩,p4⟩:=hp
   rcases List.mem_cons.1 hi with rfl|hi
   ·have hao:Nt P G h (Yy tm) o=some (.val v h'):=by
     split at hop
     ·exact sop_ok hop p1
     ·obtain⟨r1,e1,e2⟩:=Option.map_eq_some_iff.1 hop
      cases e2
      exact e1
    exact⟨o,v,h',ho,hcond,perf_aop hnal' hao,Nu p2 hv,hR _ _ _ _ _ hq p3 (keep p2)⟩
   ·exact Vp hv hR rs hqs p4 i hi
theorem drawB_ok{base:Nat}{ora:List (Nat×Ans)}{calls:List CallA}{E:EndD}{ops:Array Oper}: ∀(f:Nat) {listed:Array Bool} {gs:List Held} {tm:Array Value} {h:AH} {p:Prop},drawB P G base ora calls E ops f listed gs tm h=some p→p→(∀g∈gs,Mu h g)→
  ADR P G base ops (E.tm,Ac E.next E.l) f listed gs tm h
 |0,listed,gs,tm,h,p,hs,hp,hv=>by
  unfold drawB at hs
  split at hs
  case isFalse=>cases hs
  rename_i hr
  cases hs
  unfold ADR
  exact⟨by simpa using hr,endEq_ok hp⟩
 |f+1,listed,gs,tm,h,p,hs,hp,hv=>by
  unfold drawB at hs
  unfold ADR
  split at hs
  ·rename_i hr
   cases hs
   exact .inl ⟨hr,endEq_ok hp⟩
  rename_i r rs hr
  split at hs
  ·rename_i i v g p1 hpk
   obtain⟨q,hq,rfl⟩:=Option.map_eq_some_iff.1 hs
   refine .inr (.inl ⟨i,v,g,?_,drawB_ok f hq hp.2 fun x hx=> ?_⟩)
   ·rw[hr];exact Uz hpk hp.1
   ·rcases List.mem_append.1 hx with y|y
    ·exact pick_held (Uz hpk hp.1) x y
    ·exact hv x y
  ·refine .inr (.inr ⟨by rw[hr];simp,fun i hi=> ?_⟩)
   rw[hr]at hi
   exact Vp (R:=fun i gs tm h=>ADR P G base ops (E.tm,Ac E.next E.l) f (listed.setIfInBounds i true) gs tm h) hv (fun i gs tm h q hq hp hv=>drawB_ok f hq hp hv) (r::rs) hs hp i hi
def drawAllB(P:Program)(G:Nat)(ora:List (Nat×Ans))(calls:List CallA)(E:EndD)(ops:Array Oper)(tm:Array Value)(h:AH):Option Prop:=
 if Region.noSelect ops&& !(ops.any fun o=>Gv o.op) then drawB P G h.next ora calls E ops ops.size (Array.replicate ops.size false) [] tm (roomH ops h) else none
theorem gets_drawB(Eh:P.follows .mixedOrders=true){s:AS}{ops:Array Oper}{k:List Item}(hc:Ls s=some (ops,k)){ora:List (Nat×Ans)}{calls:List CallA}{E:EndD}{p:Prop}(hs:drawAllB P G ora calls E ops s.fr.tmps s.h=some p)(hp:p):
  Gets P G s ⟨{s.fr with tmps:=E.tm,todo:=k},s.cs,Ac E.next E.l⟩:=by
 unfold drawAllB at hs
 split at hs
 case isFalse=>cases hs
 rename_i hns
 exact gets_drawR Eh hc hns (drawB_ok _ hs hp fun g hg=>by cases hg)
end
end Go.AE
namespace Go.AE
open Go
inductive Ev where
 |stay
 |op (a:Ans)
 |drw (ora:List (Nat×Ans))
 |drwM (ora:List (Nat×Ans)) (calls:List CallA)
 |drwB (ora:List (Nat×Ans)) (calls:List CallA) (e:EndD)
 |call (ids:List Nat) (v:Value) (writes:List (Nat×Option AObj)) (news:List AObj)
section
variable {P:Program} {G:Nat}
def Aa5(P:Program)(G:Nat)(hk:FuncId→Array Value→AH→Option (Value×AH))(draw:Array Oper→Array Value→AH→Option (Array Value×AH)):List (Nat×Ev)→AS→Option (AS×Prop)
 |[],s=>some (s,True)
 |x::l,s=>match iter (Up P G hk draw) x.1 s with
  |none=>none
  |some s1=>match x.2 with
   | .stay=>Aa5 P G hk draw l s1
   | .drw ora=>match Ls s1 with
     |some (ops,k)=>match Yr P G ora ops s1.fr.tmps s1.h with
      |some (tm,p)=>match Aa5 P G hk draw l ⟨{s1.fr with tmps:=tm,todo:=k},s1.cs,s1.h⟩ with
       |some (s2,q)=>some (s2,p∧q)
       |none=>none
      |none=>none
     |none=>none
   | .drwM ora calls=>match Ls s1 with
     |some (ops,k)=>match Yd P G ora calls ops s1.fr.tmps s1.h with
      |some (r,p)=>match Aa5 P G hk draw l ⟨{s1.fr with tmps:=r.1,todo:=k},s1.cs,r.2⟩ with
       |some (s2,q)=>some (s2,p∧q)
       |none=>none
      |none=>none
     |none=>none
   | .drwB ora calls e=>match Ls s1 with
     |some (ops,k)=>match drawAllB P G ora calls e ops s1.fr.tmps s1.h with
      |some p=>match Aa5 P G hk draw l ⟨{s1.fr with tmps:=e.tm,todo:=k},s1.cs,Ac e.next e.l⟩ with
       |some (s2,q)=>some (s2,p∧q)
       |none=>none
      |none=>none
     |none=>none
   | .call ids v writes news=>match curOp s1 with
     |some o=>match Nt P G s1.h ({tmps:=s1.fr.tmps,defers:=[]}:Act).eval o with
      |some (.enter f args)=>match Aa5 P G hk draw l ⟨s1.fr.finish v,s1.cs,Cp (Ce s1.h writes) news⟩ with
       |some (s2,q)=>some (s2,FSp P G f args s1.h.next (ids.filterMap fun i=>(s1.h.get i).map fun o=>(i,o)) v writes news∧q)
       |none=>none
      |_=>none
     |none=>none
   | .op a=>match curOp s1 with
     |some o=>match sop P G s1.h ({tmps:=s1.fr.tmps,defers:=[]}:Act).eval o a with
      |some (r,p)=>match Ng P Ub s1.fr s1.cs s1.h r with
       |some s2=>match Aa5 P G hk draw l s2 with
        |some (s3,q)=>some (s3,p∧q)
        |none=>none
       |none=>none
      |none=>none
     |none=>none
theorem srun_ok(Eh:P.follows .mixedOrders=true){hk:FuncId→Array Value→AH→Option (Value×AH)}(hhk:Dt P G hk){draw:Array Oper→Array Value→AH→Option (Array Value×AH)}(hdraw:Ky P G draw):
  ∀{l:List (Nat×Ev)} {s s':AS} {p:Prop},Aa5 P G hk draw l s=some (s',p)→p→Gets P G s s':=by
 intro l
 induction l with
 |nil=>
  intro s s' p h _
  simp only[Aa5]at h
  cases h
  exact Gets.refl s
 |cons x l ih=>
  intro s s' p h hp
  simp only[Aa5]at h
  split at h
  ·cases h
  rename_i s1 hi
  refine (reach_iter hhk hdraw hi).trans ?_
  split at h
  ·exact ih h hp
  ·split at h
   case h_2=>cases h
   rename_i ops k hc
   split at h
   case h_2=>cases h
   rename_i tm p1 hd
   split at h
   case h_2=>cases h
   rename_i s2 q hq
   cases h
   exact (gets_draw Eh hc hd hp.1).trans (ih hq hp.2)
  ·split at h
   case h_2=>cases h
   rename_i ops k hc
   split at h
   case h_2=>cases h
   rename_i tm p1 hd
   split at h
   case h_2=>cases h
   rename_i s2 q hq
   cases h
   exact (gets_drawM Eh hc hd hp.1).trans (ih hq hp.2)
  ·split at h
   case h_2=>cases h
   rename_i ops k hc
   split at h
   case h_2=>cases h
   rename_i p1 hd
   split at h
   case h_2=>cases h
   rename_i s2 q hq
   cases h
   exact (gets_drawB Eh hc hd hp.1).trans (ih hq hp.2)
  ·rename_i ids v writes news hx
   split at h
   case h_2=>cases h
   rename_i o ho
   split at h
   case h_2=>cases h
   rename_i f args ha
   split at h
   case h_2=>cases h
   rename_i s2 q hq
   cases h
   refine (reach_call ho ha (hp.1 s1.h rfl fun z hz=> ?_)).trans (ih hq hp.2)
   obtain⟨i,_,hi⟩:=List.mem_filterMap.1 hz
   obtain⟨o,ho,rfl⟩:=Option.map_eq_some_iff.1 hi
   exact ho
  ·split at h
   case h_2=>cases h
   rename_i o ho
   split at h
   case h_2=>cases h
   rename_i r p1 hr
   split at h
   case h_2=>cases h
   rename_i s2 hs2
   split at h
   case h_2=>cases h
   rename_i s3 q hq
   cases h
   exact (reach_op ho (sop_ok hr hp.1) hs2).trans (ih hq hp.2)
theorem seg_reach(Eh:P.follows .mixedOrders=true){hk:FuncId→Array Value→AH→Option (Value×AH)}(hhk:Dt P G hk){draw:Array Oper→Array Value→AH→Option (Array Value×AH)}(hdraw:Ky P G draw){sc:List (Nat×Ev)}{s:AS}{fr1:Frame}{cs1:List Frame}{next:Nat}{l:List (Nat×AObj)}{p:Prop}
  (h:(Aa5 P G hk draw sc s).map (fun r=>(look (l.map (·.1)) r.1,r.2))=some ((fr1,cs1,next,l.map fun x=>some x.2),p)) (hp:p):Gets P G s ⟨fr1,cs1,Ac next l⟩:=by
 obtain⟨⟨s',q⟩,h1,h2⟩:=Option.map_eq_some_iff.1 h
 simp only[Prod.mk.injEq]at h2
 obtain⟨h2,rfl⟩:=h2
 exact reach_look (srun_ok Eh hhk hdraw h1 hp) h2
theorem seg_fin(Eh:P.follows .mixedOrders=true){hk:FuncId→Array Value→AH→Option (Value×AH)}(hhk:Dt P G hk){draw:Array Oper→Array Value→AH→Option (Array Value×AH)}(hdraw:Ky P G draw){sc:List (Nat×Ev)}{s:AS}{f:FuncId}{args:Array Value}{h0:AH}{v:Value}{next:Nat}{l:List (Nat×AObj)}{p:Prop}
  (h:(Aa5 P G hk draw sc s).bind (fun r=>(fin P (l.map (·.1)) r.1).map fun q=>(q,r.2))=some ((v,f,next,l.map fun x=>some x.2),p)) (hp:p) (hr:Gets P G ⟨Frame.enter P f args .normal,[],h0⟩ s):CSp P G f args h0 v (Ac next l):=by
 obtain⟨⟨s',q⟩,h1,h2⟩:=Option.bind_eq_some_iff.1 h
 obtain⟨r,h3,h4⟩:=Option.map_eq_some_iff.1 h2
 simp only[Prod.mk.injEq]at h4
 obtain⟨rfl,rfl⟩:=h4
 exact spec_of_fin (hr.trans (srun_ok Eh hhk hdraw h1 hp)) h3
end
end Go.AE
namespace Go.AE
open Go
def Ak(b k i:Nat):Nat:=if Nat.blt i b then i else i+k
theorem Dd{P:Program}{G:Nat}{s0:AS}{fr fr1:Frame}{nx1 nx2 b k:Nat}{l1 l2:List (Nat×AObj)}(hr:Gets P G s0 ⟨fr1,[],Ac nx1 l1⟩)(hfr:fr1={fr with tmps:=Ed (Ak b k) fr.tmps})
  (hd:fr.defers=[]) (hm:fr.mode=.run) (hro:fr.roundOf=none) (ht:fr.todo.all Xm=true) (hG:G≤s0.h.next) (hb:s0.h.next≤b) (hbn:b≤nx2) (hn:nx1≤nx2+k)
  (hfl:(l2.map (·.2)).all Bj=true) (hl:l2.map (fun x=>(Ac nx1 l1).get (Ak b k x.1))=l2.map fun x=>some x.2):Gets P G s0 ⟨fr,[],Ac nx2 l2⟩:=by
 subst hfr
 have hflat: ∀x∈l2,Bj x.2=true:=fun x hx=>List.all_eq_true.1 hfl _ (List.mem_map.2 ⟨x,hx,rfl⟩)
 refine Wf (Ak b k) hr hd hm hro ht (by omega) hG (fun i hi=> ?_) (fun i hi=> ?_) (fun x hx=>⟨Tv (hflat x hx),?_⟩) fun x _ y _ e=> ?_
 ·simp[Ak,Dx (show i<b by omega)]
 ·simp only[Ak,Ct (show ¬i<b by omega),Bool.false_eq_true,if_false]
  omega
 ·rw[Nb _ (hflat x hx)]
  obtain⟨i,hi,rfl⟩:=List.mem_iff_getElem.1 hx
  have:=congrArg (fun (l:List (Option AObj))=>l[i]?) hl
  simpa [List.getElem?_eq_getElem hi] using this
 ·unfold Ak at e
  split at e<;>split at e<;>rename_i h1 h2
  ·exact e
  ·have a1:x.1<b:=by rw[←Nat.blt_eq];exact h1
   have a2: ¬y.1<b:=fun q=>h2 (Dx q)
   omega
  ·have a1: ¬x.1<b:=fun q=>h1 (Dx q)
   have a2:y.1<b:=by rw[←Nat.blt_eq];exact h2
   omega
  ·omega
end Go.AE
namespace Go.AE
open Go
section
variable {P:Program} {G:Nat}
theorem WR.growN{ρ:Rho}{h:AH}{w:World}(H:WR G ρ h w)(os:Array Obj)(k:Nat):WR G ρ h (Sort.grow (w.drewN k) os):=by
 refine⟨fun i o e=> ?_,H.fresh,H.inj,H.glob,H.gp⟩
 obtain⟨b,x,h1,h2,h3⟩:=H.obj i o e
 refine⟨b,x,h1,?_,h3⟩
 have hb:=(Array.getElem?_eq_some_iff.1 h2).1
 simp only[Sort.grow,World.drewN]
 rw[Array.getElem?_append_left hb,h2]
theorem Ext.growN(ρ:Rho)(h:AH)(w:World)(os:Array Obj)(k:Nat):Ext ρ h w ρ h (Sort.grow (w.drewN k) os):=by
 refine⟨Rho.le_refl ρ,fun _ _=>rfl,Nat.le_refl _,?_,fun b hb _=> ?_,fun _ _ h=>h,rfl,rfl,rfl⟩
 ·simp only[Sort.grow,World.drewN,Array.size_append];omega
 ·simp only[Sort.grow,World.drewN]
  rw[Array.getElem?_append_left hb]
theorem Sw{f:FuncId}{args:Array Value}{v:Value}{h:AH}(ha:Df args=true)(hv:Aj v=true)
  (HC: ∀(ρ:Rho) (w:World),WR G ρ h w→Calls P f args w fun e w'=>e=.returned v∧ ∃k os,w'=Sort.grow (w.drewN k) os):CSp P G f args h v h:=by
 intro ρ w args' hw hr
 rw[Ch ρ args ha]at hr
 cases hr
 refine (HC ρ w hw).mono ?_
 rintro e w' ⟨rfl,k,os,rfl⟩
 exact⟨ρ,v,rfl,hw.growN os k,Ext.growN ρ h w os k,Co ρ v hv⟩
theorem tab_of_WR{ρ:Rho}{h:AH}{w:World}(H:WR G ρ h w){g:Nat}(hg:g<G){name:String}(hn:P.globalNamed name=some g){k:IntKind}{zs:List Int}{t:TypeId}{ro:Bool}(hh:h.get g=some (.cells (zs.map fun z=>Value.int k z) t none ro)):Lib.TabIs P w name k zs:=by
 obtain⟨b,x,h1,h2,h3⟩:=H.obj _ _ hh
 rw[(H.glob g hg).1]at h1
 cases h1
 cases x<;>simp only[ObjR]at h3
 rename_i arr t' fz
 obtain⟨_,⟨c',tail,r1,r2,r3⟩,_,_,_⟩:=h3
 have hcl:As (zs.map fun z=>Value.int k z)=true:=by
  clear hh r2
  induction zs with
  |nil=>rfl
  |cons z zs ih=>simpa [As,Aj] using ih
 rw[Ef ρ _ hcl]at r2
 cases r2
 rw[r3 trivial,List.append_nil]at r1
 unfold Lib.TabIs World.var?
 rw[hn]
 simp only[Option.bind_some,h2]
 exact congrArg some (Array.ext' (by simpa using r1))
theorem Sh{f:FuncId}{args args':Array Value}{v v':Value}{hf:AH}(gl:List (Nat×AObj))(bs:List Nat)(os ps:List AObj)(keep:List Nat)(qs:List AObj)(n:Nat)
  (S:CSp P G f args (Ac (G+bs.length) (gl++Dg G os)) v hf) (hgl:gl.all (fun x=>Nat.blt x.1 G&&Bj x.2)=true) (hgf:gl.map (fun x=>hf.get x.1)=gl.map fun x=>some x.2) (hos:os.length=bs.length)
  (hps:(List.range bs.length).map (fun i=>hf.get (G+i))=ps.map some) (hqs:keep.map hf.get=qs.map some)
  (hnd:bs.Nodup) (hb: ∀b∈bs,G≤b∧b<n) (hGn:G≤n) (fo:os.all Bj=true) (fp:ps.all Bj=true) (fq:qs.all (fun o=>Bj o&& !o.ro)=true) (hk:keep.Nodup) (hkn: ∀i∈keep,G+bs.length≤i)
  (hv:Gb (okI (G+bs.length) keep) v=true) (ea:Ed (Dz G bs n) args=args') (ev:mv (Hs (G+bs.length) (Dz G bs n) keep n) v=v'):
  FSp P G f args' n (gl++bs.zip os) v' (gl.map (fun x=>(x.1,some x.2))++bs.zip (ps.map some)) qs:=by
 have hpl:ps.length=bs.length:=by
  have:=congrArg List.length hps
  simpa using this.symm
 have hpg: ∀i,i<bs.length→hf.get (G+i)=ps[i]? :=fun i hi=>by
  have h1:=congrArg (fun l:List (Option AObj)=>l[i]?) hps
  simp only[List.getElem?_map]at h1
  rw[List.getElem?_range hi]at h1
  simp only[Option.map_some]at h1
  rw[List.getElem?_eq_getElem (by omega)]at h1 ⊢
  simpa using h1
 have hqg: ∀i∈keep,∃o,hf.get i=some o∧o∈qs:=fun i hi=>by
  have:hf.get i∈keep.map hf.get:=List.mem_map.2 ⟨i,hi,rfl⟩
  rw[hqs]at this
  obtain⟨o,h1,h2⟩:=List.mem_map.1 this
  exact⟨o,h2.symm,h1⟩
 have hglm: ∀x∈gl,x.1<G∧Bj x.2=true∧hf.get x.1=some x.2:=fun x hx=>by
  have h1:=List.all_eq_true.1 hgl x hx
  simp only[Bool.and_eq_true,Nat.blt_eq]at h1
  refine⟨h1.1,h1.2,?_⟩
  obtain⟨i,hi,rfl⟩:=List.mem_iff_getElem.1 hx
  have:=congrArg (fun (l:List (Option AObj))=>l[i]?) hgf
  simpa [List.getElem?_eq_getElem hi] using this
 have hfo: ∀o∈os,Bj o=true:=fun o ho=>List.all_eq_true.1 fo o ho
 have hfp: ∀o∈ps,Bj o=true:=fun o ho=>List.all_eq_true.1 fp o ho
 have hfq: ∀o∈qs,Bj o=true∧o.ro=false:=fun o ho=>by
  have:=List.all_eq_true.1 fq o ho
  simpa using this
 have htau: ∀i,i<bs.length→Dz G bs n (G+i)=bs.getD i 0:=fun i hi=>by
  have h1: ¬G+i<G:=by omega
  have h2:G+i-G=i:=by omega
  simp only[Dz,Ct h1,Bool.false_eq_true,if_false,h2,List.getElem?_eq_getElem hi,List.getD,Option.getD_some]
 have htg: ∀g,g<G→Dz G bs n g=g:=fun g hg=>by simp[Dz,Dx hg]
 have hmem: ∀x∈Dg G os,∃i,i<bs.length∧os[i]? =some x.2∧x.1=G+i∧Dz G bs n x.1=bs.getD i 0:=fun x hx=>by
  obtain⟨i,h1,h2⟩:=(Wi os G x).1 hx
  have hi:i<bs.length:=by rw[←hos];exact (List.getElem?_eq_some_iff.1 h1).1
  exact⟨i,hi,h1,h2,by rw[h2,htau i hi]⟩
 have hbm: ∀i,i<bs.length→bs.getD i 0∈bs:=fun i hi=>by
  simp only[List.getD,List.getElem?_eq_getElem hi,Option.getD_some]
  exact List.getElem_mem hi
 have R:=Rv (nc:=G+bs.length) (L:=gl++Dg G os) S (Dz G bs n) keep n (by omega) hGn htg
  (fun i hi=>by
   have h1: ¬i<G:=by omega
   have h2:bs[i-G]? =none:=List.getElem?_eq_none (by omega)
   simp only[Dz,Ct h1,Bool.false_eq_true,if_false,h2]
   omega)
  (fun x hx=>by
   rcases List.mem_append.1 hx with hx|hx
   ·obtain⟨h1,h2,_⟩:=hglm x hx
    exact⟨Tv h2,by omega,by rw[htg _ h1];omega⟩
   ·obtain⟨i,hi,h1,h2,h3⟩:=hmem x hx
    exact⟨Tv (hfo _ (List.mem_of_getElem? h1)),by omega,by rw[h3];exact (hb _ (hbm i hi)).2⟩)
  (fun x hx y hy e=>by
   rcases List.mem_append.1 hx with hx|hx<;>rcases List.mem_append.1 hy with hy|hy
   ·rw[htg _ (hglm x hx).1,htg _ (hglm y hy).1]at e;exact e
   ·obtain⟨j,hj,_,h4,h5⟩:=hmem y hy
    rw[htg _ (hglm x hx).1,h5]at e
    have:=(hb _ (hbm j hj)).1
    have:=(hglm x hx).1
    omega
   ·obtain⟨j,hj,_,h4,h5⟩:=hmem x hx
    rw[htg _ (hglm y hy).1,h5]at e
    have:=(hb _ (hbm j hj)).1
    have:=(hglm y hy).1
    omega
   ·obtain⟨i,hi,_,h2,h3⟩:=hmem x hx
    obtain⟨j,hj,_,h4,h5⟩:=hmem y hy
    rw[h3,h5]at e
    simp only[List.getD,List.getElem?_eq_getElem hi,List.getElem?_eq_getElem hj,Option.getD_some]at e
    have a1:=hnd.idxOf_getElem i hi
    have a2:=hnd.idxOf_getElem j hj
    rw[e]at a1
    omega)
  hv
  (fun x hx o ho=>by
   rcases List.mem_append.1 hx with hx|hx
   ·obtain⟨_,h2,h3⟩:=hglm x hx
    rw[h3]at ho
    cases ho
    exact Sd _ h2
   ·obtain⟨i,hi,_,h2,_⟩:=hmem x hx
    rw[h2,hpg i hi]at ho
    exact Sd _ (hfp o (List.mem_of_getElem? ho)))
  hk
  (fun i hi=>by
   obtain⟨o,h1,h2⟩:=hqg i hi
   exact⟨hkn i hi,o,h1,Sd _ (hfq o h2).1,(hfq o h2).2⟩)
 refine R.cast ea ?_ ev ?_ ?_
 ·rw[List.map_append]
  congr 1
  ·have: ∀l:List (Nat×AObj),(∀x∈l,x.1<G∧Bj x.2=true)→l.map (fun x=>(Dz G bs n x.1,Ep (Dz G bs n) x.2))=l:=by
    intro l
    induction l with
    |nil=>intro _;rfl
    |cons x l ih=>
     intro hl
     obtain⟨h1,h2⟩:=hl x (List.mem_cons_self ..)
     rw[List.map_cons,ih fun y hy=>hl y (List.mem_cons_of_mem _ hy),htg _ h1,Nb _ h2]
   exact this gl fun x hx=>⟨(hglm x hx).1,(hglm x hx).2.1⟩
  ·rw[No os G fun a b=>(Dz G bs n a,Ep (Dz G bs n) b)]
   refine List.ext_getElem? fun i=> ?_
   rcases Nat.lt_or_ge i bs.length with hi|hi
   ·have ho:i<os.length:=by omega
    simp only[List.getElem?_map,List.getElem?_zipIdx,List.getElem?_eq_getElem ho,Option.map_some,Nat.zero_add,htau i hi,Nb _ (hfo _ (List.getElem_mem ho))]
    rw[List.getElem?_eq_getElem (by simp;omega)]
    simp[List.getD,List.getElem?_eq_getElem hi]
   ·rw[List.getElem?_eq_none (by simp;omega),List.getElem?_eq_none (by simp;omega)]
 ·rw[List.map_append]
  congr 1
  ·have: ∀l:List (Nat×AObj),(∀x∈l,x.1<G∧Bj x.2=true∧hf.get x.1=some x.2)→l.map (fun x=>(Dz G bs n x.1,(hf.get x.1).map (Ep (Hs (G+bs.length) (Dz G bs n) keep n))))=l.map fun x=>(x.1,some x.2):=by
    intro l
    induction l with
    |nil=>intro _;rfl
    |cons x l ih=>
     intro hl
     obtain⟨h1,h2,h3⟩:=hl x (List.mem_cons_self ..)
     rw[List.map_cons,List.map_cons,ih fun y hy=>hl y (List.mem_cons_of_mem _ hy),htg _ h1,h3,Option.map_some,Nb _ h2]
   exact this gl hglm
  ·rw[No os G fun a b=>(Dz G bs n a,(hf.get a).map (Ep (Hs (G+bs.length) (Dz G bs n) keep n)))]
   refine List.ext_getElem? fun i=> ?_
   rcases Nat.lt_or_ge i bs.length with hi|hi
   ·have ho:i<os.length:=by omega
    have hp:i<ps.length:=by omega
    simp only[List.getElem?_map,List.getElem?_zipIdx,List.getElem?_eq_getElem ho,Option.map_some,Nat.zero_add,htau i hi,hpg i hi,List.getElem?_eq_getElem hp,Nb _ (hfp _ (List.getElem_mem hp))]
    rw[List.getElem?_eq_getElem (by simp;omega)]
    simp[List.getD,List.getElem?_eq_getElem hi]
   ·rw[List.getElem?_eq_none (by simp;omega),List.getElem?_eq_none (by simp;omega)]
 ·have: ∀(l:List Nat) (q:List AObj),l.map hf.get=q.map some→(∀o∈q,Bj o=true)→l.filterMap (fun i=>(hf.get i).map (Ep (Hs (G+bs.length) (Dz G bs n) keep n)))=q:=by
   intro l
   induction l with
   |nil=>intro q h _;cases q<;>simp at h;rfl
   |cons i l ih=>
    intro q h hq
    cases q with
    |nil=>simp at h
    |cons o q=>
     simp only[List.map_cons,List.cons.injEq]at h
     simp only[List.filterMap_cons,h.1,Option.map_some,Nb _ (hq o (List.mem_cons_self ..))]
     rw[ih q h.2 fun o ho=>hq o (List.mem_cons_of_mem _ ho)]
  exact this keep qs hqs fun o ho=>(hfq o ho).1
end
end Go.AE
namespace Go.AE
open Go
theorem Qf{P:Program}{G:Nat}{f:FuncId}{args args':Array Value}{v v':Value}{hf:AH}{os' ps' qs':List AObj}(bs:List Nat)(os ps:List AObj)(keep:List Nat)(qs:List AObj)(n:Nat)
  (S:CSp P G f args (Ac (G+bs.length) (Dg G os)) v hf) (hos:os.length=bs.length) (hps:(List.range bs.length).map (fun i=>hf.get (G+i))=ps.map some) (hqs:keep.map hf.get=qs.map some)
  (hnd:bs.Nodup) (hb: ∀b∈bs,G≤b∧b<n) (hGn:G≤n) (fo:os.all Ms=true) (fp:ps.all (Me (okI (G+bs.length) keep))=true) (fq:qs.all (fun o=>Me (okI (G+bs.length) keep) o&& !o.ro)=true)
  (eo:os.map (Ep (Dz G bs n))=os') (ep:ps.map (Ep (Hs (G+bs.length) (Dz G bs n) keep n))=ps') (eq:qs.map (Ep (Hs (G+bs.length) (Dz G bs n) keep n))=qs') (hk:keep.Nodup) (hkn: ∀i∈keep,G+bs.length≤i)
  (hv:Gb (okI (G+bs.length) keep) v=true) (ea:Ed (Dz G bs n) args=args') (ev:mv (Hs (G+bs.length) (Dz G bs n) keep n) v=v'):
  FSp P G f args' n (bs.zip os') v' (bs.zip (ps'.map some)) qs':=by
 subst eo;subst ep;subst eq
 have hpl:ps.length=bs.length:=by
  have:=congrArg List.length hps
  simpa using this.symm
 have hpg: ∀i,i<bs.length→hf.get (G+i)=ps[i]? :=fun i hi=>by
  have h1:=congrArg (fun l:List (Option AObj)=>l[i]?) hps
  simp only[List.getElem?_map]at h1
  rw[List.getElem?_range hi]at h1
  simp only[Option.map_some]at h1
  rw[List.getElem?_eq_getElem (by omega)]at h1 ⊢
  simpa using h1
 have hqg: ∀i∈keep,∃o,hf.get i=some o∧o∈qs:=fun i hi=>by
  have:hf.get i∈keep.map hf.get:=List.mem_map.2 ⟨i,hi,rfl⟩
  rw[hqs]at this
  obtain⟨o,h1,h2⟩:=List.mem_map.1 this
  exact⟨o,h2.symm,h1⟩
 have hfo: ∀o∈os,Ms o=true:=fun o ho=>List.all_eq_true.1 fo o ho
 have hfp: ∀o∈ps,Me (okI (G+bs.length) keep) o=true:=fun o ho=>List.all_eq_true.1 fp o ho
 have hfq: ∀o∈qs,Me (okI (G+bs.length) keep) o=true∧o.ro=false:=fun o ho=>by
  have:=List.all_eq_true.1 fq o ho
  simpa using this
 have htau: ∀i,i<bs.length→Dz G bs n (G+i)=bs.getD i 0:=fun i hi=>by
  have h1: ¬G+i<G:=by omega
  have h2:G+i-G=i:=by omega
  simp only[Dz,Ct h1,Bool.false_eq_true,if_false,h2,List.getElem?_eq_getElem hi,List.getD,Option.getD_some]
 have hmem: ∀x∈Dg G os,∃i,i<bs.length∧os[i]? =some x.2∧x.1=G+i∧Dz G bs n x.1=bs.getD i 0:=fun x hx=>by
  obtain⟨i,h1,h2⟩:=(Wi os G x).1 hx
  have hi:i<bs.length:=by rw[←hos];exact (List.getElem?_eq_some_iff.1 h1).1
  exact⟨i,hi,h1,h2,by rw[h2,htau i hi]⟩
 have hbm: ∀i,i<bs.length→bs.getD i 0∈bs:=fun i hi=>by
  simp only[List.getD,List.getElem?_eq_getElem hi,Option.getD_some]
  exact List.getElem_mem hi
 have R:=Rv (nc:=G+bs.length) (L:=Dg G os) S (Dz G bs n) keep n (by omega) hGn (fun g hg=>by simp[Dz,Dx hg])
  (fun i hi=>by
   have h1: ¬i<G:=by omega
   have h2:bs[i-G]? =none:=List.getElem?_eq_none (by omega)
   simp only[Dz,Ct h1,Bool.false_eq_true,if_false,h2]
   omega)
  (fun x hx=>by
   obtain⟨i,hi,h1,h2,h3⟩:=hmem x hx
   exact⟨hfo _ (List.mem_of_getElem? h1),by omega,by rw[h3];exact (hb _ (hbm i hi)).2⟩)
  (fun x hx y hy e=>by
   obtain⟨i,hi,_,h2,h3⟩:=hmem x hx
   obtain⟨j,hj,_,h4,h5⟩:=hmem y hy
   rw[h3,h5]at e
   simp only[List.getD,List.getElem?_eq_getElem hi,List.getElem?_eq_getElem hj,Option.getD_some]at e
   have a1:=hnd.idxOf_getElem i hi
   have a2:=hnd.idxOf_getElem j hj
   rw[e]at a1
   omega)
  hv
  (fun x hx o ho=>by
   obtain⟨i,hi,_,h2,_⟩:=hmem x hx
   rw[h2,hpg i hi]at ho
   exact hfp o (List.mem_of_getElem? ho))
  hk
  (fun i hi=>by
   obtain⟨o,h1,h2⟩:=hqg i hi
   exact⟨hkn i hi,o,h1,(hfq o h2).1,(hfq o h2).2⟩)
 refine R.cast ea ?_ ev ?_ ?_
 ·rw[No os G fun a b=>(Dz G bs n a,Ep (Dz G bs n) b)]
  refine List.ext_getElem? fun i=> ?_
  rcases Nat.lt_or_ge i bs.length with hi|hi
  ·have ho:i<os.length:=by omega
   simp only[List.getElem?_map,List.getElem?_zipIdx,List.getElem?_eq_getElem ho,Option.map_some,Nat.zero_add,htau i hi]
   rw[List.getElem?_eq_getElem (by simp;omega)]
   simp[List.getD,List.getElem?_eq_getElem hi]
  ·rw[List.getElem?_eq_none (by simp;omega),List.getElem?_eq_none (by simp;omega)]
 ·rw[No os G fun a b=>(Dz G bs n a,(hf.get a).map (Ep (Hs (G+bs.length) (Dz G bs n) keep n)))]
  refine List.ext_getElem? fun i=> ?_
  rcases Nat.lt_or_ge i bs.length with hi|hi
  ·have ho:i<os.length:=by omega
   have hp:i<ps.length:=by omega
   simp only[List.getElem?_map,List.getElem?_zipIdx,List.getElem?_eq_getElem ho,Option.map_some,Nat.zero_add,htau i hi,hpg i hi,List.getElem?_eq_getElem hp]
   rw[List.getElem?_eq_getElem (by simp;omega)]
   simp[List.getD,List.getElem?_eq_getElem hi]
  ·rw[List.getElem?_eq_none (by simp;omega),List.getElem?_eq_none (by simp;omega)]
 ·have: ∀(l:List Nat) (q:List AObj),l.map hf.get=q.map some→l.filterMap (fun i=>(hf.get i).map (Ep (Hs (G+bs.length) (Dz G bs n) keep n)))=q.map (Ep (Hs (G+bs.length) (Dz G bs n) keep n)):=by
   intro l
   induction l with
   |nil=>intro q h;cases q<;>simp at h;rfl
   |cons i l ih=>
    intro q h
    cases q with
    |nil=>simp at h
    |cons o q=>
     simp only[List.map_cons,List.cons.injEq]at h
     simp only[List.filterMap_cons,h.1,Option.map_some,List.map_cons]
     rw[ih q h.2]
  exact this keep qs hqs
end Go.AE
namespace Go.AE
open Go
theorem Kv{P:Program}{G:Nat}{s0:AS}{fr fr1:Frame}{nx1 nx2 b k:Nat}{l1 l2:List (Nat×AObj)}(hr:Gets P G s0 ⟨fr1,[],Ac nx1 l1⟩)(hfr:fr1={fr with tmps:=Ed (Ak b k) fr.tmps})
  (hd:fr.defers=[]) (hm:fr.mode=.run) (hro:fr.roundOf=none) (ht:fr.todo.all Xm=true) (hG:G≤s0.h.next) (hb:s0.h.next≤b) (hbn:b≤nx2) (hn:nx1≤nx2+k)
  (hfl:(l2.map (·.2)).all Ms=true) (hmv:(l2.map (·.2)).map (Ep (Ak b k))=l2.map (·.2)) (hl:l2.map (fun x=>(Ac nx1 l1).get (Ak b k x.1))=l2.map fun x=>some x.2):Gets P G s0 ⟨fr,[],Ac nx2 l2⟩:=by
 subst hfr
 have hflat: ∀x∈l2,Ms x.2=true:=fun x hx=>List.all_eq_true.1 hfl _ (List.mem_map.2 ⟨x,hx,rfl⟩)
 have hmv1: ∀x∈l2,Ep (Ak b k) x.2=x.2:=fun x hx=>by
  obtain⟨i,hi,rfl⟩:=List.mem_iff_getElem.1 hx
  have:=congrArg (fun (l:List AObj)=>l[i]?) hmv
  simpa [List.getElem?_eq_getElem hi] using this
 refine Wf (Ak b k) hr hd hm hro ht (by omega) hG (fun i hi=> ?_) (fun i hi=> ?_) (fun x hx=>⟨hflat x hx,?_⟩) fun x _ y _ e=> ?_
 ·simp[Ak,Dx (show i<b by omega)]
 ·simp only[Ak,Ct (show ¬i<b by omega),Bool.false_eq_true,if_false]
  omega
 ·rw[hmv1 x hx]
  obtain⟨i,hi,rfl⟩:=List.mem_iff_getElem.1 hx
  have:=congrArg (fun (l:List (Option AObj))=>l[i]?) hl
  simpa [List.getElem?_eq_getElem hi] using this
 ·unfold Ak at e
  split at e<;>split at e<;>rename_i h1 h2
  ·exact e
  ·have a1:x.1<b:=by rw[←Nat.blt_eq];exact h1
   have a2: ¬y.1<b:=fun q=>h2 (Dx q)
   omega
  ·have a1: ¬x.1<b:=fun q=>h1 (Dx q)
   have a2:y.1<b:=by rw[←Nat.blt_eq];exact h2
   omega
  ·omega
end Go.AE
namespace Go.AE
open Go
theorem Kp{h:AH}: ∀{l:List (Nat×AObj)},(∀x∈l,h.get x.1=some x.2)→ ∀i,(Ce h (l.map fun x=>(x.1,some x.2))).get i=h.get i∧(Ce h (l.map fun x=>(x.1,some x.2))).next=h.next:=by
 intro l hl i
 refine⟨?_,Mh _ _⟩
 by_cases hm: ∃x∈l,x.1=i
 ·have key: ∀(l:List (Nat×AObj)) (g:AH),(∀x∈l,h.get x.1=some x.2)→g.get i=h.get i→(Ce g (l.map fun x=>(x.1,some x.2))).get i=h.get i:=by
   intro l
   induction l with
   |nil=>intro g _ hg;exact hg
   |cons x l ih=>
    intro g hx hg
    refine ih (g.put x.1 (some x.2)) (fun y hy=>hx y (List.mem_cons_of_mem _ hy)) ?_
    rw[AH.get_put]
    split
    ·rename_i e
     rw[e]
     exact (hx x (List.mem_cons_self ..)).symm
    ·exact hg
  exact key l h hl rfl
 ·rw[Qg]
  intro x hx e
  obtain⟨y,hy,rfl⟩:=List.mem_map.1 hx
  exact hm ⟨y,hy,e⟩
theorem Bt{P:Program}{G:Nat}{gl:List (Nat×AObj)}{f:FuncId}{args:Array Value}{v:Value}(TG:TellG P G gl f args v)(hgl:GlOK G gl)(ha:Df args=true)(hv:Aj v=true)(n:Nat):
  FSp P G f args n gl v (gl.map fun x=>(x.1,some x.2)) []:=by
 intro h hn hh ρ w args' HW hargs
 rw[Ch ρ _ ha]at hargs
 cases hargs
 refine (TG _ w (start_of_gl hgl HW hh)).mono ?_
 rintro e w' ⟨ρ',h',rfl,W',E⟩
 have hp: ∀b,b<w.heap.size→w'.heap[b]? =w.heap[b]? :=fun b hb=>E.pres b hb fun⟨i,o,e1,e2,_⟩=>by
  have hm:(i,o)∈gl:=by
   rcases Kx gl _ i o e1 with q|q
   ·exact q
   ·simp[AH.get,T.get]at q
  obtain⟨_,c,t,h2,_⟩:=hgl ρ.st _ hm
  simp only at h2
  subst h2
  cases e2
 have hs:=fun i=>(Kp hh i).1
 have hnx:(Cp (Ce h (gl.map fun x=>(x.1,some x.2))) []).next=h.next:=(Kp hh 0).2
 have W2:WR G ρ h w':=by
  refine⟨fun i o e=> ?_,HW.fresh,HW.inj,HW.glob,HW.gp⟩
  obtain⟨b,x,q1,q2,q3⟩:=HW.obj i o e
  exact⟨b,x,q1,(hp b (Array.getElem?_eq_some_iff.1 q2).1).trans q2,q3⟩
 have E2:Ext ρ h w ρ h w':=⟨Rho.le_refl _,fun _ _=>rfl,Nat.le_refl _,E.size,fun b hb _=>hp b hb,fun b _ q=>q,E.tape,E.os,E.output⟩
 have hsub: ∀i o,(Cp (Ce h (gl.map fun x=>(x.1,some x.2))) []).get i=some o→h.get i=some o:=fun i o e=>by
  rw[←hs i];exact e
 exact⟨ρ,v,rfl,W2.sub hnx hsub,E2.sub hnx hsub,Co ρ v hv⟩
end Go.AE
namespace Go.AE
open Go
section
variable {P:Program} {G:Nat} {ρ:Rho} {h:AH} {w:World}
theorem WR.addWin(H:WR G ρ h w){b o:Nat}{c:List Value}{arr:Array Value}{t:TypeId}{fz:Nat×Nat}(hx:w.heap[b]? =some (.cells arr t fz))(hc: ∀σ,Bb σ c=some c)(hw:(arr.toList.drop o).take c.length=c)
  (hne: ∀i p,h.get i=some p→ρ.blk i≠some b):WR G (ρ.bind h.next b none) (h.push (.win o c)) w:=by
 have hn:ρ.blk h.next=none:=H.fresh _ (Nat.le_refl _)
 have hle:=Rho.le_bind hn b none
 refine⟨fun i p e=> ?_,fun i hi=> ?_,fun i j p q b' e1 e2 b1 b2=> ?_,fun g hgG=> ?_,?_⟩
 ·rw[AH.get_push]at e
  by_cases hi:i=h.next
  ·subst hi
   simp only[if_true,Option.some.injEq]at e
   subst e
   exact⟨b,_,by simp[Rho.bind],hx,hc,hw,by simp[Rho.bind]⟩
  ·rw[if_neg hi]at e
   obtain⟨b',y,h1,h2,h3⟩:=H.obj i p e
   exact⟨b',y,(hle _ _ h1).1,h2,h3.mono hle h1⟩
 ·rw[AH.next_push]at hi
  have h2:i≠h.next:=by omega
  simp only[Rho.bind,h2,if_false]
  exact H.fresh i (by omega)
 ·rw[AH.get_push]at e1 e2
  by_cases hi:i=h.next<;>by_cases hj:j=h.next
  ·rw[hi,hj]
  ·exfalso
   rw[if_neg hj]at e2
   simp only[Rho.bind,hi,if_true]at b1
   simp only[Rho.bind,hj,if_false]at b2
   cases b1
   exact hne j q e2 b2
  ·exfalso
   rw[if_neg hi]at e1
   simp only[Rho.bind,hj,if_true]at b2
   simp only[Rho.bind,hi,if_false]at b1
   cases b2
   exact hne i p e1 b1
  ·rw[if_neg hi]at e1
   rw[if_neg hj]at e2
   simp only[Rho.bind,hi,hj,if_false]at b1 b2
   exact H.inj i j p q b' e1 e2 b1 b2
 ·have hgr:g≠h.next:=by have:=H.gp;omega
  simp only[Rho.bind,hgr,if_false]
  exact H.glob g hgG
 ·rw[AH.next_push];have:=H.gp;omega
theorem ints_renL(zs:List Int)(k:IntKind)(σ:Rho):Bb σ (zs.map (Value.int k))=some (zs.map (Value.int k)):=by
 induction zs with
 |nil=>rfl
 |cons z l ih=>simp only[List.map_cons,Bb,Ay,ih,Option.bind_some,Option.map_some]
theorem Yc{fits:TypeId→Bool}{e:TypeId}(h1:fits e=false)(h2: ∀fs,P.underlying e≠some (.struct fs))(h3: ∀m e',P.underlying e=some (.array m e')→fits e'=false∧(∀fs,P.underlying e'≠some (.struct fs))∧ ∀m' e'',P.underlying e'≠some (.array m' e'')):
  ∀(d count off n:Nat),rowAt P fits d e count off n=false:=by
 have base: ∀{e:TypeId},fits e=false→(∀fs,P.underlying e≠some (.struct fs))→(∀m e',P.underlying e≠some (.array m e'))→ ∀(d count off n:Nat),rowAt P fits d e count off n=false:=by
  intro e h1 h2 h3 d count off n
  cases d with
  |zero=>rfl
  |succ d=>
   unfold rowAt
   simp only[h1,Bool.and_false,Bool.false_or]
   split
   ·rfl
   ·first
    |rfl
    |(split
      ·rename_i fs hu;exact absurd hu (h2 _)
      ·rename_i m e' hu;exact absurd hu (h3 _ _)
      ·simp)
 intro d count off n
 cases d with
 |zero=>rfl
 |succ d=>
  unfold rowAt
  simp only[h1,Bool.and_false,Bool.false_or]
  split
  ·rfl
  ·split
   ·rename_i fs hu;exact absurd hu (h2 _)
   ·rename_i m e' hu
    obtain⟨g1,g2,g3⟩:=h3 _ _ hu
    rw[base g1 g2 g3,Bool.and_false]
   ·simp
theorem liesAt_no{e u:TypeId}(hu: ∀m u',P.underlying u≠some (.array m u'))(hr: ∀(d count off n:Nat),rowAt P (sameLayout P P.depth · u) d e count off n=false): ∀(d count off n:Nat),liesAt P d e count off u n=false:=by
 intro d count off n
 cases d with
 |zero=>rfl
 |succ d=>
  unfold liesAt
  rw[hr,Bool.false_or]
  split
  ·rename_i m u' h;exact absurd h (hu _ _)
  ·rfl
end
end Go.AE
namespace Go.AE
def val:List Nat→Nat
 |[]=>0
 |x::l=>x+1000000000*val l
abbrev Lim(l:List Nat):Prop:= ∀x∈l,x<1000000000
theorem Lim.get{l:List Nat}(h:Lim l)(i:Nat):l.getD i 0<1000000000:=by
 rcases Nat.lt_or_ge i l.length with q|q
 ·rw[List.getD,List.getElem?_eq_getElem q]
  exact h _ (List.getElem_mem q)
 ·rw[List.getD,List.getElem?_eq_none q]
  decide
theorem Lim.set{l:List Nat}(h:Lim l){i v:Nat}(hv:v<1000000000):Lim (l.set i v):=fun x hx=>by
 rcases List.mem_or_eq_of_mem_set hx with q|rfl
 ·exact h x q
 ·exact hv
theorem Lim.take{l:List Nat}(h:Lim l)(k:Nat):Lim (l.take k):=fun x hx=>h x (List.mem_of_mem_take hx)
theorem Lim.drop{l:List Nat}(h:Lim l)(k:Nat):Lim (l.drop k):=fun x hx=>h x (List.mem_of_mem_drop hx)
theorem Lim.append{l m:List Nat}(h:Lim l)(g:Lim m):Lim (l++m):=fun x hx=>by
 rcases List.mem_append.1 hx with q|q
 ·exact h x q
 ·exact g x q
theorem Lim.replicate(k:Nat):Lim (List.replicate k 0):=fun x hx=>by
 rw[(List.mem_replicate.1 hx).2];decide
theorem val_append(l m:List Nat):val (l++m)=val l+1000000000^l.length*val m:=by
 induction l with
 |nil=>simp[val]
 |cons x l ih=>
  simp only[List.cons_append,val,ih,List.length_cons,Nat.pow_succ]
  rw[Nat.mul_add,←Nat.mul_assoc,Nat.mul_comm 1000000000 (1000000000^l.length)]
  omega
theorem val_replicate(k:Nat):val (List.replicate k 0)=0:=by
 induction k with
 |zero=>rfl
 |succ k ih=>simp[List.replicate_succ,val,ih]
theorem val_lt{l:List Nat}(h:Lim l):val l<1000000000^l.length:=by
 induction l with
 |nil=>simp[val]
 |cons x l ih=>
  have h1:=h x (List.mem_cons_self ..)
  have h2:=ih fun y hy=>h y (List.mem_cons_of_mem _ hy)
  simp only[val,List.length_cons,Nat.pow_succ]
  omega
theorem val_set: ∀(l:List Nat) (i v:Nat),i<l.length→val (l.set i v)+l.getD i 0*1000000000^i=val l+v*1000000000^i
 |[],i,v,h=>by simp at h
 |x::l,0,v,h=>by simp[val];omega
 |x::l,i+1,v,h=>by
  have:=val_set l i v (by simpa using h)
  simp only[List.set_cons_succ,val,List.getD_cons_succ,Nat.pow_succ]
  have e1:l.getD i 0*(1000000000^i*1000000000)=1000000000*(l.getD i 0*1000000000^i):=by
   rw[←Nat.mul_assoc,Nat.mul_comm]
  have e2:v*(1000000000^i*1000000000)=1000000000*(v*1000000000^i):=by
   rw[←Nat.mul_assoc,Nat.mul_comm]
  rw[e1,e2]
  omega
theorem drop_getD{l:List Nat}{i:Nat}(h:i<l.length):l.drop i=l.getD i 0::l.drop (i+1):=by
 rw[List.drop_eq_getElem_cons h,List.getD,List.getElem?_eq_getElem h]
 rfl
theorem val_drop{l:List Nat}{i:Nat}(h:i<l.length):val (l.drop i)=l.getD i 0+1000000000*val (l.drop (i+1)):=by
 rw[drop_getD h];rfl
theorem val_take_succ(l:List Nat)(i:Nat):val (l.take (i+1))=val (l.take i)+l.getD i 0*1000000000^i:=by
 rcases Nat.lt_or_ge i l.length with q|q
 ·rw[List.take_succ_eq_append_getElem q,val_append,List.length_take,Nat.min_eq_left (by omega),List.getD,List.getElem?_eq_getElem q]
  simp[val,Nat.mul_comm]
 ·rw[List.take_of_length_le (by omega),List.take_of_length_le q,List.getD,List.getElem?_eq_none q]
  simp
theorem getD_take{l:List Nat}{k i:Nat}(h:i<k):(l.take k).getD i 0=l.getD i 0:=by
 simp[List.getD,h]
theorem getD_set{l:List Nat}{i j v:Nat}(h:i<l.length):(l.set i v).getD j 0=if i=j then v else l.getD j 0:=by
 simp only[List.getD,List.getElem?_set]
 split
 ·rename_i q
  subst q
  simp
 ·rfl
theorem Tu{a b:Nat}(h:a≤b):1000000000^a≤1000000000^b:=Nat.pow_le_pow_right (by decide) h
theorem pow_pos(a:Nat):0<1000000000^a:=Nat.pow_pos (by decide)
theorem carry_step{V V' a q b p Y T:Nat}(h1:V'+a*p=V+((a+q+b)%1000000000)*p)(hv:V+q*p+p*(b+1000000000*Y)=T):
  V'+((a+q+b)/1000000000)*(p*1000000000)+p*1000000000*Y=T:=by
 have h3:a+q+b=1000000000*((a+q+b)/1000000000)+(a+q+b)%1000000000:=(Nat.div_add_mod _ _).symm
 generalize (a+q+b)/1000000000=u at*
 generalize (a+q+b)%1000000000=v at*
 have e1:(a+q+b)*p=a*p+q*p+b*p:=by rw[Nat.add_mul,Nat.add_mul]
 have e2:(1000000000*u+v)*p=u*(p*1000000000)+v*p:=by rw[Nat.add_mul,Nat.mul_comm 1000000000 u,Nat.mul_assoc,Nat.mul_comm 1000000000 p]
 have e3:p*(b+1000000000*Y)=b*p+p*1000000000*Y:=by rw[Nat.mul_add,Nat.mul_comm p b,Nat.mul_assoc]
 rw[h3,e2]at e1
 omega
theorem Sz{B V V' a p T:Nat}(h1:V'+a*p=V+((a+1)%B)*p)(hv:V+p=T):V'+((a+1)/B)*(p*B)=T:=by
 have h3:B*((a+1)/B)+(a+1)%B=a+1:=Nat.div_add_mod _ _
 generalize (a+1)/B=u at*
 generalize (a+1)%B=v at*
 have e1:(a+1)*p=a*p+p:=by rw[Nat.add_mul,Nat.one_mul]
 have e2:(B*u+v)*p=u*(p*B)+v*p:=by rw[Nat.add_mul,Nat.mul_comm B u,Nat.mul_assoc,Nat.mul_comm B p]
 rw[←h3,e2]at e1
 omega
theorem carry_step0{V V' a p T:Nat}(h1:V'+a*p=V+((a+1)%1000000000)*p)(hv:V+p=T):V'+((a+1)/1000000000)*(p*1000000000)=T:=
 Sz h1 hv
theorem Ze{V p T:Nat}(hv:V+0*p+p*val []=T):V=T:=by
 rw[show val []=0 from rfl,Nat.mul_zero,Nat.add_zero,Nat.zero_mul,Nat.add_zero]at hv;exact hv
theorem nil_one{V p T:Nat}(hv:V+1*p+p*val []=T):V+p=T:=by
 rw[show val []=0 from rfl,Nat.mul_zero,Nat.add_zero,Nat.one_mul]at hv;exact hv
theorem nil_add{V p T:Nat}(h:V=T):V+p*val []=T:=by
 rw[show val []=0 from rfl,Nat.mul_zero,Nat.add_zero];exact h
end Go.AE
namespace Go.AE
open Go
theorem Tt(k:IntKind)(m:Nat)(c:Nat)(hc:c=m:=by omega):(madeCells (Value.cells (.int k (.ofNat 0))) (c*1)).toList=ns k (List.replicate m 0):=by
 subst hc
 simp only[madeCells,Value.cells,Nat.mul_one,Array.toList_map,ns]
 refine List.ext_getElem? fun i=> ?_
 simp[Nat.mod_one]
 rcases Nat.lt_or_ge i c with h|h
 ·simp[h]
 ·simp[h]
theorem lspl_eq: ∀(vs l:List Value) (k:Nat),k+vs.length≤l.length→Bq l k vs=l.take k++vs++l.drop (k+vs.length)
 |[],l,k,_=>by simp[Bq]
 |v::vs,l,k,h=>by
  simp only[List.length_cons]at h
  rw[Bq,lspl_eq vs _ _ (by rw[List.length_set];omega)]
  rw[List.set_eq_take_append_cons_drop,if_pos (by omega)]
  have h1:k≤l.length:=by omega
  simp only[List.length_cons,List.append_assoc,List.cons_append]
  rw[List.take_append,List.drop_append]
  simp only[List.length_take,Nat.min_eq_left h1]
  rw[List.take_of_length_le (by simp;omega),show k+1-k=1 by omega,List.take_succ_cons,List.take_zero,List.drop_eq_nil_of_le (by simp;omega)]
  simp only[List.nil_append,List.append_assoc,List.cons_append]
  rw[show k+1+vs.length-k=vs.length+1 by omega,List.drop_succ_cons,List.drop_drop,show k+1+vs.length=k+(vs.length+1) by omega]
theorem Wd(k:IntKind)(xs ys:List Nat):ns k xs++ns k ys=ns k (xs++ys):=by simp[ns]
theorem Vv(k:IntKind)(xs:List Nat)(n:Nat):(ns k xs).take n=ns k (xs.take n):=by simp[ns,List.map_take]
theorem ns_drop(k:IntKind)(xs:List Nat)(n:Nat):(ns k xs).drop n=ns k (xs.drop n):=by simp[ns,List.map_drop]
theorem ns_one(k:IntKind)(xs:List Nat):(ns k xs).all (·.oneCell')=true:=by
 simp[ns,List.all_eq_true,Value.oneCell']
theorem ns_cpy{k:IntKind}{xs:List Nat}{n m:Nat}(h:n≤xs.length)(hm:n≤m):
  0+n≤(ns k xs).length∧Nat.min n m=n∧0+n≤(ns k (List.replicate m 0)).length∧(List.take n (List.take n (List.drop 0 (ns k xs)))).all (·.oneCell')=true∧
   Bq (ns k (List.replicate m 0)) 0 (List.take n (List.take n (List.drop 0 (ns k xs))))=ns k (xs.take n++List.replicate (m-n) 0):=by
 refine⟨by rw[Bh];omega,Nat.min_eq_left hm,by rw[Bh,List.length_replicate];omega,?_,?_⟩
 ·rw[List.drop_zero,Vv,Vv];exact ns_one _ _
 ·rw[List.drop_zero,Vv,Vv,List.take_take,Nat.min_self,lspl_eq _ _ _ (by rw[Bh,Bh,List.length_take,List.length_replicate];omega)]
  rw[List.take_zero,List.nil_append,Bh,List.length_take,Nat.min_eq_left h,Nat.zero_add,ns_drop,Wd,List.drop_replicate]
theorem Tq{k:IntKind}{xs:List Nat}{i v:Nat}(h:i<xs.length):(ns k (xs.set i v))[i]? =some (.int k (v:Nat)):=by
 simp[ns,h]
theorem ns_set2{k:IntKind}{xs:List Nat}{i u v:Nat}(h:i<xs.length):i+1≤(ns k (xs.set i u)).length∧Bq (ns k (xs.set i u)) i [.int k (v:Nat)]=ns k (xs.set i v):=by
 refine⟨by rw[Bh,List.length_set];omega,?_⟩
 simp[Bq,ns,List.map_set]
def top(xs:List Nat):Nat→Nat
 |0=>0
 |n+1=>if xs.getD n 0=0 then top xs n else n+1
theorem top_le(xs:List Nat): ∀n,top xs n≤n
 |0=>Nat.le_refl _
 |n+1=>by
  unfold top
  split
  ·have:=top_le xs n;omega
  ·exact Nat.le_refl _
theorem top_pos(xs:List Nat): ∀n,0<top xs n→xs.getD (top xs n-1) 0≠0
 |0,h=>by simp[top]at h
 |n+1,h=>by
  unfold top at h ⊢
  split
  ·rename_i hq
   rw[if_pos hq]at h
   exact top_pos xs n h
  ·rename_i hq
   simpa using hq
theorem top_val(xs:List Nat): ∀n,val (xs.take (top xs n))=val (xs.take n)
 |0=>rfl
 |n+1=>by
  unfold top
  split
  ·rename_i hq
   rw[top_val xs n,val_take_succ,hq,Nat.zero_mul,Nat.add_zero]
  ·rfl
theorem top_zero{xs:List Nat}{n:Nat}(h:xs.getD n 0=0):top xs (n+1)=top xs n:=by rw[top,if_pos h]
theorem top_some{xs:List Nat}{n:Nat}(h:xs.getD n 0≠0):top xs (n+1)=n+1:=by rw[top,if_neg h]
theorem borrow_step'{B D V V' a a' q b p Y:Nat}(h0:a'+(q+b)=a+B)(h1:V'+a*p=V+a'*p)(hv:D+q*p+p*(b+B*Y)=V):D+1*(p*B)+p*B*Y=V':=by
 have e1:(a'+(q+b))*p=a'*p+q*p+b*p:=by rw[Nat.add_mul,Nat.add_mul];omega
 have e2:(a+B)*p=a*p+p*B:=by rw[Nat.add_mul,Nat.mul_comm B p]
 have e3:p*(b+B*Y)=b*p+p*B*Y:=by rw[Nat.mul_add,Nat.mul_comm p b,Nat.mul_assoc]
 rw[h0,e2]at e1
 rw[e3]at hv
 rw[Nat.one_mul]
 omega
theorem borrow_not'{B D V V' a a' q b p Y:Nat}(h0:a'+(q+b)=a)(h1:V'+a*p=V+a'*p)(hv:D+q*p+p*(b+B*Y)=V):D+0*(p*B)+p*B*Y=V':=by
 have e1:(a'+(q+b))*p=a'*p+q*p+b*p:=by rw[Nat.add_mul,Nat.add_mul];omega
 have e3:p*(b+B*Y)=b*p+p*B*Y:=by rw[Nat.mul_add,Nat.mul_comm p b,Nat.mul_assoc]
 rw[h0]at e1
 rw[e3]at hv
 rw[Nat.zero_mul]
 omega
theorem borrow_step{D V V' a a' q b p Y:Nat}(h0:a'+(q+b)=a+1000000000)(h1:V'+a*p=V+a'*p)(hv:D+q*p+p*(b+1000000000*Y)=V):D+1*(p*1000000000)+p*1000000000*Y=V':=borrow_step' h0 h1 hv
theorem borrow_not{D V V' a a' q b p Y:Nat}(h0:a'+(q+b)=a)(h1:V'+a*p=V+a'*p)(hv:D+q*p+p*(b+1000000000*Y)=V):D+0*(p*1000000000)+p*1000000000*Y=V':=borrow_not' h0 h1 hv
theorem borrow_step0'{B D V V' a a' p:Nat}(h0:a'+1=a+B)(h1:V'+a*p=V+a'*p)(hv:D+p=V):D+1*(p*B)=V':=by
 have e1:(a'+1)*p=a'*p+p:=by rw[Nat.add_mul,Nat.one_mul]
 have e2:(a+B)*p=a*p+p*B:=by rw[Nat.add_mul,Nat.mul_comm B p]
 rw[h0,e2]at e1
 rw[Nat.one_mul]
 omega
theorem borrow_not0'{B D V V' a a' p:Nat}(h0:a'+1=a)(h1:V'+a*p=V+a'*p)(hv:D+p=V):D+0*(p*B)=V':=by
 have e1:(a'+1)*p=a'*p+p:=by rw[Nat.add_mul,Nat.one_mul]
 rw[h0]at e1
 rw[Nat.zero_mul]
 omega
theorem borrow_step0{D V V' a a' p:Nat}(h0:a'+1=a+1000000000)(h1:V'+a*p=V+a'*p)(hv:D+p=V):D+1*(p*1000000000)=V':=borrow_step0' h0 h1 hv
theorem borrow_not0{D V V' a a' p:Nat}(h0:a'+1=a)(h1:V'+a*p=V+a'*p)(hv:D+p=V):D+0*(p*1000000000)=V':=borrow_not0' h0 h1 hv
end Go.AE
namespace Go.AE
theorem sum_lt'{B a b:Nat}{p:Nat}(ha:a<p)(hb:b<p)(hB:2≤B):a+b<p*B:=by
 have:=Nat.mul_le_mul_left p hB
 omega
theorem sum_lt{a b m:Nat}(ha:a<1000000000^m)(hb:b<1000000000^m):a+b<1000000000^(m+1):=by
 rw[Nat.pow_succ];exact sum_lt' ha hb (by decide)
def Gp(a b:Nat):Int:=if a<b then -1 else if a=b then 0 else 1
theorem Rd{a b:Nat}(h:a<b):Gp a b= -1:=by unfold Gp;rw[if_pos h]
theorem cmpN_eq{a b:Nat}(h:a=b):Gp a b=0:=by unfold Gp;rw[if_neg (by omega),if_pos h]
theorem Lc{a b:Nat}(h:b<a):Gp a b=1:=by unfold Gp;rw[if_neg (by omega),if_neg (by omega)]
theorem cmpN_add(a b c:Nat):Gp (a+c) (b+c)=Gp a b:=by
 rcases Nat.lt_trichotomy a b with h|h|h
 ·rw[Rd h,Rd (by omega)]
 ·rw[cmpN_eq h,cmpN_eq (by omega)]
 ·rw[Lc h,Lc (by omega)]
theorem top_lt{u v a b p:Nat}(hu:u<p)(h:a<b):u+a*p<v+b*p:=by
 have h1:(a+1)*p≤b*p:=Nat.mul_le_mul_right p h
 rw[Nat.add_mul,Nat.one_mul]at h1
 omega
theorem cmpN_top{u v a b p:Nat}(hu:u<p)(hv:v<p)(h:a≠b):Gp (u+a*p) (v+b*p)=Gp a b:=by
 rcases Nat.lt_trichotomy a b with q|q|q
 ·rw[Rd q,Rd (top_lt hu q)]
 ·exact absurd q h
 ·rw[Lc q,Lc (top_lt hv q)]
theorem val_lt_of_len{xs ys:List Nat}{n k:Nat}(hlx:Lim xs)(hc:n≤xs.length)(h:n<k)(hy:0<k→ys.getD (k-1) 0≠0):val (xs.take n)<val (ys.take k):=by
 have h1:=val_lt (hlx.take n)
 rw[List.length_take,Nat.min_eq_left hc]at h1
 have h2:=val_take_succ ys (k-1)
 rw[show k-1+1=k by omega]at h2
 have h3:1000000000^n≤1000000000^(k-1):=Tu (by omega)
 have h4:=hy (by omega)
 have h5:1*1000000000^(k-1)≤ys.getD (k-1) 0*1000000000^(k-1):=Nat.mul_le_mul_right _ (Nat.pos_of_ne_zero h4)
 rw[Nat.one_mul]at h5
 omega
end Go.AE
namespace Go.AE
theorem mul_fit{a b:Nat}(ha:a<1000000000)(hb:b<1000000000):a*b≤999999998000000001:=by
 have:=Nat.mul_le_mul (show a≤999999999 by omega) (show b≤999999999 by omega)
 omega
theorem row_step'{B V V' a b r q p Y T:Nat}(h1:V'+r*p=V+((a*b+r+q)%B)*p)(hv:V+q*p+a*(p*(b+B*Y))=T):
  V'+((a*b+r+q)/B)*(p*B)+a*(p*B*Y)=T:=by
 have h3:B*((a*b+r+q)/B)+(a*b+r+q)%B=a*b+r+q:=Nat.div_add_mod _ _
 generalize (a*b+r+q)/B=u at*
 generalize (a*b+r+q)%B=v at*
 have e1:(a*b+r+q)*p=a*b*p+r*p+q*p:=by rw[Nat.add_mul,Nat.add_mul]
 have e2:(B*u+v)*p=u*(p*B)+v*p:=by rw[Nat.add_mul,Nat.mul_comm B u,Nat.mul_assoc,Nat.mul_comm B p]
 have e3:a*(p*(b+B*Y))=a*b*p+a*(p*B*Y):=by
  rw[Nat.mul_add,Nat.mul_add,Nat.mul_assoc a b p,Nat.mul_comm b p,Nat.mul_assoc p B Y]
 rw[←h3,e2]at e1
 rw[e3]at hv
 omega
theorem row_step{V V' a b r q p Y T:Nat}(h1:V'+r*p=V+((a*b+r+q)%1000000000)*p)(hv:V+q*p+a*(p*(b+1000000000*Y))=T):
  V'+((a*b+r+q)/1000000000)*(p*1000000000)+a*(p*1000000000*Y)=T:=row_step' h1 hv
theorem nil_mul{V a p T:Nat}(hv:V+a*(p*val [])=T):V=T:=by
 rw[show val []=0 from rfl,Nat.mul_zero,Nat.mul_zero,Nat.add_zero]at hv;exact hv
theorem row_sum{X Y a p:Nat}:X*Y+0*p+a*(p*Y)=(X+a*p)*Y:=by
 rw[Nat.add_mul,Nat.zero_mul,Nat.add_zero,Nat.mul_assoc]
theorem Va(n l:Nat):(List.replicate n 0).getD l 0=0:=by
 rcases Nat.lt_or_ge l n with h|h
 ·simp[List.getD,h]
 ·simp[List.getD,h]
end Go.AE
namespace Go.AE
def Es(n:Nat):Nat:=if h:n=0 then 0 else Es (n/10)+1
termination_by n
decreasing_by omega
theorem ndig_zero:Es 0=0:=by rw[Es];rfl
theorem Qd{n:Nat}(h:0<n):Es n=Es (n/10)+1:=by rw[Es,dif_neg (by omega)]
theorem Tx: ∀(k n:Nat),n<10^k→Es n≤k
 |0,n,h=>by
  have:n=0:=by simpa using h
  subst this
  rw[ndig_zero];exact Nat.le_refl _
 |k+1,n,h=>by
  rcases Nat.eq_zero_or_pos n with h0|h0
  ·subst h0;rw[ndig_zero];omega
  ·rw[Qd h0]
   have h1:n/10<10^k:=by
    rw[Nat.div_lt_iff_lt_mul (by decide),←Nat.pow_succ];exact h
   have:=Tx k (n/10) h1
   omega
theorem ndig_le{n:Nat}(h:n<1000000000):Es n≤9:=Tx 9 n (by simpa using h)
def digN(xs:List Nat)(n:Nat):Nat:=if n=0 then 0 else (n-1)*9+Es (xs.getD (n-1) 0)
end Go.AE
namespace Go.AE
open Go
def Aa(ds:List Nat):ByteArray:=⟨(ds.map fun d=>UInt8.ofNat (48+d)).toArray⟩
abbrev Dig(ds:List Nat):Prop:= ∀d∈ds,d<10
theorem Ad(ds:List Nat):(Aa ds).size=ds.length:=by simp[Aa,ByteArray.size]
def Az(ds:List Nat):Nat:=ds.foldl (fun a d=>a*10+d) 0
theorem Xs: ∀(ds:List Nat) (a:Nat),ds.foldl (fun a d=>a*10+d) a=a*10^ds.length+Az ds
 |[],a=>by simp[Az]
 |d::ds,a=>by
  have h1:=Xs ds (a*10+d)
  have h2:=Xs ds (0*10+d)
  have h3:Az (d::ds)=ds.foldl (fun a d=>a*10+d) (0*10+d):=rfl
  rw[List.foldl_cons,h1,h3,h2,List.length_cons,Nat.pow_succ,Nat.add_mul,Nat.add_mul,Nat.zero_mul,Nat.zero_add,Nat.mul_assoc,Nat.mul_comm 10]
  omega
theorem Gr(a b:List Nat):Az (a++b)=Az a*10^b.length+Az b:=by
 rw[Az,List.foldl_append,Xs];rfl
theorem Wc(a:List Nat)(d:Nat):Az (a++[d])=Az a*10+d:=by
 rw[Gr];simp[Az]
theorem Ka: ∀(ds:List Nat),Dig ds→Az ds<10^ds.length
 |[],_=>by simp[Az]
 |d::ds,h=>by
  have h1:=h d (List.mem_cons_self ..)
  have h2:=Ka ds fun x hx=>h x (List.mem_cons_of_mem _ hx)
  have h3:Az (d::ds)=d*10^ds.length+Az ds:=by
   have:=Gr [d] ds
   simpa [Az] using this
  rw[h3,List.length_cons,Nat.pow_succ]
  have h4:(d+1)*10^ds.length≤10*10^ds.length:=Nat.mul_le_mul_right _ (by omega)
  rw[Nat.add_mul,Nat.one_mul]at h4
  omega
theorem Dig.take{ds:List Nat}(h:Dig ds)(k:Nat):Dig (ds.take k):=fun x hx=>h x (List.mem_of_mem_take hx)
theorem Dig.drop{ds:List Nat}(h:Dig ds)(k:Nat):Dig (ds.drop k):=fun x hx=>h x (List.mem_of_mem_drop hx)
theorem Dig.get{ds:List Nat}(h:Dig ds)(k:Nat):ds.getD k 0<10:=by
 rcases Nat.lt_or_ge k ds.length with q|q
 ·rw[List.getD,List.getElem?_eq_getElem q];exact h _ (List.getElem_mem q)
 ·rw[List.getD,List.getElem?_eq_none q];decide
theorem Ho{ds:List Nat}{p:Nat}(h:p<ds.length):Az (ds.take (p+1))=Az (ds.take p)*10+ds.getD p 0:=by
 rw[List.take_succ_eq_append_getElem h,Wc,List.getD,List.getElem?_eq_getElem h];rfl
theorem Gi{ds:List Nat}{p:Nat}(h:p<ds.length):(Aa ds)[p]? =some (UInt8.ofNat (48+ds.getD p 0)):=by
 have h1:p<(Aa ds).size:=by rw[Ad];exact h
 rw[getElem?_pos (Aa ds) p h1]
 simp[Aa,List.getD,List.getElem?_eq_getElem h,ByteArray.getElem_eq_getElem_data]
theorem Hz(ds:List Nat)(a b:Nat):(Aa ds).extract a b=Aa ((ds.take b).drop a):=by
 apply ByteArray.ext
 simp only[ByteArray.data_extract,Aa]
 apply Array.ext'
 rw[Array.toList_extract,List.extract_eq_take_drop,List.map_drop,List.map_take,List.drop_take]
theorem Kw{ds:List Nat}(h:Dig ds){p:Nat}(hp:p<ds.length):Utf8.decode (Aa ds) p=(48+ds.getD p 0,1):=by
 have h1:p<(Aa ds).size:=by rw[Ad];exact hp
 have h2:=Gi hp
 have h3:=h.get p
 have h4:(Aa ds)[p]'h1=UInt8.ofNat (48+ds.getD p 0):=by
  rw[getElem?_pos (Aa ds) p h1]at h2
  exact Option.some.inj h2
 have h5:((Aa ds)[p]'h1).toNat=48+ds.getD p 0:=by
  rw[h4,UInt8.toNat_ofNat']
  omega
 rw[decode_ascii (Aa ds) p h1 (by rw[h5];omega),h5]
end Go.AE
namespace Go.AE
open Go
end Go.AE
namespace Go.AE
open Go
theorem app_ns{k:IntKind}{zs:List Nat}{n c l by_:Nat}(hn:n<c)(hz:zs.length=c)(hm:c*by_≤140737488355328∧c≤9223372036854775807):
  n+1=(n+1)∧(n+1)*by_≤140737488355328∧(n+1)≤c∧c≤9223372036854775807∧0+n*1+1≤(ns k zs).length∧Bq (ns k zs) (0+n*1) [.int k (l:Nat)]=ns k (zs.set n l):=by
 have h1:0+n*1=n:=by omega
 have h2:(n+1)*by_≤c*by_:=Nat.mul_le_mul_right _ (by omega)
 rw[h1]
 obtain⟨h3,h4⟩:=Dw (k:=k) (xs:=zs) (i:=n) (v:=l) (by omega)
 exact⟨rfl,by omega,by omega,by omega,h3,h4⟩
end Go.AE
namespace Go.AE
open Go
def Ae(n:Nat):List Nat:=if _h:n<10 then[n] else Ae (n/10)++[n%10]
termination_by n
decreasing_by omega
theorem Cf{n:Nat}(h:n<10):Ae n=[n]:=by rw[Ae,dif_pos h]
theorem Bw{n:Nat}(h: ¬n<10):Ae n=Ae (n/10)++[n%10]:=by rw[Ae,dif_neg h]
theorem Bs: ∀n,Dig (Ae n):=by
 intro n
 induction n using Nat.strongRecOn with
 |ind n ih=>
  by_cases h:n<10
  ·rw[Cf h];intro d hd;simp at hd;omega
  ·rw[Bw h]
   intro d hd
   rcases List.mem_append.1 hd with q|q
   ·exact ih (n/10) (by omega) d q
   ·simp at q;omega
theorem Gx: ∀n,Az (Ae n)=n:=by
 intro n
 induction n using Nat.strongRecOn with
 |ind n ih=>
  by_cases h:n<10
  ·rw[Cf h];simp[Az]
  ·rw[Bw h,Wc,ih (n/10) (by omega)];omega
theorem digs_ne(n:Nat):Ae n≠[]:=by
 by_cases h:n<10
 ·rw[Cf h];simp
 ·rw[Bw h];simp
theorem Hk: ∀n,0<n→(Ae n).length=Es n:=by
 intro n
 induction n using Nat.strongRecOn with
 |ind n ih=>
  intro h0
  by_cases h:n<10
  ·rw[Cf h,Qd h0,show n/10=0 by omega,ndig_zero];rfl
  ·rw[Bw h,List.length_append,ih (n/10) (by omega) (by omega),Qd h0];rfl
theorem Nz: ∀n,Aa (Ae n)=⟨(Lib.decDigits n).toArray⟩:=by
 have key: ∀n,(Ae n).map (fun d=>UInt8.ofNat (48+d))=Lib.decDigits n:=by
  intro n
  induction n using Nat.strongRecOn with
  |ind n ih=>
   by_cases h:n<10
   ·rw[Cf h,Lib.decDigits,dif_pos h];rfl
   ·rw[Bw h,Lib.decDigits,dif_neg h,List.map_append,ih (n/10) (by omega)];rfl
 intro n
 unfold Aa
 rw[key]
def Bg(ds:List Nat):ByteArray:=⟨(45::ds.map fun d=>UInt8.ofNat (48+d)).toArray⟩
def Ab(z:Int):ByteArray:=if z<0 then Bg (Ae z.natAbs) else Aa (Ae z.toNat)
theorem istr_itoa(z:Int):Ab z=⟨(Lib.itoa z).toArray⟩:=by
 unfold Ab Lib.itoa
 split
 ·have:=Nz z.natAbs
  unfold Aa at this
  unfold Bg
  have h2:(Ae z.natAbs).map (fun d=>UInt8.ofNat (48+d))=Lib.decDigits z.natAbs:=by
   have h3:=congrArg (fun b:ByteArray=>b.data.toList) this
   simpa using h3
  rw[h2]
 ·exact Nz _
theorem nDigits_ndig: ∀n,0<n→Lib.nDigits n=Es n:=by
 intro n
 induction n using Nat.strongRecOn with
 |ind n ih=>
  intro h0
  by_cases h:n<10
  ·rw[Lib.nDigits,dif_pos h,Qd h0,show n/10=0 by omega,ndig_zero]
  ·rw[Lib.nDigits,dif_neg h,ih (n/10) (by omega) (by omega),Qd h0]
theorem Zd{n:Nat}(h:n<10):Ae n=[n]:=Cf h
theorem digs_two{n:Nat}(h1:10≤n)(h2:n<100):Ae n=[n/10,n%10]:=by
 rw[Bw (by omega),Cf (by omega)];rfl
theorem Nx{d:Nat}(h:d<10):(UInt8.ofNat (48+d)).toNat=48+d:=by
 rw[UInt8.toNat_ofNat'];omega
end Go.AE
namespace Go.AE
open Go
theorem digs2{u:Nat}(h1:10≤u)(h2:u<100):Ae u=[u/10,u%10]:=digs_two h1 h2
theorem digs3{u:Nat}(h1:100≤u)(h2:u<1000):Ae u=[u/100,u/10%10,u%10]:=by
 rw[Bw (by omega),digs2 (u:=u/10) (by omega) (by omega)]
 simp only[List.cons_append,List.nil_append,Nat.div_div_eq_div_mul,Nat.reduceMul]
theorem digs4{u:Nat}(h1:1000≤u)(h2:u<10000):Ae u=[u/1000,u/100%10,u/10%10,u%10]:=by
 rw[Bw (by omega),digs3 (u:=u/10) (by omega) (by omega)]
 simp only[List.cons_append,List.nil_append,Nat.div_div_eq_div_mul,Nat.reduceMul]
theorem digs5{u:Nat}(h1:10000≤u)(h2:u<100000):Ae u=[u/10000,u/1000%10,u/100%10,u/10%10,u%10]:=by
 rw[Bw (by omega),digs4 (u:=u/10) (by omega) (by omega)]
 simp only[List.cons_append,List.nil_append,Nat.div_div_eq_div_mul,Nat.reduceMul]
theorem digs6{u:Nat}(h1:100000≤u)(h2:u<1000000):Ae u=[u/100000,u/10000%10,u/1000%10,u/100%10,u/10%10,u%10]:=by
 rw[Bw (by omega),digs5 (u:=u/10) (by omega) (by omega)]
 simp only[List.cons_append,List.nil_append,Nat.div_div_eq_div_mul,Nat.reduceMul]
theorem digs7{u:Nat}(h1:1000000≤u)(h2:u<10000000):Ae u=[u/1000000,u/100000%10,u/10000%10,u/1000%10,u/100%10,u/10%10,u%10]:=by
 rw[Bw (by omega),digs6 (u:=u/10) (by omega) (by omega)]
 simp only[List.cons_append,List.nil_append,Nat.div_div_eq_div_mul,Nat.reduceMul]
theorem digs8{u:Nat}(h1:10000000≤u)(h2:u<100000000):Ae u=[u/10000000,u/1000000%10,u/100000%10,u/10000%10,u/1000%10,u/100%10,u/10%10,u%10]:=by
 rw[Bw (by omega),digs7 (u:=u/10) (by omega) (by omega)]
 simp only[List.cons_append,List.nil_append,Nat.div_div_eq_div_mul,Nat.reduceMul]
theorem digs9{u:Nat}(h1:100000000≤u)(h2:u<1000000000):Ae u=[u/100000000,u/10000000%10,u/1000000%10,u/100000%10,u/10000%10,u/1000%10,u/100%10,u/10%10,u%10]:=by
 rw[Bw (by omega),digs8 (u:=u/10) (by omega) (by omega)]
 simp only[List.cons_append,List.nil_append,Nat.div_div_eq_div_mul,Nat.reduceMul]
theorem Ck{a a':Value}{l l':List Value}(h1:a=a')(h2:l=l'):a::l=a'::l':=by rw[h1,h2]
theorem Be{a d:Nat}(h:a=d)(hd:d<10):Value.int .u8 (((UInt8.ofNat (48+a)).toNat:Nat):Int)=.int .u8 ((48+d:Nat):Int):=by rw[h,Nx hd]
theorem int_eq{a d:Nat}(h:a=48+d):Value.int .u8 ((a:Nat):Int)=.int .u8 ((48+d:Nat):Int):=by rw[h]
theorem Ke{bs:List Value}{ds:List Nat}{n c:Nat}(h:bs=ns .u8 ds)(hn:ds.length=n)(hc:9≤c)(hn9:n≤9)(hcm:c<70368744177664):
  0+n=n∧n*1≤140737488355328∧n≤c∧c≤9223372036854775807∧0+0*1+n≤(ns .u8 (List.replicate c 0)).length∧Bq (ns .u8 (List.replicate c 0)) (0+0*1) bs=ns .u8 (ds++List.replicate (c-n) 0):=by
 subst h
 refine⟨by omega,by omega,by omega,by omega,by rw[Bh,List.length_replicate];omega,?_⟩
 rw[lspl_eq _ _ _ (by rw[Bh,Bh,List.length_replicate,hn];omega)]
 rw[show 0+0*1=0 from rfl,List.take_zero,List.nil_append,Bh,hn,Nat.zero_add,ns_drop,Wd,List.drop_replicate]
theorem smalls_hi: ∀k,k<100→(⟨((List.range 100).flatMap fun k=>[UInt8.ofNat (48+k/10),UInt8.ofNat (48+k%10)]).toArray⟩:ByteArray)[k*2]? =some (UInt8.ofNat (48+k/10)):=by decide+kernel
theorem smalls_lo: ∀k,k<100→(⟨((List.range 100).flatMap fun k=>[UInt8.ofNat (48+k/10),UInt8.ofNat (48+k%10)]).toArray⟩:ByteArray)[k*2+1]? =some (UInt8.ofNat (48+k%10)):=by decide+kernel
end Go.AE
namespace Go.AE
open Go
def bstr(bs:List Nat):ByteArray:=⟨(bs.map UInt8.ofNat).toArray⟩
theorem dstr_bstr(ds:List Nat):Aa ds=bstr (ds.map (48+ ·)):=by
 unfold Aa bstr
 rw[List.map_map];rfl
theorem intsOf_ns: ∀xs:List Nat,Dk (ns .u8 xs)=some (xs.map fun (x:Nat)=>(x:Int))
 |[]=>rfl
 |x::xs=>by
  have:=intsOf_ns xs
  unfold ns at this ⊢
  simp only[List.map_cons,Dk,u8?,Option.bind_some,this,Option.map_some]
theorem b2s_ns{bs rest:List Nat}{n:Nat}(hn:n=bs.length):0+n≤(ns .u8 (bs++rest)).length∧(Dk (List.take n (List.drop 0 (ns .u8 (bs++rest))))).map (fun ns=>(⟨(ns.map fun n=>UInt8.ofNat n.toNat).toArray⟩:ByteArray))=some (bstr bs):=by
 subst hn
 refine⟨by rw[Bh,List.length_append];omega,?_⟩
 rw[List.drop_zero,Vv,List.take_left,intsOf_ns,Option.map_some,List.map_map]
 rfl
theorem Kz{bs:List Nat}{l r c v:Nat}(hl:l=bs.length)(hr:0<r)(hc:l+r≤c)(hcm:c<70368744177664):
  l+1=(l+1)∧(l+1)*1≤140737488355328∧(l+1)≤c∧c≤9223372036854775807∧0+l*1+1≤(ns .u8 (bs++List.replicate r 0)).length∧Bq (ns .u8 (bs++List.replicate r 0)) (0+l*1) [.int .u8 (v:Nat)]=ns .u8 ((bs++[v])++List.replicate (r-1) 0):=by
 have h1:0+l*1=l:=by omega
 rw[h1]
 refine⟨rfl,by omega,by omega,by omega,by rw[Bh,List.length_append,List.length_replicate];omega,?_⟩
 have h2:([.int .u8 ((v:Nat):Int)]:List Value)=ns .u8 [v]:=rfl
 rw[h2,lspl_eq _ _ _ (by rw[Bh,Bh,List.length_append,List.length_replicate];simp;omega)]
 rw[Vv,ns_drop,Wd,Wd,Bh,hl,List.take_left]
 congr 1
 rw[←List.drop_drop,List.drop_left,List.drop_replicate]
 rfl
def pad9(a:Nat):List Nat:=[a/100000000%10,a/10000000%10,a/1000000%10,a/100000%10,a/10000%10,a/1000%10,a/100%10,a/10%10,a/1%10]
theorem digs_snoc{a d:Nat}(ha:0<a)(hd:d<10):Ae (a*10+d)=Ae a++[d]:=by
 rw[Bw (by omega),show (a*10+d)/10=a by omega,show (a*10+d)%10=d by omega]
theorem digs_nine{N:Nat}(h:1000000000≤N):Ae N=Ae (N/1000000000)++[N/100000000%10,N/10000000%10,N/1000000%10,N/100000%10,N/10000%10,N/1000%10,N/100%10,N/10%10,N%10]:=by
 rw[Bw (n:=N) (by omega)]
 rw[Bw (n:=N/10) (by omega)]
 rw[show N/10/10=N/100 by omega]
 rw[Bw (n:=N/100) (by omega)]
 rw[show N/100/10=N/1000 by omega]
 rw[Bw (n:=N/1000) (by omega)]
 rw[show N/1000/10=N/10000 by omega]
 rw[Bw (n:=N/10000) (by omega)]
 rw[show N/10000/10=N/100000 by omega]
 rw[Bw (n:=N/100000) (by omega)]
 rw[show N/100000/10=N/1000000 by omega]
 rw[Bw (n:=N/1000000) (by omega)]
 rw[show N/1000000/10=N/10000000 by omega]
 rw[Bw (n:=N/10000000) (by omega)]
 rw[show N/10000000/10=N/100000000 by omega]
 rw[Bw (n:=N/100000000) (by omega)]
 rw[show N/100000000/10=N/1000000000 by omega]
 simp only[List.append_assoc,List.cons_append,List.nil_append]
theorem digs_pad9{a b:Nat}(ha:0<a)(hb:b<1000000000):Ae (b+1000000000*a)=Ae a++pad9 b:=by
 rw[digs_nine (by omega),show (b+1000000000*a)/1000000000=a by omega]
 unfold pad9
 rw[show (b+1000000000*a)/100000000%10=b/100000000%10 by omega]
 rw[show (b+1000000000*a)/10000000%10=b/10000000%10 by omega]
 rw[show (b+1000000000*a)/1000000%10=b/1000000%10 by omega]
 rw[show (b+1000000000*a)/100000%10=b/100000%10 by omega]
 rw[show (b+1000000000*a)/10000%10=b/10000%10 by omega]
 rw[show (b+1000000000*a)/1000%10=b/1000%10 by omega]
 rw[show (b+1000000000*a)/100%10=b/100%10 by omega]
 rw[show (b+1000000000*a)/10%10=b/10%10 by omega]
 rw[show (b+1000000000*a)%10=b/1%10 by omega]
theorem digs_len9{n:Nat}(h0:0<n)(h:n<1000000000):(Ae n).length≤9:=by
 rw[Hk n h0];exact ndig_le h
end Go.AE
namespace Go.AE
open Go
abbrev nI(n:Nat):Value:=.int .i64 (n:Int)
abbrev nW(n:Nat):Value:=.int .u32 (n:Int)
abbrev nU(n:Nat):Value:=.int .u64 (n:Int)
abbrev nB(n:Nat):Value:=.int .u8 (n:Int)
abbrev nR(n:Nat):Value:=.int .i32 (n:Int)
abbrev lI(n:Nat):Value:=.int .i64 (.ofNat n)
abbrev lW(n:Nat):Value:=.int .u32 (.ofNat n)
abbrev lU(n:Nat):Value:=.int .u64 (.ofNat n)
abbrev bT:Value:=.bool true
abbrev bF:Value:=.bool false
abbrev uu:Value:=undef
theorem tt:True:=trivial
theorem aI{p q:Prop}(h:p)(g:q):p∧q:=⟨h,g⟩
theorem ix(a n:Int)(o s off:Nat)(h:0≤a∧a<n∧o+Int.toNat a*s=off:=by omega):0≤a∧a<n∧o+Int.toNat a*s=off:=h
theorem dT{p:Prop} [Decidable p] (h:p:=by omega):decide p=true:=decide_eq_true h
theorem dF{p:Prop} [Decidable p] (h: ¬p:=by omega):decide p=false:=decide_eq_false h
theorem eT{a b:Int}(h:a=b:=by omega):(a==b)=true:=beq_iff_eq.2 h
theorem eF{a b:Int}(h:a≠b:=by omega):(a==b)=false:=beq_eq_false_iff_ne.2 h
theorem nT{a b:Int}(h:a≠b:=by omega):(a !=b)=true:=bne_iff_ne.2 h
theorem nF{a b:Int}(h:a=b:=by omega):(a !=b)=false:=bne_eq_false_iff_eq.2 h
theorem Am{a r:Int}(h:a=r∧ -9223372036854775808≤a∧a<9223372036854775808:=by omega):IntKind.wrap .i64 a=r:=by rw[Cc h.2.1 h.2.2];exact h.1
theorem He{a r:Int}(h:a=r∧0≤a∧a<18446744073709551616:=by omega):IntKind.wrap .u64 a=r:=by rw[Ee h.2.1 h.2.2];exact h.1
theorem Br{a r:Int}(h:a=r∧0≤a∧a<4294967296:=by omega):IntKind.wrap .u32 a=r:=by rw[Bk h.2.1 h.2.2];exact h.1
theorem wU8{a r:Int}(h:a=r∧0≤a∧a<256:=by omega):IntKind.wrap .u8 a=r:=by rw[wrap_u8 h.2.1 h.2.2];exact h.1
theorem wI32{a r:Int}(h:a=r∧ -2147483648≤a∧a<2147483648:=by omega):IntKind.wrap .i32 a=r:=by rw[wrap_i32 h.2.1 h.2.2];exact h.1
theorem om{p:Prop}(h:p:=by omega):p:=h
theorem de{p:Prop}(h:p:=by decide):p:=h
theorem sm{p:Prop}(h:p:=by simp):p:=h
abbrev nS:Value:=.slice none 0 0
abbrev sw(b o n c:Nat):Value:=.slice (some ⟨b,o,none⟩) n c
abbrev pp(b o:Nat):Value:=.pointer (some ⟨b,o,none⟩)
abbrev Fr(f:FuncId)(l:List Value)(t:List Item):Frame:=⟨f,List.toArray l,t,[],.run,.normal,none⟩
theorem ff{P:Program}{G:Nat}{f:FuncId}{args args':Array Value}{v v':Value}{hf:AH}(bs:List Nat)(os ps:List AObj)(keep:List Nat)(qs:List AObj)(n:Nat)
  (S:CSp P G f args (Ac (G+bs.length) (Dg G os)) v hf) (hnd:bs.Nodup:=by simp) (hb: ∀b∈bs,G≤b∧b<n:=by simp;omega) (hGn:G≤n:=by omega) (fo:os.all Bj=true:=by simp[Bj,Af]) (fp:ps.all Bj=true:=by simp[Bj,Af]) (fq:qs.all (fun o=>Bj o&& !o.ro)=true:=by simp[Bj,Af,AObj.ro])
  (hk:keep.Nodup:=by simp) (hkn: ∀i∈keep,G+bs.length≤i:=by simp) (hos:os.length=bs.length:=by rfl) (hps:(List.range bs.length).map (fun i=>hf.get (G+i))=ps.map some:=by rfl) (hqs:keep.map hf.get=qs.map some:=by rfl) (hv:Gb (okI (G+bs.length) keep) v=true:=by rfl) (ea:Ed (Dz G bs n) args=args':=by rfl) (ev:mv (Hs (G+bs.length) (Dz G bs n) keep n) v=v':=by rfl):
  FSp P G f args' n (bs.zip os) v' (bs.zip (ps.map some)) qs:=Yf bs os ps keep qs n S hos hps hqs hnd hb hGn fo fp fq hk hkn hv ea ev
theorem Dy{P:Program}{G:Nat}{f:FuncId}{args args':Array Value}{v v':Value}{hf:AH}(n:Nat)(S:CSp P G f args (Ac (G+0) []) v hf)(hGn:G≤n:=by omega)(hv:Gb (okI (G+0) []) v=true:=by rfl)(ea:Ed (Dz G [] n) args=args':=by rfl)(ev:mv (Hs (G+0) (Dz G [] n) [] n) v=v':=by rfl):FSp P G f args' n [] v' [] []:=Yf [] [] [] [] [] n S rfl rfl rfl (by simp) (by simp) hGn rfl rfl rfl (by simp) (by simp) hv ea ev
def uj:Nat→List Value→List Value
 |0,t=>t
 |n+1,t=>undef::uj n t
end Go.AE
namespace Go.AE
open Go
theorem ndig_shift: ∀(k u a:Nat),u<10^k→0<a→Es (u+a*10^k)=k+Es a
 |0,u,a,hu,_=>by
  have:u=0:=by rw[Nat.pow_zero]at hu;omega
  rw[this,Nat.pow_zero,Nat.mul_one,Nat.zero_add,Nat.zero_add]
 |k+1,u,a,hu,ha=>by
  have h0:0<10^k:=Nat.pow_pos (by decide)
  have h1:a*10^(k+1)=10*(a*10^k):=by rw[Nat.pow_succ];ac_rfl
  have h2:0<a*10^k:=Nat.mul_pos ha h0
  have h3:(u+a*10^(k+1))/10=u/10+a*10^k:=by rw[h1];omega
  rw[Qd (by omega),h3,ndig_shift k (u/10) a (by rw[Nat.pow_succ]at hu;omega) ha]
  omega
theorem pow9(k:Nat):1000000000^k=10^(9*k):=by
 rw[Nat.pow_mul]
theorem digN_eq{xs:List Nat}{n:Nat}(hl:Lim xs)(hn:n≤xs.length)(hx:0<n→xs.getD (n-1) 0≠0):digN xs n=Es (val (xs.take n)):=by
 unfold digN
 by_cases h:n=0
 ·rw[if_pos h,h,List.take_zero]
  exact ndig_zero.symm
 ·rw[if_neg h]
  have hx2:=hx (by omega)
  have h1:=val_take_succ xs (n-1)
  rw[show n-1+1=n by omega]at h1
  have h2:=val_lt (hl.take (n-1))
  rw[List.length_take,show min (n-1) xs.length=n-1 by omega]at h2
  rw[h1,pow9,ndig_shift _ _ _ (by rw[←pow9];exact h2) (by omega)]
  omega
end Go.AE
namespace Go.AE
def Xj(b:UInt8):Bool:=decide (48≤b.toNat)&&decide (b.toNat≤57)
theorem dec_good{t:ByteArray}{p:Nat}(hp:p<t.size)(h:Xj (t[p]'hp)=true):Utf8.decode t p=(48+((t[p]'hp).toNat-48),1):=by
 simp only[Xj,Bool.and_eq_true,decide_eq_true_eq]at h
 rw[decode_ascii t p hp (by omega)]
 congr 1;omega
theorem dec_bad{t:ByteArray}{p:Nat}(hp:p<t.size)(h:Xj (t[p]'hp)=false): ∃r w,Utf8.decode t p=(r,w)∧(r<48∨57<r)∧r≤1114111:=by
 have h':(t[p]'hp).toNat<48∨57<(t[p]'hp).toNat:=by
  rcases Nat.lt_or_ge (t[p]'hp).toNat 48 with h1|h1
  ·exact .inl h1
  ·rcases Nat.lt_or_ge 57 (t[p]'hp).toNat with h2|h2
   ·exact .inr h2
   ·simp[Xj,h1,h2]at h
 have hg:t.get! p=t[p]'hp:=by
  show t.data[p]! =t.data[p]'hp
  rw[getElem!_pos]
 simp only[Utf8.decode,Nat.add_zero,hg,Utf8.runeError]
 generalize (t[p]'hp).toNat=b0 at h' ⊢
 generalize (t.get! (p+1)).toNat=b1
 generalize (t.get! (p+2)).toNat=b2
 generalize (t.get! (p+3)).toNat=b3
 split
 ·exact⟨_,_,rfl,by omega,by omega⟩
 split
 ·split
  ·exact⟨_,_,rfl,by omega,by omega⟩
  ·exact⟨_,_,rfl,by omega,by omega⟩
 split
 ·split
  ·rename_i h3
   simp only[ge_iff_le,Bool.and_eq_true,decide_eq_true_eq]at h3
   exact⟨_,_,rfl,by omega,by omega⟩
  ·exact⟨_,_,rfl,by omega,by omega⟩
 split
 ·split
  ·rename_i h3
   simp only[ge_iff_le,Utf8.valid,Bool.and_eq_true,Bool.or_eq_true,decide_eq_true_eq]at h3
   exact⟨_,_,rfl,by omega,by omega⟩
  ·exact⟨_,_,rfl,by omega,by omega⟩
 ·exact⟨_,_,rfl,by omega,by omega⟩
def dsOf(t:ByteArray):List Nat:=t.data.toList.map fun b=>b.toNat-48
theorem dstr_dsOf{t:ByteArray}(h:t.data.toList.all Xj=true):Aa (dsOf t)=t:=by
 apply ByteArray.ext
 apply Array.ext'
 simp only[Aa,dsOf,List.map_map]
 rw[←List.map_id t.data.toList]
 simp only[List.map_map]
 apply List.map_congr_left
 intro b hb
 have:=List.all_eq_true.1 h b hb
 simp only[Xj,Bool.and_eq_true,decide_eq_true_eq]at this
 simp only[Function.comp,id]
 rw[show 48+(b.toNat-48)=b.toNat from by omega]
 exact UInt8.ofNat_toNat
theorem dig_dsOf{t:ByteArray}(h:t.data.toList.all Xj=true):Dig (dsOf t):=by
 intro d hd
 simp only[dsOf,List.mem_map]at hd
 obtain⟨b,hb,rfl⟩:=hd
 have:=List.all_eq_true.1 h b hb
 simp only[Xj,Bool.and_eq_true,decide_eq_true_eq]at this
 omega
theorem first_bad: ∀(l:List UInt8),l.all Xj=false→ ∃p,∃h:p<l.length,(∀q (hq:q<p),Xj (l[q]'(by omega))=true)∧Xj (l[p]'h)=false:=by
 intro l
 induction l with
 |nil=>intro h;simp at h
 |cons b l ih=>
  intro h
  cases hb:Xj b with
  |false=>exact⟨0,by simp,fun q hq=>absurd hq (by omega),by simpa using hb⟩
  |true=>
   simp only[List.all_cons,hb,Bool.true_and]at h
   obtain⟨p,hp,h1,h2⟩:=ih h
   refine⟨p+1,by simp;omega,?_,by simpa using h2⟩
   intro q hq
   cases q with
   |zero=>simpa using hb
   |succ q=>simpa using h1 q (by omega)
theorem bytes_cases(t:ByteArray):(Dig (dsOf t)∧Aa (dsOf t)=t)∨ ∃p,∃h:p<t.size,(∀q (hq:q<p),Xj (t[q]'(by omega))=true)∧Xj (t[p]'h)=false:=by
 cases h:t.data.toList.all Xj with
 |true=>exact .inl ⟨dig_dsOf h,dstr_dsOf h⟩
 |false=>
  obtain⟨p,hp,h1,h2⟩:=first_bad _ h
  refine .inr ⟨p,by simpa using hp,?_,by rw[ByteArray.getElem_eq_getElem_data];simpa using h2⟩
  intro q hq
  rw[ByteArray.getElem_eq_getElem_data]
  simpa using h1 q hq
end Go.AE
namespace Go.AE
theorem scale_step{B f V q p a X T v u:Nat}(h:v+B*u=a*f+q)(hv:V+q*p+f*(p*(a+B*X))=T):V+v*p+u*(p*B)+f*(p*B*X)=T:=by grind
theorem shrink_step{B d r p a X V T v r':Nat}(h:d*v+r'=r*B+a)(hv:V+a*p+p*B*r+d*(p*B*X)=T):V+p*r'+d*(p*(v+B*X))=T:=by grind
theorem guess_ok'{B W V W3 V2 P lo vl:Nat}(hW:W=W3*P+lo)(hlo:lo<P)(hV:V=V2*P+vl)(hvl:vl<P)(h2:B≤V2)(hB:0<B)(hWV:W<V*B):
  W/V≤min (B-1) (W3/V2)∧min (B-1) (W3/V2)≤W/V+1:=by
 have hP:0<P:=by omega
 have hV2:0<V2:=by omega
 have hV0:0<V:=by
  have:=Nat.mul_le_mul (show 1≤V2 by omega) (show 1≤P by omega)
  omega
 have hq:W/V*V≤W:=Nat.div_mul_le_self _ _
 have hq1:W<(W/V+1)*V:=by rw[Nat.mul_comm];exact Nat.lt_mul_div_succ W hV0
 have hqB:W/V<B:=Nat.div_lt_of_lt_mul hWV
 generalize W/V=q at*
 refine⟨Nat.le_min.2 ⟨by omega,?_⟩,?_⟩
 ·rw[Nat.le_div_iff_mul_le hV2]
  have h1:q*V2*P≤q*V:=by rw[Nat.mul_assoc];exact Nat.mul_le_mul_left _ (by omega)
  have h3:q*V2*P<(W3+1)*P:=by rw[Nat.add_mul];omega
  have:=Nat.lt_of_mul_lt_mul_right h3
  omega
 ·apply Nat.le_of_not_lt
  intro hlt
  obtain⟨g,hg⟩: ∃g,min (B-1) (W3/V2)=g:=⟨_,rfl⟩
  rw[hg]at hlt
  have hgB:g≤B-1:=hg▸Nat.min_le_left _ _
  have hgW:g*V2≤W3:=by rw[←Nat.le_div_iff_mul_le hV2];exact hg▸Nat.min_le_right _ _
  have e1:g*V2*P≤W3*P:=Nat.mul_le_mul_right _ hgW
  have e2:(q+1)*V≤(g-1)*V:=Nat.mul_le_mul_right _ (by omega)
  have e3:(g-1)*V≤(g-1)*((V2+1)*P):=Nat.mul_le_mul_left _ (by rw[Nat.add_mul];omega)
  have e4:g*V2*P<(g-1)*((V2+1)*P):=by omega
  rw[←Nat.mul_assoc]at e4
  have e5:=Nat.lt_of_mul_lt_mul_right e4
  obtain⟨k,rfl⟩: ∃k,g=k+1:=⟨g-1,by omega⟩
  rw[Nat.add_sub_cancel,Nat.add_mul,Nat.mul_add]at e5
  omega
theorem ld_step{R VP pk q t w bor L R':Nat}(hR:R=R'+q*VP)(hR':R'<VP)(hVp:VP≤pk)(h1:L+t*VP+w*pk=R+bor*pk)(hL:L<pk)(ht:t=q∨t=q+1):
  (bor≤w→t=q∧L=R')∧(w<bor→t=q+1∧L+VP=R'+pk):=by
 subst hR
 rcases ht with rfl|rfl
 ·have h2:L+w*pk=R'+bor*pk:=by omega
  rcases Nat.lt_trichotomy w bor with h|h|h
  ·have:=Nat.mul_le_mul_right pk (show w+1≤bor by omega)
   rw[Nat.add_mul,Nat.one_mul]at this
   omega
  ·subst h
   exact⟨fun _=>⟨rfl,by omega⟩,fun h=>absurd h (Nat.lt_irrefl _)⟩
  ·have:=Nat.mul_le_mul_right pk (show bor+1≤w by omega)
   rw[Nat.add_mul,Nat.one_mul]at this
   omega
 ·have h2:L+VP+w*pk=R'+bor*pk:=by rw[Nat.add_mul,Nat.one_mul]at h1;omega
  rcases Nat.lt_or_ge w bor with h|h
  ·refine⟨fun h'=>by omega,fun _=>⟨rfl,?_⟩⟩
   rcases Nat.lt_or_ge (w+1) bor with h3|h3
   ·have:=Nat.mul_le_mul_right pk (show w+2≤bor by omega)
    rw[Nat.add_mul]at this
    omega
   ·have:bor=w+1:=by omega
    subst this
    rw[Nat.add_mul,Nat.one_mul]at h2
    omega
  ·have:=Nat.mul_le_mul_right pk h
   omega
theorem back_step{L VP R' pk c L2:Nat}(h:L+VP=R'+pk)(h2:L2+c*pk=L+VP)(_hR':R'<pk)(hL2:L2<pk)(hc:c≤1):L2=R':=by
 rcases (show c=0∨c=1 by omega) with rfl|rfl<;>omega
theorem Qo{l:List Nat}: ∀{m i:Nat},val l<1000000000^m→m≤i→l.getD i 0=0:=by
 induction l with
 |nil=>intros;rfl
 |cons x l ih=>
  intro m i h hi
  cases m with
  |zero=>
   have h0:val (x::l)=0:=by rw[Nat.pow_zero]at h;omega
   rw[show val (x::l)=x+1000000000*val l from rfl]at h0
   cases i with
   |zero=>simp;omega
   |succ i=>
    have:l.getD i 0=0:=ih (m:=0) (by rw[Nat.pow_zero];omega) (Nat.zero_le _)
    simpa using this
  |succ m=>
   rw[show val (x::l)=x+1000000000*val l from rfl]at h
   cases i with
   |zero=>omega
   |succ i=>
    have:l.getD i 0=0:=ih (m:=m) (by rw[Nat.pow_succ]at h;generalize 1000000000^m=z at*;omega) (by omega)
    simpa using this
theorem val_zero_of{l:List Nat}(h: ∀i,l.getD i 0=0):val l=0:=by
 induction l with
 |nil=>rfl
 |cons x l ih=>
  have h0:=h 0
  have h1:=ih fun i=>by have:=h (i+1);simpa using this
  rw[show val (x::l)=x+1000000000*val l from rfl,h1]
  simpa using h0
theorem getD_drop'{l:List Nat}(k i:Nat):(l.drop k).getD i 0=l.getD (k+i) 0:=by simp[List.getD]
theorem Lk(l:List Nat)(k:Nat):val l=val (l.take k)+1000000000^k*val (l.drop k):=by
 rcases Nat.lt_or_ge l.length k with h|h
 ·rw[List.take_of_length_le (by omega),List.drop_eq_nil_of_le (by omega)]
  simp[val]
 ·have:=val_append (l.take k) (l.drop k)
  rw[List.take_append_drop,List.length_take,Nat.min_eq_left h]at this
  exact this
theorem Dv{l:List Nat}(h:Lim l)(k:Nat):val (l.take k)<1000000000^k:=
 Nat.lt_of_lt_of_le (val_lt (h.take k)) (Tu (by rw[List.length_take];omega))
theorem Ud{l:List Nat}{k:Nat}(h:Lim l)(hz: ∀i,k≤i→l.getD i 0=0):val l<1000000000^k:=by
 rw[Lk l k,val_zero_of (l:=l.drop k) fun i=>by rw[getD_drop'];exact hz _ (by omega)]
 exact Dv h k
theorem val_drop_div{l:List Nat}(h:Lim l)(k:Nat):val (l.drop k)=val l/1000000000^k∧val (l.take k)=val l%1000000000^k:=by
 have h1:=Lk l k
 have h2:=Dv h k
 generalize hP:1000000000^k=P at*
 have hP0:0<P:=by rw[←hP];exact pow_pos k
 rw[h1]
 refine⟨?_,?_⟩
 ·rw[Nat.add_mul_div_left _ _ hP0,Nat.div_eq_of_lt h2,Nat.zero_add]
 ·rw[Nat.add_mul_mod_self_left,Nat.mod_eq_of_lt h2]
theorem val_take_set{l:List Nat}{i v:Nat}(h:i<l.length):val ((l.set i v).take (i+1))=val (l.take i)+v*1000000000^i:=by
 rw[val_take_succ,getD_set h,if_pos rfl,List.take_set_of_le (Nat.le_refl _)]
theorem Wv{l:List Nat}{i v:Nat}:(l.set i v).drop (i+1)=l.drop (i+1):=by rw[List.drop_set_of_lt (by omega)]
theorem take_set_self{l:List Nat}{i v:Nat}:(l.set i v).take i=l.take i:=by rw[List.take_set_of_le (Nat.le_refl _)]
theorem val_drop_set{l:List Nat}{i v:Nat}(h:i<l.length):val ((l.set i v).drop i)=v+1000000000*val (l.drop (i+1)):=by
 rw[val_drop (by rw[List.length_set];exact h),getD_set h,if_pos rfl,Wv]
theorem scale_round{zs:List Nat}{i f q T:Nat}(h:i<zs.length)(hv:val (zs.take i)+q*1000000000^i+f*(1000000000^i*val (zs.drop i))=T):
  val ((zs.set i ((zs.getD i 0*f+q)%1000000000)).take (i+1))+((zs.getD i 0*f+q)/1000000000)*1000000000^(i+1)+f*(1000000000^(i+1)*val ((zs.set i ((zs.getD i 0*f+q)%1000000000)).drop (i+1)))=T:=by
 rw[val_take_set h,Wv,Nat.pow_succ]
 rw[val_drop h]at hv
 exact scale_step (Nat.mod_add_div _ _) hv
theorem shrink_round{zs:List Nat}{i d r T:Nat}(h:i<zs.length)(hv:val (zs.take (i+1))+1000000000^(i+1)*r+d*(1000000000^(i+1)*val (zs.drop (i+1)))=T):
  val ((zs.set i ((r*1000000000+zs.getD i 0)/d)).take i)+1000000000^i*((r*1000000000+zs.getD i 0)%d)+d*(1000000000^i*val ((zs.set i ((r*1000000000+zs.getD i 0)/d)).drop i))=T:=by
 rw[take_set_self,val_drop_set h]
 rw[val_take_succ,Nat.pow_succ]at hv
 exact shrink_step (Nat.div_add_mod _ _) hv
theorem lose_step{B R R' R0 t Y b p P q d a v low bor:Nat}(h0:v+low=a+d*B)(h1:low+B*bor=b*t+q)(h2:R'+a*P=R+v*P)(hv:R+t*(Y*p)=R0+q*P):R'+t*(Y*p+b*P)=R0+(bor+d)*(P*B):=by
 have e1:R'+a*P+t*(Y*p)+t*b*P+low*P=R0+q*P+v*P+t*b*P+low*P:=by grind
 have e2:v*P+low*P=a*P+d*(P*B):=by grind
 have e3:low*P+bor*(P*B)=t*b*P+q*P:=by grind
 have e4:t*(Y*p+b*P)=t*(Y*p)+t*b*P:=by grind
 have e5:(bor+d)*(P*B)=bor*(P*B)+d*(P*B):=by grind
 rw[e4,e5]
 omega
theorem lose_round{rs ys:List Nat}{o i t q d v R0:Nat}(h:o+i<rs.length)
  (h0:v+(ys.getD i 0*t+q)%1000000000=rs.getD (o+i) 0+d*1000000000)
  (hv:val rs+t*(val (ys.take i)*1000000000^o)=R0+q*1000000000^(o+i)):
  val (rs.set (o+i) v)+t*(val (ys.take (i+1))*1000000000^o)=R0+((ys.getD i 0*t+q)/1000000000+d)*1000000000^(o+(i+1)):=by
 have h2:=val_set rs (o+i) v h
 have e:=lose_step (Y:=val (ys.take i)) (p:=1000000000^o) h0 (Nat.mod_add_div _ _) h2 hv
 rw[val_take_succ,←Nat.add_assoc,Nat.pow_succ]
 have e2:(val (ys.take i)+ys.getD i 0*1000000000^i)*1000000000^o=val (ys.take i)*1000000000^o+ys.getD i 0*1000000000^(o+i):=by
  rw[Nat.pow_add,Nat.add_mul,Nat.mul_assoc,Nat.mul_comm (1000000000^i)]
 rw[e2]
 exact e
theorem give_step{B R R' R0 Y b p P c a v u:Nat}(h1:v+B*u=a+b+c)(h2:R'+a*P=R+v*P)(hv:R+c*P=R0+Y*p):R'+u*(P*B)=R0+(Y*p+b*P):=by
 have e2:v*P+u*(P*B)=a*P+b*P+c*P:=by grind
 omega
theorem give_round{rs ys:List Nat}{o i c R0:Nat}(h:o+i<rs.length)(hv:val rs+c*1000000000^(o+i)=R0+val (ys.take i)*1000000000^o):
  val (rs.set (o+i) ((rs.getD (o+i) 0+ys.getD i 0+c)%1000000000))+((rs.getD (o+i) 0+ys.getD i 0+c)/1000000000)*1000000000^(o+(i+1))=R0+val (ys.take (i+1))*1000000000^o:=by
 have h2:=val_set rs (o+i) ((rs.getD (o+i) 0+ys.getD i 0+c)%1000000000) h
 have e:=give_step (Y:=val (ys.take i)) (p:=1000000000^o) (Nat.mod_add_div _ _) h2 hv
 rw[val_take_succ,←Nat.add_assoc,Nat.pow_succ]
 have e2:(val (ys.take i)+ys.getD i 0*1000000000^i)*1000000000^o=val (ys.take i)*1000000000^o+ys.getD i 0*1000000000^(o+i):=by
  rw[Nat.pow_add,Nat.add_mul,Nat.mul_assoc,Nat.mul_comm (1000000000^i)]
 rw[e2]
 exact e
end Go.AE
namespace Go.AE
def Zw(w2 w1 w0 v1 v2:Nat):Nat:=min (1000000000-1) (((w2*1000000000+w1)*1000000000+w0)/(v1*1000000000+v2))
theorem guess_ok{W V W3 V2 P lo vl:Nat}(hW:W=W3*P+lo)(hlo:lo<P)(hV:V=V2*P+vl)(hvl:vl<P)(h2:1000000000≤V2)(hWV:W<V*1000000000):
  W/V≤min (1000000000-1) (W3/V2)∧min (1000000000-1) (W3/V2)≤W/V+1:=guess_ok' hW hlo hV hvl h2 (by decide) hWV
theorem three'{B P a b c w lo:Nat}(h:c=0):lo+P*(a+B*(b+B*(w+B*c)))=((w*B+b)*B+a)*P+lo:=by subst h;grind
theorem two'{B P a b c lo:Nat}(h:c=0):lo+P*(a+B*(b+B*c))=(b*B+a)*P+lo:=by subst h;grind
theorem guess_lists{rs vs:List Nat}{p e:Nat}(hl:Lim rs)(hv:Lim vs)(hvs:vs.length=e+2)(h1:vs.getD (e+1) 0≠0)(hlen:p+e+2<rs.length)(hR:val rs<val vs*1000000000^(p+1)):
  val rs/(1000000000^p*val vs)≤Zw (rs.getD (p+e+2) 0) (rs.getD (p+e+1) 0) (rs.getD (p+e) 0) (vs.getD (e+1) 0) (vs.getD e 0)∧
  Zw (rs.getD (p+e+2) 0) (rs.getD (p+e+1) 0) (rs.getD (p+e) 0) (vs.getD (e+1) 0) (vs.getD e 0)≤val rs/(1000000000^p*val vs)+1:=by
 have hVk:=val_lt hv
 rw[hvs]at hVk
 have hR2:val rs<1000000000^(p+e+3):=by
  refine Nat.lt_of_lt_of_le hR ?_
  rw[show p+e+3=(e+2)+(p+1) by omega,Nat.pow_add 1000000000 (e+2) (p+1)]
  exact Nat.mul_le_mul_right _ (Nat.le_of_lt hVk)
 obtain⟨d1,d2⟩:=val_drop_div hl p
 rw[←Nat.div_div_eq_div_mul,←d1]
 have hW:val (rs.drop p)<val vs*1000000000:=by
  rw[d1]
  apply Nat.div_lt_of_lt_mul
  rw[Nat.pow_succ]at hR
  calc val rs<val vs*(1000000000^p*1000000000):=hR
   _=1000000000^p*(val vs*1000000000):=by rw[Nat.mul_left_comm]
 have hz:val (rs.drop (p+e+3))=0:=val_zero_of fun i=>by
  rw[getD_drop']
  exact Qo hR2 (by omega)
 have hzv:val (vs.drop (e+2))=0:=by rw[List.drop_eq_nil_of_le (by omega)];rfl
 have s1:=Lk (rs.drop p) e
 rw[List.drop_drop,val_drop (show p+e<rs.length by omega),val_drop (show p+e+1<rs.length by omega),val_drop (show p+e+1+1<rs.length by omega),three' hz]at s1
 have s2:=Lk vs e
 rw[val_drop (show e<vs.length by omega),val_drop (show e+1<vs.length by omega),two' hzv]at s2
 exact guess_ok s1 (Dv (hl.drop p) e) s2 (Dv hv e) (by omega) hW
theorem ld_lists{rs rs1 qs vs:List Nat}{p k g bor w X:Nat}(hX:val qs*val vs+val rs=X)(hV:0<val vs)(hVk:val vs<1000000000^k)
  (hg:val rs/(1000000000^p*val vs)≤g∧g≤val rs/(1000000000^p*val vs)+1) (hq0:qs.getD p 0=0) (hp:p<qs.length)
  (h1:val rs1+g*(val vs*1000000000^p)+w*1000000000^(p+k)=val rs+bor*1000000000^(p+k)) (hL:val rs1<1000000000^(p+k)):
  (bor≤w→val (qs.set p g)*val vs+val rs1=X∧val rs1<val vs*1000000000^p)∧
  (w<bor→0<g∧ ∀(rs2:List Nat) (c:Nat),c≤1→val rs2+c*1000000000^(p+k)=val rs1+val vs*1000000000^p→val rs2<1000000000^(p+k)→
   val (qs.set p (g-1))*val vs+val rs2=X∧val rs2<val vs*1000000000^p):=by
 rw[Nat.mul_comm (1000000000^p)]at hg
 have hP:=pow_pos p
 have hVp:val vs*1000000000^p≤1000000000^(p+k):=by
  rw[Nat.pow_add,Nat.mul_comm]
  exact Nat.mul_le_mul_left _ (Nat.le_of_lt hVk)
 have hVP0:0<val vs*1000000000^p:=Nat.mul_pos hV hP
 have hR:val rs=val rs% (val vs*1000000000^p)+val rs/(val vs*1000000000^p)*(val vs*1000000000^p):=by
  have:=Nat.mod_add_div (val rs) (val vs*1000000000^p)
  rw[Nat.mul_comm (val vs*1000000000^p) (val rs/_)]at this
  exact this.symm
 have hR':val rs% (val vs*1000000000^p)<val vs*1000000000^p:=Nat.mod_lt _ hVP0
 have key:=ld_step hR hR' hVp h1 hL (by omega)
 generalize val rs% (val vs*1000000000^p)=R' at*
 generalize val rs/(val vs*1000000000^p)=q at*
 have hs: ∀v,val (qs.set p v)*val vs=val qs*val vs+v*(val vs*1000000000^p):=fun v=>by
  have:=val_set qs p v hp
  rw[hq0,Nat.zero_mul,Nat.add_zero]at this
  rw[this,Nat.add_mul,Nat.mul_assoc v,Nat.mul_comm (1000000000^p)]
 refine⟨fun hb=> ?_,fun hb=> ?_⟩
 ·obtain⟨k1,k2⟩:=key.1 hb
  subst k1 k2
  rw[hs]
  exact⟨by omega,hR'⟩
 ·obtain⟨k1,k2⟩:=key.2 hb
  subst k1
  refine⟨by omega,fun rs2 c hc h2 hL2=> ?_⟩
  have:=back_step k2 h2 (Nat.lt_of_lt_of_le hR' hVp) hL2 hc
  rw[this,hs,Nat.add_sub_cancel]
  exact⟨by omega,hR'⟩
theorem ld_zero{rs vs:List Nat}{p:Nat}(hV:0<val vs)(h:val rs/(1000000000^p*val vs)≤0):val rs<val vs*1000000000^p:=by
 have h0:0<1000000000^p*val vs:=Nat.mul_pos (pow_pos p) hV
 rw[Nat.mul_comm]
 generalize 1000000000^p*val vs=Q at*
 exact Nat.lt_of_div_lt_div (by rw[Nat.div_self h0];omega)
theorem guess_init{lead first second w0:Nat}(h1:0<first)(hw:w0<1000000000):min (1000000000-1) ((lead*1000000000+w0)/(first*1000000000+second))≤min (lead/first) (1000000000-1):=by
 refine Nat.le_min.2 ⟨?_,Nat.min_le_left _ _⟩
 refine Nat.le_trans (Nat.min_le_right _ _) ?_
 rw[Nat.le_div_iff_mul_le h1]
 have h:=Nat.div_mul_le_self (lead*1000000000+w0) (first*1000000000+second)
 generalize (lead*1000000000+w0)/(first*1000000000+second)=q at*
 have e:q*(first*1000000000+second)=q*first*1000000000+q*second:=by rw[Nat.mul_add,Nat.mul_assoc]
 omega
theorem more_l{B first second lead w0 k left:Nat}(hl:left+(k*first+first)=lead)(hlt:left*B+w0<(k+1)*second):lead*B+w0<(first*B+second)*(k+1):=by
 subst hl
 have e:(first*B+second)*(k+1)=(k*first+first)*B+(k+1)*second:=by grind
 rw[e,Nat.add_mul]
 omega
theorem guess_more{lead first second w0 g left:Nat}(hl:left+g*first=lead)(hlt:left*1000000000+w0<g*second)(hm:min (1000000000-1) ((lead*1000000000+w0)/(first*1000000000+second))≤g):
  0<g∧(left+first)+(g-1)*first=lead∧min (1000000000-1) ((lead*1000000000+w0)/(first*1000000000+second))≤g-1:=by
 have hg:0<g:=by
  rcases Nat.eq_zero_or_pos g with h|h
  ·rw[h,Nat.zero_mul]at hlt
   omega
  ·exact h
 obtain⟨k,rfl⟩: ∃k,g=k+1:=⟨g-1,by omega⟩
 rw[Nat.add_sub_cancel]
 rw[Nat.add_mul,Nat.one_mul]at hl
 refine⟨hg,by omega,?_⟩
 have h:=more_l hl hlt
 have h2:=Nat.div_lt_of_lt_mul h
 exact Nat.le_trans (Nat.min_le_right _ _) (by omega)
theorem Xf{lead first second w0 g left:Nat}(hl:left+g*first=lead)(h1:0<first)(h2:second<1000000000)(hg:g≤1000000000-1)(hd:1000000000≤left∨g*second≤left*1000000000+w0)
  (hm:min (1000000000-1) ((lead*1000000000+w0)/(first*1000000000+second))≤g):g=min (1000000000-1) ((lead*1000000000+w0)/(first*1000000000+second)):=by
 refine Nat.le_antisymm (Nat.le_min.2 ⟨hg,?_⟩) hm
 rw[Nat.le_div_iff_mul_le (by omega)]
 have h3:g*second≤left*1000000000+w0:=by
  rcases hd with h|h
  ·have:=Nat.mul_le_mul hg (show second≤1000000000-1 by omega)
   omega
  ·exact h
 have e:g*(first*1000000000+second)=g*first*1000000000+g*second:=by rw[Nat.mul_add,Nat.mul_assoc]
 rw[e,←hl]
 omega
end Go.AE
