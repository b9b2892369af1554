import Derived.Test.YtldoiilgfcpipaaGreatDoorPRTrim
import Derived.Test.YtldoiilgfcpipaaGreatDoorLF
set_option linter.unusedVariables false
set_option linter.unusedSimpArgs false
set_option maxRecDepth 100000
namespace Go.Proofs.YtldoiilgfcpipaaGreatDoor
open Go Go.AE Seg
noncomputable section
abbrev z_664_0(i l q:Nat)(cs:List Nat):List Value:=[(nI i),(.string (Aa cs)),(nI ((Aa cs).size)),bT,(nI i),(nI (i+1)),(nI l),(nI (10*l)),(.string (Aa cs)),(nI i),(nB ((UInt8.ofNat (48+q)).toNat)),(nB q),(nI q),(nI ((10*l)+q))]
abbrev z_664_1(i:Nat)(cs:List Nat)(ji:List Value):List Value:=[(nI i),(.string (Aa cs)),(nI ((Aa cs).size)),bF,(J ji 4),(J ji 5),(J ji 6),(J ji 7),(J ji 8),(J ji 9),(J ji 10),(J ji 11),(J ji 12),(J ji 13)]
abbrev Wy(cs:List Nat):Value:=.int .i64 ((((Aa cs).size:Nat):Int)-(4:Int))
abbrev Wv(cs:List Nat)(b:Nat):Value:=.string (Aa (cs.take b))
end
noncomputable def lb_a_f(cs:List Nat)(b l i:Nat)(ji:List Value)(j2:List Value):Frame:=(Fr 87 ([(.string (Aa cs)),uu,nS,nS,(nI b),(nI l),(nI i),(.string (Aa cs)),(nI ((Aa cs).size)),bT,(.string (Aa cs)),(nI ((Aa cs).size)),(Wy cs),(nI b),(nI b),(J ji 0),(J ji 1),(J ji 2),(J ji 3),(J ji 4),(J ji 5),(J ji 6),(J ji 7),(J ji 8),(J ji 9),(J ji 10),(J ji 11),(J ji 12),(J ji 13)]++(uj 9 [])) [.code (cd Tryz.f87 [1,1,0,0,0,1,0,1,1,0,1,0,0]),.inLoop (cd Tryz.f87 [1,1,0,0,0,1,0,1,1,0,1,0,0]),.inBlock 2,.code (cd Tryz.f87 [1,1,0,0,0,1,0,1,1,1]),.inBlock 1,.inLoop (cd Tryz.f87 [1,1,0,0,0]),.inBlock 0,.code (cd Tryz.f87 [1,1,1])])
noncomputable def lb_a_o(cs:List Nat)(b l i:Nat)(ji:List Value):List (Nat×AObj):=[]
noncomputable def lb_a(cs:List Nat)(b l i:Nat)(ji:List Value)(j2:List Value):AS:=⟨lb_a_f cs b l i ji j2,[],Ag 5 (lb_a_o cs b l i ji)⟩
theorem lb_in(cs:List Nat)(b:Nat)(h0:0<(Aa cs).size)(hm:(Aa cs).size<1099511627776)(hb:b=(Aa cs).size-4):GT (Cg 87 #[(.string (Aa cs))] 5 []) (lb_a cs b 0 b ([undef,undef,undef,undef,undef,undef,undef,undef,undef,undef,undef,undef,undef,undef]) []):=
 sR (sc:=[(16,.op (.rwB true)),(8,.op (.rwI ((((Aa cs).size:Nat):Int)-(4:Int)))),(0,.op (.rwI (b:Int))),(14,.stay)]) kr (aI (dT (p:=(((Aa cs).size:Nat):Int)>(0:Int))) (aI (Ao (a:=((((Aa cs).size:Nat):Int)-(4:Int))) (r:=((((Aa cs).size:Nat):Int)-(4:Int)))) (aI (show (if ((((Aa cs).size:Nat):Int)-(4:Int))>(0:Int) then ((((Aa cs).size:Nat):Int)-(4:Int)) else (0:Int))=(b:Int) from (by split<;>omega)) tt)))
theorem lb_a1(cs:List Nat)(b l i:Nat)(ji j2:List Value)(q:Nat)(hq:q<10)(hl:l<1000)(hi:i<(Aa cs).size)(hm:(Aa cs).size<1099511627776)(hx:(Aa cs)[i]? =some (UInt8.ofNat (48+q))):GT (lb_a cs b l i ji j2) (lb_a cs b ((10*l)+q) (i+1) ((z_664_0 i l q cs)) []):=
 sR (sc:=[(6,.op (.rwB true)),(7,.op (.rwI (((10*l):Nat):Int))),(2,.op (.sidx (UInt8.ofNat (48+q)))),(0,.op (.rwI (q:Int))),(0,.op (.rwI (q:Int))),(0,.op (.rwI ((((10*l)+q):Nat):Int))),(5,.op (.rwI (((i+1):Nat):Int))),(3,.stay)]) kr (aI (dT (p:=(i:Int)<(((Aa cs).size:Nat):Int))) (aI (Ao (a:=((10:Int)*(l:Int))) (r:=(((10*l):Nat):Int))) (aI (show 0≤(i:Int)∧(Aa cs)[Int.toNat (i:Int)]? =some (UInt8.ofNat (48+q)) from⟨by omega,hx⟩) (aI (show IntKind.wrap .u8 ((((UInt8.ofNat (48+q)).toNat:Nat):Int)-(48:Int))=(q:Int) from (Yi hq)) (aI (Ao (a:=(q:Int)) (r:=(q:Int))) (aI (Ao (a:=((((10*l):Nat):Int)+(q:Int))) (r:=((((10*l)+q):Nat):Int))) (aI (Ao (a:=((i:Int)+(1:Int))) (r:=(((i+1):Nat):Int))) tt)))))))
noncomputable def lb_h_f(st:ByteArray)(ls:List Nat)(k:Nat)(jc:List Value)(j:List Value):Frame:=(Fr 87 ([(.string st),uu,nS,(sl 6 k 0)]++(jj j 0 11 ([(J jc 0),(J jc 1),(J jc 2),(J jc 3),(J jc 4),(J jc 5),(J jc 6),(J jc 7),(J jc 8),(J jc 9),(J jc 10),(J jc 11),(J jc 12),(J jc 13)]++(jj j 11 7 [uu,uu])))) [.code (cd Tryz.f87 [1,1,0,0,0]),.inLoop (cd Tryz.f87 [1,1,0,0,0]),.inBlock 0,.code (cd Tryz.f87 [1,1,1])])
noncomputable def lb_h_o(st:ByteArray)(ls:List Nat)(k:Nat)(jc:List Value):List (Nat×AObj):=[(6,(cI ls (some 1)))]
noncomputable def lb_h(st:ByteArray)(ls:List Nat)(k:Nat)(jc:List Value)(j:List Value):AS:=⟨lb_h_f st ls k jc j,[],Ag 9 (lb_h_o st ls k jc)⟩
theorem lb_2{s0:AS}(hs0:s0.h.next=5)(cs:List Nat)(b l i:Nat)(ji j2:List Value)(hji:Cm (As 5 0) ji)(hb:b≤(Aa cs).size)(hi:(Aa cs).size≤i)(hm:(Aa cs).size<1099511627776)(hr:GT s0 (lb_a cs b l i ji j2)):GT s0 (lb_h (Aa (cs.take b)) ([l]) 1 ((z_664_1 i cs ji)) [(nI b),(nI l),(nI i),(.string (Aa cs)),(nI ((Aa cs).size)),bT,(.string (Aa cs)),(nI ((Aa cs).size)),(Wy cs),(nI b),(nI b),nS,(nI l),(sl 5 1 1),(sl 6 1 0),(.string (Aa cs)),(nI b),(Wv cs b)]):=by
 have h1:=hr.trans (sR (sc:=[(6,.op (.rwB false)),(3,.drwM [(6,.sslc (Aa (cs.take b)))] []),(2,.stay)]) (fr1:=(Fr 87 [(Wv cs b),uu,nS,(sl 6 1 0),(nI b),(nI l),(nI i),(.string (Aa cs)),(nI ((Aa cs).size)),bT,(.string (Aa cs)),(nI ((Aa cs).size)),(Wy cs),(nI b),(nI b),(nI i),(.string (Aa cs)),(nI ((Aa cs).size)),bF,(J ji 4),(J ji 5),(J ji 6),(J ji 7),(J ji 8),(J ji 9),(J ji 10),(J ji 11),(J ji 12),(J ji 13),nS,(nI l),(sl 5 1 1),(sl 6 1 0),(.string (Aa cs)),(nI b),(Wv cs b),uu,uu] [.code (cd Tryz.f87 [1,1,0,0,0]),.inLoop (cd Tryz.f87 [1,1,0,0,0]),.inBlock 0,.code (cd Tryz.f87 [1,1,1])])) (next:=7) (l:=[(6,(.cells [(nI l)] 3 (some 1) false))]) kr (aI (dF (p:=(i:Int)<(((Aa cs).size:Nat):Int))) (aI (aI tt (aI tt (aI tt (aI tt (aI (show 0≤(0:Int)∧(0:Int)≤(b:Int)∧(b:Int)≤(((Aa cs).size:Nat):Int)∧(Aa cs).extract (Int.toNat (0:Int)) (Int.toNat (b:Int))=(Aa (cs.take b)) from⟨by omega,by omega,by omega,by rw[Kr];rfl⟩) (aI tt (aI tt (aI tt (aI tt tt))))))))) tt)))
 rw[←Aq (As 5 0) hji 10]at h1
 rw[←Aq (As 5 0) hji 11]at h1
 rw[←Aq (As 5 0) hji 12]at h1
 rw[←Aq (As 5 0) hji 13]at h1
 rw[←Aq (As 5 0) hji 4]at h1
 rw[←Aq (As 5 0) hji 5]at h1
 rw[←Aq (As 5 0) hji 6]at h1
 rw[←Aq (As 5 0) hji 7]at h1
 rw[←Aq (As 5 0) hji 8]at h1
 rw[←Aq (As 5 0) hji 9]at h1
 exact Du (b:=5) (k:=0) h1 kr rfl rfl rfl kr (by rw[hs0];decide) (by rw[hs0];decide) de de (by rfl) (by simp only[lb_h_o,List.map_cons,List.map_nil,Dx,Ac _ _ (Ab _ _)]) kr
noncomputable def lb_g_f(cs ls:List Nat)(k b l i:Nat)(j jc:List Value)(ji:List Value)(j2:List Value):Frame:=(Fr 87 ([(.string (Aa cs)),uu,nS,(sl 6 k 0),(nI b),(nI l),(nI i),(.string (Aa cs)),(nI ((Aa cs).size)),bT,(.string (Aa cs)),(nI ((Aa cs).size)),(Wy cs),(nI b),(nI b),(J ji 0),(J ji 1),(J ji 2),(J ji 3),(J ji 4),(J ji 5),(J ji 6),(J ji 7),(J ji 8),(J ji 9),(J ji 10),(J ji 11),(J ji 12),(J ji 13)]++(jj j 11 7 [uu,uu])) [.code (cd Tryz.f87 [1,1,0,0,0,1,0,1,1,0,1,0,0]),.inLoop (cd Tryz.f87 [1,1,0,0,0,1,0,1,1,0,1,0,0]),.inBlock 2,.code (cd Tryz.f87 [1,1,0,0,0,1,0,1,1,1]),.inBlock 1,.inLoop (cd Tryz.f87 [1,1,0,0,0]),.inBlock 0,.code (cd Tryz.f87 [1,1,1])])
noncomputable def lb_g_o(cs ls:List Nat)(k b l i:Nat)(j jc:List Value)(ji:List Value):List (Nat×AObj):=[(6,(cI ls (some 1)))]
noncomputable def lb_g(cs ls:List Nat)(k b l i:Nat)(j jc:List Value)(ji:List Value)(j2:List Value):AS:=⟨lb_g_f cs ls k b l i j jc ji j2,[],Ag 9 (lb_g_o cs ls k b l i j jc ji)⟩
theorem lb_3(cs ls:List Nat)(k b:Nat)(j jc:List Value)(h0:0<(Aa cs).size)(hm:(Aa cs).size<1099511627776)(hb:b=(Aa cs).size-4):GT (lb_h (Aa cs) ls k jc j) (lb_g cs ls k b 0 b j jc ([(J jc 0),(J jc 1),(J jc 2),(J jc 3),(J jc 4),(J jc 5),(J jc 6),(J jc 7),(J jc 8),(J jc 9),(J jc 10),(J jc 11),(J jc 12),(J jc 13)]) []):=
 sR (sc:=[(5,.op (.rwB true)),(8,.op (.rwI ((((Aa cs).size:Nat):Int)-(4:Int)))),(0,.op (.rwI (b:Int))),(14,.stay)]) kr (aI (dT (p:=(((Aa cs).size:Nat):Int)>(0:Int))) (aI (Ao (a:=((((Aa cs).size:Nat):Int)-(4:Int))) (r:=((((Aa cs).size:Nat):Int)-(4:Int)))) (aI (show (if ((((Aa cs).size:Nat):Int)-(4:Int))>(0:Int) then ((((Aa cs).size:Nat):Int)-(4:Int)) else (0:Int))=(b:Int) from (by split<;>omega)) tt)))
theorem lb_g1(cs ls:List Nat)(k b l i:Nat)(j jc ji j2:List Value)(q:Nat)(hq:q<10)(hl:l<1000)(hi:i<(Aa cs).size)(hm:(Aa cs).size<1099511627776)(hx:(Aa cs)[i]? =some (UInt8.ofNat (48+q))):GT (lb_g cs ls k b l i j jc ji j2) (lb_g cs ls k b ((10*l)+q) (i+1) j jc ((z_664_0 i l q cs)) []):=
 sR (sc:=[(6,.op (.rwB true)),(7,.op (.rwI (((10*l):Nat):Int))),(2,.op (.sidx (UInt8.ofNat (48+q)))),(0,.op (.rwI (q:Int))),(0,.op (.rwI (q:Int))),(0,.op (.rwI ((((10*l)+q):Nat):Int))),(5,.op (.rwI (((i+1):Nat):Int))),(3,.stay)]) kr (aI (dT (p:=(i:Int)<(((Aa cs).size:Nat):Int))) (aI (Ao (a:=((10:Int)*(l:Int))) (r:=(((10*l):Nat):Int))) (aI (show 0≤(i:Int)∧(Aa cs)[Int.toNat (i:Int)]? =some (UInt8.ofNat (48+q)) from⟨by omega,hx⟩) (aI (show IntKind.wrap .u8 ((((UInt8.ofNat (48+q)).toNat:Nat):Int)-(48:Int))=(q:Int) from (Yi hq)) (aI (Ao (a:=(q:Int)) (r:=(q:Int))) (aI (Ao (a:=((((10*l):Nat):Int)+(q:Int))) (r:=((((10*l)+q):Nat):Int))) (aI (Ao (a:=((i:Int)+(1:Int))) (r:=(((i+1):Nat):Int))) tt)))))))
theorem lb_4{s0:AS}(hs0:s0.h.next=5)(cs ls:List Nat)(k b l i:Nat)(j jc ji j2:List Value)(hjc:Cm (As 5 2) jc)(hji:Cm (As 5 2) ji)(hb:b≤(Aa cs).size)(hi:(Aa cs).size≤i)(hm:(Aa cs).size<1099511627776)(hk:ls.length=k)(hk2:k<1099511627776)(hr:GT s0 (lb_g cs ls k b l i j jc ji j2)):GT s0 (lb_h (Aa (cs.take b)) (ls++[l]) (k+1) ((z_664_1 i cs ji)) [(nI b),(nI l),(nI i),(.string (Aa cs)),(nI ((Aa cs).size)),bT,(.string (Aa cs)),(nI ((Aa cs).size)),(Wy cs),(nI b),(nI b),(sl 8 k 0),(nI l),(sl 5 1 1),(sl 6 (k+1) 0),(.string (Aa cs)),(nI b),(Wv cs b)]):=by
 have h1:=hr.trans (sR (sc:=[(6,.op (.rwB false)),(3,.drwM [(6,.sslc (Aa (cs.take b))),(3,.appG (k+1) (ns .i64 (ls++[l])))] []),(2,.stay)]) (fr1:=(Fr 87 [(Wv cs b),uu,nS,(sl 10 (k+1) 0),(nI b),(nI l),(nI i),(.string (Aa cs)),(nI ((Aa cs).size)),bT,(.string (Aa cs)),(nI ((Aa cs).size)),(Wy cs),(nI b),(nI b),(nI i),(.string (Aa cs)),(nI ((Aa cs).size)),bF,(J ji 4),(J ji 5),(J ji 6),(J ji 7),(J ji 8),(J ji 9),(J ji 10),(J ji 11),(J ji 12),(J ji 13),(sl 6 k 0),(nI l),(sl 9 1 1),(sl 10 (k+1) 0),(.string (Aa cs)),(nI b),(Wv cs b),uu,uu] [.code (cd Tryz.f87 [1,1,0,0,0]),.inLoop (cd Tryz.f87 [1,1,0,0,0]),.inBlock 0,.code (cd Tryz.f87 [1,1,1])])) (next:=11) (l:=[(10,(cI (ls++[l]) (some 1)))]) kr (aI (dF (p:=(i:Int)<(((Aa cs).size:Nat):Int))) (aI (aI tt (aI tt (aI tt (aI tt (aI (show 0≤(0:Int)∧(0:Int)≤(b:Int)∧(b:Int)≤(((Aa cs).size:Nat):Int)∧(Aa cs).extract (Int.toNat (0:Int)) (Int.toNat (b:Int))=(Aa (cs.take b)) from⟨by omega,by omega,by omega,by rw[Kr];rfl⟩) (aI tt (aI (show k+1=(k+1)∧(k+1)*8≤140737488355328∧(k+1)≤9223372036854775807∧((ns .i64 ls):List Value).length=k*1∧((ns .i64 ls):List Value)++[(nI l)]=(ns .i64 (ls++[l])) from⟨by omega,by omega,by omega,by rw[Bo,Nat.mul_one];omega,Qc _ _ _⟩) (aI tt (aI tt tt))))))))) tt)))
 rw[←Aq (As 5 2) hji 10]at h1
 rw[←Aq (As 5 2) hji 11]at h1
 rw[←Aq (As 5 2) hji 12]at h1
 rw[←Aq (As 5 2) hji 13]at h1
 rw[←Aq (As 5 2) hji 4]at h1
 rw[←Aq (As 5 2) hji 5]at h1
 rw[←Aq (As 5 2) hji 6]at h1
 rw[←Aq (As 5 2) hji 7]at h1
 rw[←Aq (As 5 2) hji 8]at h1
 rw[←Aq (As 5 2) hji 9]at h1
 exact Du (b:=5) (k:=2) h1 kr rfl rfl rfl kr (by rw[hs0];decide) (by rw[hs0];decide) de de (by rfl) (by simp only[lb_h_o,List.map_cons,List.map_nil,Dx,Ac _ _ (Ab _ _)]) kr
theorem lb_o(ds ls:List Nat)(k:Nat)(st:ByteArray)(j jc:List Value)(h0:st.size=0)(hk:k≤ls.length)(hk2:k<1099511627776)(hr:GT (Cg 87 #[(.string (Aa ds))] 5 []) (lb_h st ls k jc j)):CT 87 #[(.string (Aa ds))] (Ag 5 []) (sl 6 (F.top ls k) 0) (Ag 9 [(6,(cI ls (some 1)))]):=
 sF (sc:=[(5,.op (.rwB false)),(6,.call [6] (sl 6 (F.top ls k) 0) [(6,some (cI ls (some 1)))] []),(3,.stay)]) kr (aI (dF (p:=((st.size:Nat):Int)>(0:Int))) (aI (rt_c 9 6 ls k om om om) tt)) hr
theorem lb_inA{cs:List Nat}{b:Nat}{s0:AS}(hd:Dig cs)(hm:cs.length<1099511627776)(hb4:cs.length≤b+4): ∀(n i:Nat) (ji j2:List Value),n=cs.length-i→b≤i→i≤cs.length→(∀q,Cm (As 5 q) ji)→
  GT s0 (lb_a cs b (Bh ((cs.take i).drop b)) i ji j2)→ ∃ji' j2',(∀q,Cm (As 5 q) ji')∧GT s0 (lb_a cs b (Bh (cs.drop b)) cs.length ji' j2'):=by
 intro n
 induction n with
 |zero=>
  intro i ji j2 hn hb hi hji hr
  have:i=cs.length:=by omega
  subst this
  rw[List.take_length]at hr
  exact⟨ji,j2,hji,hr⟩
 |succ n ih=>
  intro i ji j2 hn hb hi hji hr
  have hl:Bh ((cs.take i).drop b)<1000:=Vw (k:=3) ((hd.take i).drop b) (by rw[List.length_drop,List.length_take];omega)
  have r:=lb_a1 cs b _ i ji j2 (cs.getD i 0) (hd.get i) hl (by rw[Af];omega) (by rw[Af];exact hm) (Hb om)
  rw[dval_step hb om]at r
  exact ih (i+1) _ _ om om om (fun _=>by rfl) (hr.trans r)
theorem lb_inB{cs ls:List Nat}{k b:Nat}{j jc:List Value}{s0:AS}(hd:Dig cs)(hm:cs.length<1099511627776)(hb4:cs.length≤b+4): ∀(n i:Nat) (ji j2:List Value),n=cs.length-i→b≤i→i≤cs.length→Cm (As 5 2) ji→
  GT s0 (lb_g cs ls k b (Bh ((cs.take i).drop b)) i j jc ji j2)→ ∃ji' j2',Cm (As 5 2) ji'∧GT s0 (lb_g cs ls k b (Bh (cs.drop b)) cs.length j jc ji' j2'):=by
 intro n
 induction n with
 |zero=>
  intro i ji j2 hn hb hi hji hr
  have:i=cs.length:=by omega
  subst this
  rw[List.take_length]at hr
  exact⟨ji,j2,hji,hr⟩
 |succ n ih=>
  intro i ji j2 hn hb hi hji hr
  have hl:Bh ((cs.take i).drop b)<1000:=Vw (k:=3) ((hd.take i).drop b) (by rw[List.length_drop,List.length_take];omega)
  have r:=lb_g1 cs ls k b _ i j jc ji j2 (cs.getD i 0) (hd.get i) hl (by rw[Af];omega) (by rw[Af];exact hm) (Hb om)
  rw[dval_step hb om]at r
  exact ih (i+1) _ _ om om om (by rfl) (hr.trans r)
theorem lb_all{ds:List Nat}(hd:Dig ds)(hm:ds.length<1099511627776): ∀(n e:Nat) (ls:List Nat) (jc j:List Value),e≤n→e≤ds.length→F.Lim ls→F.val ls=Bh (ds.drop e)→(e=0∨ds.length-e=4*ls.length)→4*ls.length≤ds.length+3→Cm (As 5 2) jc→
  GT (Cg 87 #[(.string (Aa ds))] 5 []) (lb_h (Aa (ds.take e)) ls ls.length jc j)→
  ∃ls' jc' j',F.Lim ls'∧F.val ls'=Bh ds∧4*ls'.length≤ds.length+3∧GT (Cg 87 #[(.string (Aa ds))] 5 []) (lb_h (Aa []) ls' ls'.length jc' j'):=by
 intro n
 induction n with
 |zero=>
  intro e ls jc j he hel hlim hv hr4 h4 hjc hr
  have:e=0:=by omega
  subst this
  rw[List.take_zero]at hr
  exact⟨ls,jc,j,hlim,hv,h4,hr⟩
 |succ n ih=>
  intro e ls jc j he hel hlim hv hr4 h4 hjc hr
  rcases Nat.eq_zero_or_pos e with h0|h0
  ·subst h0
   rw[List.take_zero]at hr
   exact⟨ls,jc,j,hlim,hv,h4,hr⟩
  ·have hlen:(ds.take e).length=e:=by rw[List.length_take];omega
   have hr4':ds.length-e=4*ls.length:=by omega
   have hsz:(Aa (ds.take e)).size=e:=by rw[Af,hlen]
   obtain⟨b,hb⟩: ∃b,b=e-4:=⟨_,rfl⟩
   have a1:=lb_3 (ds.take e) ls ls.length b j jc om om (by rw[hsz];exact hb)
   have a1':GT (Cg 87 #[(.string (Aa ds))] 5 []) (lb_g (ds.take e) ls ls.length b (Bh (((ds.take e).take b).drop b)) b j jc [(J jc 0),(J jc 1),(J jc 2),(J jc 3),(J jc 4),(J jc 5),(J jc 6),(J jc 7),(J jc 8),(J jc 9),(J jc 10),(J jc 11),(J jc 12),(J jc 13)] []):=by
    rw[List.drop_eq_nil_of_le (by rw[List.length_take];omega)]
    exact hr.trans a1
   obtain⟨ji',j2',hji,a2⟩:=lb_inB (hd.take e) om om _ b _ _ rfl (Nat.le_refl _) om (by unfold Cm;simp[Ro,Aq _ hjc,mv]) a1'
   have a3:=lb_4 (s0:=(Cg 87 #[(.string (Aa ds))] 5 [])) rfl (ds.take e) ls ls.length b (Bh ((ds.take e).drop b)) (ds.take e).length j jc ji' j2' hjc hji om (by rw[hsz,hlen];exact Nat.le_refl _) om rfl om a2
   have hl:Bh ((ds.take e).drop b)<10000:=Vw (k:=4) ((hd.take e).drop b) (by rw[List.length_drop,hlen];omega)
   rw[List.take_take,Nat.min_eq_left om,show ls.length+1=(ls++[Bh ((ds.take e).drop b)]).length by rw[List.length_append];rfl]at a3
   refine ih b _ _ _ om om (hlim.append fun x hx=>by rw[List.mem_singleton]at hx;rw[hx];exact hl) (group_step hv rfl hr4' om hel rfl) ?_ ?_ (by unfold Cm;simp[Ro,Aq _ hji,mv]) a3
   ·rw[List.length_append,List.length_singleton];omega
   ·rw[List.length_append,List.length_singleton];omega
theorem lb_c(ds:List Nat)(hd:Dig ds)(h0:0<ds.length)(hm:ds.length<1099511627776):
  ∃ls t,F.Lim ls∧t≤ls.length∧4*ls.length≤ds.length+3∧F.val (ls.take t)=Bh ds∧(0<t→ls.getD (t-1) 0≠0)∧ ∀n0,5≤n0→
   FT 87 #[.string (Aa ds)] n0 [] (sl n0 t 0) [] [.cells (ns .i64 ls) 3 (some 1) false]:=by
 obtain⟨b,hb⟩: ∃b,b=ds.length-4:=⟨_,rfl⟩
 have hsz:=Af ds
 have a1:=lb_in ds b om om om
 have a1':GT (Cg 87 #[(.string (Aa ds))] 5 []) (lb_a ds b (Bh ((ds.take b).drop b)) b [undef,undef,undef,undef,undef,undef,undef,undef,undef,undef,undef,undef,undef,undef] []):=by
  rw[List.drop_eq_nil_of_le (by rw[List.length_take];omega)]
  exact a1
 obtain⟨ji',j2',hji,a2⟩:=lb_inA hd hm om _ b _ _ rfl (Nat.le_refl _) om (fun _=>by rfl) a1'
 have a3:=lb_2 (s0:=(Cg 87 #[(.string (Aa ds))] 5 [])) rfl ds b (Bh (ds.drop b)) ds.length ji' j2' (hji 0) om om om a2
 have hl:Bh (ds.drop b)<10000:=Vw (k:=4) (hd.drop b) (by rw[List.length_drop];omega)
 obtain⟨ls,jc',j',h1,h2,h3,a4⟩:=lb_all hd hm _ b [Bh (ds.drop b)] _ _ (Nat.le_refl _) om (fun x hx=>by rw[List.mem_singleton]at hx;rw[hx];exact hl) (by simp[F.val]) (by simp;omega) (by simp;omega) (by unfold Cm;simp[Ro,Aq _ (hji 2),mv]) a3
 have S:=lb_o ds ls ls.length (Aa []) j' jc' rfl (Nat.le_refl _) om a4
 have ht:=F.top_le ls ls.length
 refine⟨ls,F.top ls ls.length,h1,ht,h3,?_,F.top_pos ls _,fun n0 hG=> ?_⟩
 ·rw[F.top_val,List.take_length];exact h2
 ·exact ff [] [] [] [6] [.cells (ns .i64 ls) 3 (some 1) false] n0 S (hb:=sm) (hGn:=hG) (fo:=rfl) (fp:=rfl)
noncomputable def rtm_h_f(o1 o2:Option Nat)(e1 e2:Nat)(xs ys zs:List Nat)(n k i:Nat)(j:List Value):Frame:=(Fr 92 ([(sl 5 n e1),(sl 6 k e2),uu,uu,nS,(sl 7 (n+k) (n+k)),(nI i)]++(jj j 0 3 ([(sl 5 n e1),(nI n),(sl 6 k e2),(nI k),(nI (n+k)),(sl 7 (n+k) (n+k))]++(jj j 3 54 [uu,uu])))) [.code (cd Tryz.f92 [1,1,0,1,0,0]),.inLoop (cd Tryz.f92 [1,1,0,1,0,0]),.inBlock 0,.code (cd Tryz.f92 [1,1,1])])
noncomputable def rtm_h_o(o1 o2:Option Nat)(e1 e2:Nat)(xs ys zs:List Nat)(n k i:Nat):List (Nat×AObj):=[(5,(cI xs o1)),(6,(cI ys o2)),(7,(cI zs none))]
noncomputable def rtm_h(o1 o2:Option Nat)(e1 e2:Nat)(xs ys zs:List Nat)(n k i:Nat)(j:List Value):AS:=⟨rtm_h_f o1 o2 e1 e2 xs ys zs n k i j,[],Ag 8 (rtm_h_o o1 o2 e1 e2 xs ys zs n k i)⟩
theorem rtm_in(o1 o2:Option Nat)(e1 e2:Nat)(xs ys:List Nat)(n k:Nat)(hn:n<70368744177)(hkm:k<70368744177):GT (Cg 92 #[(sl 5 n e1),(sl 6 k e2)] 7 [(5,(cI xs o1)),(6,(cI ys o2))]) (rtm_h o1 o2 e1 e2 xs ys (List.replicate (n+k) 0) n k 0 [undef,undef,undef,undef,undef,undef,undef,undef,undef,undef,undef,undef,undef,undef,undef,undef,undef,undef,undef,undef,undef,undef,undef,undef,undef,undef,undef,undef,undef,undef,undef,undef,undef,undef,undef,undef,undef,undef,undef,undef,undef,undef,undef,undef,undef,undef,undef,undef,undef,undef,undef,undef,undef,undef,undef,undef,undef]):=
 sR (sc:=[(10,.op (.rwI (((n+k):Nat):Int))),(0,.op (.mks (n+k) (n+k) (ns .i64 (List.replicate (n+k) 0)))),(9,.stay)]) kr (aI (Ao (a:=((n:Int)+(k:Int))) (r:=(((n+k):Nat):Int))) (aI (show (0≤(((n+k):Nat):Int)∧(((n+k):Nat):Int)≤(((n+k):Nat):Int)∧((8:Nat):Int)*(((n+k):Nat):Int)≤281474976710656∧(((n+k):Nat):Int)≤9223372036854775807)∧Au (ns .i64 (List.replicate (n+k) 0))=true∧(madeCells (Value.cells (lI 0)) (Int.toNat (((n+k):Nat):Int)*1)).toList=(ns .i64 (List.replicate (n+k) 0))∧Int.toNat (((n+k):Nat):Int)=(n+k)∧Int.toNat (((n+k):Nat):Int)=(n+k) from (by refine⟨⟨?_,?_,?_,?_⟩,Ab _ _,Qd _ _ _,?_,?_⟩<;>omega)) tt))
noncomputable def rtm_g_f(o1 o2:Option Nat)(e1 e2:Nat)(xs ys zs:List Nat)(n k i q j0:Nat)(j:List Value):Frame:=(Fr 92 ([(sl 5 n e1),(sl 6 k e2),uu,uu,nS,(sl 7 (n+k) (n+k)),(nI i),(nI q),(nI j0),(J j 0),(sl 5 n e1),(nI n),(sl 6 k e2),(nI k),(nI (n+k)),(sl 7 (n+k) (n+k))]++(jj j 1 3 ([bT]++(jj j 4 50 [uu,uu])))) [.code (cd Tryz.f92 [1,1,0,1,0,0,1,0,0,1,0,1,0,0]),.inLoop (cd Tryz.f92 [1,1,0,1,0,0,1,0,0,1,0,1,0,0]),.inBlock 2,.code (cd Tryz.f92 [1,1,0,1,0,0,1,0,0,1,1]),.inBlock 1,.code (cd Tryz.f92 [1,1,0,1,0,0,1,1]),.inLoop (cd Tryz.f92 [1,1,0,1,0,0]),.inBlock 0,.code (cd Tryz.f92 [1,1,1])])
noncomputable def rtm_g_o(o1 o2:Option Nat)(e1 e2:Nat)(xs ys zs:List Nat)(n k i q j0:Nat):List (Nat×AObj):=[(5,(cI xs o1)),(6,(cI ys o2)),(7,(cI zs none))]
noncomputable def rtm_g(o1 o2:Option Nat)(e1 e2:Nat)(xs ys zs:List Nat)(n k i q j0:Nat)(j:List Value):AS:=⟨rtm_g_f o1 o2 e1 e2 xs ys zs n k i q j0 j,[],Ag 8 (rtm_g_o o1 o2 e1 e2 xs ys zs n k i q j0)⟩
theorem rtm_1(o1 o2:Option Nat)(e1 e2:Nat)(xs ys zs:List Nat)(n k i:Nat)(j:List Value)(hi:i<n)(hn:n<70368744177)(hkm:k<70368744177):GT (rtm_h o1 o2 e1 e2 xs ys zs n k i j) (rtm_g o1 o2 e1 e2 xs ys zs n k i 0 0 ([(J j 2),(nI i),(sl 5 n e1),(nI n)]++(jj j 7 50 []))):=
 sR (sc:=[(6,.op (.rwB true)),(16,.stay)]) kr (aI (dT (p:=(i:Int)<(n:Int))) tt)
theorem rtm_2(o1 o2:Option Nat)(e1 e2:Nat)(xs ys zs:List Nat)(n k i q j0 a b r p w:Nat)(j:List Value)(hi:i<n)(hj:j0<k)(hn:n<70368744177)(hkm:k<70368744177)(hnx:n≤xs.length)(hky:k≤ys.length)(hzl:zs.length=n+k)(ha:a<10000)(hb:b<10000)(hr:r<10000)(hq:q<10000)(hp:p=a*b)(hp2:p≤99980001)(hw:w=p+r+q)(hx:(ns .i64 xs)[i]? =some (nI a))(hy:(ns .i64 ys)[j0]? =some (nI b))(hz:(ns .i64 zs)[i+j0]? =some (nI r)):GT (rtm_g o1 o2 e1 e2 xs ys zs n k i q j0 j) (rtm_g o1 o2 e1 e2 xs ys (zs.set (i+j0) (w%10000)) n k i (w/10000) (j0+1) ([(nI w)]++(jj j 1 5 ([(nI j0),(sl 6 k e2),(nI k),bT,(nI j0),(nI (j0+1)),(sl 7 (n+k) (n+k)),(nI i),(nI j0),(nI (i+j0)),(pp 7 (i+j0)),(nI r),(sl 5 n e1),(nI i),(pp 5 i),(nI a),(sl 6 k e2),(nI j0),(pp 6 j0),(nI b),(nI p),(nI (r+p)),(nI q),(nI w),(sl 7 (n+k) (n+k)),(nI i),(nI j0),(nI (i+j0)),(nI w),(nI (w%10000)),(nI w),(nI (w/10000)),(pp 7 (i+j0))]++(jj j 39 15 []))))):=
 sR (sc:=[(6,.op (.rwB true)),(6,.drw [(3,.rwI (((i+j0):Nat):Int)),(4,.idx (i+j0)),(5,.ld (nI r)),(8,.idx i),(9,.ld (nI a)),(12,.idx j0),(13,.ld (nI b)),(14,.rwI (p:Int)),(15,.rwI (((r+p):Nat):Int)),(17,.rwI (w:Int))]),(4,.op (.rwI (((i+j0):Nat):Int))),(1,.op (.rwI (((w%10000):Nat):Int))),(1,.op (.rwI (((w/10000):Nat):Int))),(0,.op (.idx (i+j0))),(0,.op (.st (ns .i64 (zs.set (i+j0) (w%10000))))),(5,.op (.rwI (((j0+1):Nat):Int))),(3,.stay)]) kr (aI (dT (p:=(j0:Int)<(k:Int))) (aI (aI tt (aI tt (aI tt (aI (Ao (a:=((i:Int)+(j0:Int))) (r:=(((i+j0):Nat):Int))) (aI (ix (((i+j0):Nat):Int) (((n+k):Nat):Int) 0 1 (i+j0)) (aI hz (aI tt (aI tt (aI (ix (i:Int) (n:Int) 0 1 i) (aI hx (aI tt (aI tt (aI (ix (j0:Int) (k:Int) 0 1 j0) (aI hy (aI (show IntKind.wrap .i64 ((a:Int)*(b:Int))=(p:Int) from (by subst hp;rw[Bw om om]<;>omega)) (aI (Ao (a:=((r:Int)+(p:Int))) (r:=(((r+p):Nat):Int))) (aI tt (aI (Ao (a:=((((r+p):Nat):Int)+(q:Int))) (r:=(w:Int))) (aI tt tt))))))))))))))))))) (aI (Ao (a:=((i:Int)+(j0:Int))) (r:=(((i+j0):Nat):Int))) (aI (show (Int.tmod (w:Int) (10000:Int))=(((w%10000):Nat):Int) from (by rw[Int.tmod_eq_emod_of_nonneg om]<;>omega)) (aI (show IntKind.wrap .i64 (Int.tdiv (w:Int) (10000:Int))=(((w/10000):Nat):Int) from (by rw[Int.tdiv_eq_ediv_of_nonneg om,Bw om om]<;>omega)) (aI (ix (((i+j0):Nat):Int) (((n+k):Nat):Int) 0 1 (i+j0)) (aI (show (i+j0)+1≤(ns .i64 zs).length∧Bs (ns .i64 zs) (i+j0) [(nI (w%10000))]=(ns .i64 (zs.set (i+j0) (w%10000))) from (Dp)) (aI (Ao (a:=((j0:Int)+(1:Int))) (r:=(((j0+1):Nat):Int))) tt))))))))
theorem rtm_3(o1 o2:Option Nat)(e1 e2:Nat)(xs ys zs:List Nat)(n k i q j0 z:Nat)(j:List Value)(hi:i<n)(hj:k≤j0)(hn:n<70368744177)(hkm:k<70368744177)(hzl:zs.length=n+k)(hq:q<10000)(hz:(ns .i64 zs)[i+k]? =some (nI z))(hz0:z=0):GT (rtm_g o1 o2 e1 e2 xs ys zs n k i q j0 j) (rtm_h o1 o2 e1 e2 xs ys (zs.set (i+k) q) n k (i+1) ([(nI q),(nI j0)]++(jj j 0 4 ([bT,(nI i),(nI (i+1)),(nI j0),(sl 6 k e2),(nI k),bF]++(jj j 10 29 [(sl 7 (n+k) (n+k)),(nI i),(sl 6 k e2),(nI k),(nI (i+k)),(sl 7 (n+k) (n+k)),(nI i),(sl 6 k e2),(nI k),(nI (i+k)),(pp 7 (i+k)),(nI z),(nI q),(nI q),(pp 7 (i+k))]))))):=
 sR (sc:=[(6,.op (.rwB false)),(8,.op (.rwI (((i+k):Nat):Int))),(4,.op (.rwI (((i+k):Nat):Int))),(0,.op (.idx (i+k))),(0,.op (.ld (nI z))),(1,.op (.rwI (q:Int))),(0,.op (.idx (i+k))),(0,.op (.st (ns .i64 (zs.set (i+k) q)))),(4,.op (.rwI (((i+1):Nat):Int))),(3,.stay)]) kr (aI (dF (p:=(j0:Int)<(k:Int))) (aI (Ao (a:=((i:Int)+(k:Int))) (r:=(((i+k):Nat):Int))) (aI (Ao (a:=((i:Int)+(k:Int))) (r:=(((i+k):Nat):Int))) (aI (ix (((i+k):Nat):Int) (((n+k):Nat):Int) 0 1 (i+k)) (aI hz (aI (Ao (a:=((z:Int)+(q:Int))) (r:=(q:Int))) (aI (ix (((i+k):Nat):Int) (((n+k):Nat):Int) 0 1 (i+k)) (aI (show (i+k)+1≤(ns .i64 zs).length∧Bs (ns .i64 zs) (i+k) [(nI q)]=(ns .i64 (zs.set (i+k) q)) from (Dp)) (aI (Ao (a:=((i:Int)+(1:Int))) (r:=(((i+1):Nat):Int))) tt)))))))))
theorem rtm_o(o1 o2:Option Nat)(e1 e2:Nat)(xs ys zs:List Nat)(n k i:Nat)(j:List Value)(hi:n≤i)(hn:n<70368744177)(hkm:k<70368744177)(hzl:zs.length=n+k)(hr:GT (Cg 92 #[(sl 5 n e1),(sl 6 k e2)] 7 [(5,(cI xs o1)),(6,(cI ys o2))]) (rtm_h o1 o2 e1 e2 xs ys zs n k i j)):CT 92 #[(sl 5 n e1),(sl 6 k e2)] (Ag 7 [(5,(cI xs o1)),(6,(cI ys o2))]) (sl 7 (F.top zs (n+k)) (n+k)) (Ag 8 [(5,(cI xs o1)),(6,(cI ys o2)),(7,(cI zs none))]):=
 sF (sc:=[(6,.op (.rwB false)),(6,.call [7] (sl 7 (F.top zs (n+k)) (n+k)) [(7,some (cI zs none))] []),(3,.stay)]) kr (aI (dF (p:=(i:Int)<(n:Int))) (aI (rs_c 8 7 zs (n+k) (n+k) om om om om) tt)) hr
theorem rtm_row{s0:AS}{o1 o2:Option Nat}{e1 e2:Nat}{xs ys:List Nat}{n k i a T:Nat}(hlx:F.Lim xs)(hly:F.Lim ys)(hnx:n≤xs.length)(hky:k≤ys.length)(hn:n<70368744177)(hkm:k<70368744177)(hi:i<n)(ha:a=xs.getD i 0):
  ∀(m:Nat) (zs:List Nat) (q j0:Nat) (j:List Value),m=k-j0→j0≤k→zs.length=n+k→F.Lim zs→q<10000→(∀l,i+k≤l→zs.getD l 0=0)→
   F.val zs+q*10000^(i+j0)+a*(10000^(i+j0)*F.val ((ys.take k).drop j0))=T→GT s0 (rtm_g o1 o2 e1 e2 xs ys zs n k i q j0 j)→
   ∃zs' j',zs'.length=n+k∧F.Lim zs'∧(∀l,i+1+k≤l→zs'.getD l 0=0)∧F.val zs'=T∧GT s0 (rtm_h o1 o2 e1 e2 xs ys zs' n k (i+1) j'):=by
 intro m
 induction m with
 |zero=>
  intro zs q j0 j hm hj hz hl hq h0 hv hr
  have hjk:j0=k:=by omega
  subst hjk
  have r:=rtm_3 o1 o2 e1 e2 xs ys zs n j0 i q j0 (zs.getD (i+j0) 0) j hi (Nat.le_refl _) hn hkm hz hq (Ar) (h0 _ (Nat.le_refl _))
  refine⟨_,_,?_,hl.set hq,?_,?_,hr.trans r⟩
  ·rw[List.length_set];exact hz
  ·intro l hl'
   rw[F.getD_set om,if_neg om]
   exact h0 l om
  ·have h1:=F.val_set zs (i+j0) q om
   rw[h0 _ (Nat.le_refl _),Nat.zero_mul,Nat.add_zero]at h1
   rw[h1]
   rw[List.drop_eq_nil_of_le (by rw[List.length_take];omega)]at hv
   exact F.nil_mul hv
 |succ m ih=>
  intro zs q j0 j hm hj hz hl hq h0 hv hr
  have hjk:j0<k:=by omega
  have ha':=hlx.get i
  rw[←ha]at ha'
  have hb:=hly.get j0
  have hr0:=hl.get (i+j0)
  have hp2:=F.mul_fit ha' hb
  have r:=rtm_2 o1 o2 e1 e2 xs ys zs n k i q j0 a (ys.getD j0 0) (zs.getD (i+j0) 0) _ _ j hi hjk hn hkm hnx hky hz ha' hb hr0 hq rfl hp2 rfl (by rw[ha];exact Ar om) (Ar) (Ar)
  refine ih _ _ _ _ om om (by rw[List.length_set];exact hz) (hl.set (Nat.mod_lt _ de)) ?_ ?_ ?_ (hr.trans r)
  ·generalize a*ys.getD j0 0=p at*
   omega
  ·intro l hl'
   rw[F.getD_set om,if_neg om]
   exact h0 l hl'
  ·have h2:F.val ((ys.take k).drop j0)=ys.getD j0 0+10000*F.val ((ys.take k).drop (j0+1)):=by
    rw[F.val_drop (by rw[List.length_take];omega),F.getD_take hjk]
   rw[h2]at hv
   have h1:=F.val_set zs (i+j0) ((a*ys.getD j0 0+zs.getD (i+j0) 0+q)%10000) om
   rw[show i+(j0+1)=i+j0+1 from rfl,Nat.pow_succ]
   exact F.row_step h1 hv
theorem rtm_all{s0:AS}{o1 o2:Option Nat}{e1 e2:Nat}{xs ys:List Nat}{n k:Nat}(hlx:F.Lim xs)(hly:F.Lim ys)(hnx:n≤xs.length)(hky:k≤ys.length)(hn:n<70368744177)(hkm:k<70368744177):
  ∀(m i:Nat) (zs:List Nat) (j:List Value),m=n-i→i≤n→zs.length=n+k→F.Lim zs→(∀l,i+k≤l→zs.getD l 0=0)→F.val zs=F.val (xs.take i)*F.val (ys.take k)→GT s0 (rtm_h o1 o2 e1 e2 xs ys zs n k i j)→
   ∃zs' j',zs'.length=n+k∧F.Lim zs'∧F.val zs'=F.val (xs.take n)*F.val (ys.take k)∧GT s0 (rtm_h o1 o2 e1 e2 xs ys zs' n k n j'):=by
 intro m
 induction m with
 |zero=>
  intro i zs j hm hi hz hl h0 hv hr
  have:i=n:=by omega
  subst this
  exact⟨zs,j,hz,hl,hv,hr⟩
 |succ m ih=>
  intro i zs j hm hi hz hl h0 hv hr
  have r:=rtm_1 o1 o2 e1 e2 xs ys zs n k i j om hn hkm
  obtain⟨zs',j',h1,h2,h3,h4,h5⟩:=rtm_row hlx hly hnx hky hn hkm om rfl _ zs 0 0 _ rfl (Nat.zero_le _) hz hl de h0 rfl (hr.trans r)
  refine ih (i+1) zs' j' om om h1 h2 h3 ?_ h5
  rw[h4,hv,F.val_take_succ,List.drop_zero,Nat.add_zero]
  exact row_sum
theorem F_inj: ∀{l m:List Nat},F.Lim l→F.Lim m→l.length=m.length→F.val l=F.val m→l=m
 |[],[],_,_,_,_=>rfl
 |[],_::_,_,_,h,_=>by simp at h
 |_::_,[],_,_,h,_=>by simp at h
 |x::l,y::m,hl,hm,h,hv=>by
  rw[show F.val (x::l)=x+10000*F.val l from rfl,show F.val (y::m)=y+10000*F.val m from rfl]at hv
  have h1:=hl x sm
  have h2:=hm y sm
  have h3:=F_inj (l:=l) (m:=m) (fun z hz=>hl z (by simp[hz])) (fun z hz=>hm z (by simp[hz])) (by simpa using h) om
  rw[h3,show x=y by rw[h3]at hv;omega]
theorem Zb(o1 o2:Option Nat)(e1 e2:Nat)(n0 bx byy:Nat)(xs ys:List Nat)(n k:Nat)(hb:5≤bx∧bx<n0∧5≤byy∧byy<n0∧bx≠byy)(hlx:F.Lim xs)(hly:F.Lim ys)(hnx:n≤xs.length)(hky:k≤ys.length)(hn:n<70368744177)(hkm:k<70368744177):
  ∃zs,F.Lim zs∧zs.length=n+k∧F.val (zs.take (F.top zs (n+k)))=F.val (xs.take n)*F.val (ys.take k)∧
   FT 92 #[sl bx n e1,sl byy k e2] n0 [(bx,.cells (ns .i64 xs) 3 o1 false),(byy,.cells (ns .i64 ys) 3 o2 false)] (sl n0 (F.top zs (n+k)) (n+k)) [(bx,some (cI xs o1)),(byy,some (cI ys o2))] [.cells (ns .i64 zs) 3 none false]:=by
 obtain⟨zs,j',h1,h2,h3,h4⟩:=rtm_all hlx hly hnx hky hn hkm n 0 (List.replicate (n+k) 0) _ rfl (Nat.zero_le _) (by rw[List.length_replicate]) (F.Lim.replicate _) (fun l _=>Mf _ _) (by rw[F.val_replicate];simp[F.val]) (rtm_in o1 o2 e1 e2 xs ys n k hn hkm)
 have S:=rtm_o o1 o2 e1 e2 xs ys zs n k n j' (Nat.le_refl _) hn hkm h1 h4
 refine⟨zs,h2,h1,?_,ff [bx,byy] [.cells (ns .i64 xs) 3 o1 false,.cells (ns .i64 ys) 3 o2 false] [.cells (ns .i64 xs) 3 o1 false,.cells (ns .i64 ys) 3 o2 false] [7] [.cells (ns .i64 zs) 3 none false] n0 S (hnd:=by simp[hb.2.2.2.2])⟩
 rw[F.top_val,List.take_of_length_le (by rw[h1];exact Nat.le_refl _),h3]
theorem rtgz_c(o1 o2:Option Nat)(e1 e2:Nat)(n0 bx byy:Nat)(xs ys zs:List Nat)(n k:Nat)(hb:5≤bx∧bx<n0∧5≤byy∧byy<n0∧bx≠byy)(hlz:F.Lim zs)(hzl:zs.length=n+k)(hv:F.val (zs.take (F.top zs (n+k)))=F.val (xs.take n)*F.val (ys.take k))(hlx:F.Lim xs)(hly:F.Lim ys)(hnx:n≤xs.length)(hky:k≤ys.length)(hn:n<70368744177)(hkm:k<70368744177):
   FT 92 #[sl bx n e1,sl byy k e2] n0 [(bx,.cells (ns .i64 xs) 3 o1 false),(byy,.cells (ns .i64 ys) 3 o2 false)] (sl n0 (F.top zs (n+k)) (n+k)) [(bx,some (cI xs o1)),(byy,some (cI ys o2))] [.cells (ns .i64 zs) 3 none false]:=by
 obtain⟨zs',h1,h2,h3,h4⟩:=Zb o1 o2 e1 e2 n0 bx byy xs ys n k hb hlx hly hnx hky hn hkm
 have:zs=zs':=by
  refine F_inj hlz h1 (by rw[hzl,h2]) ?_
  rw[F.top_val,List.take_of_length_le om]at hv h3
  rw[hv,h3]
 rw[this]
 exact h4
theorem rtm_c(n0 bx byy:Nat)(xs ys:List Nat)(n k:Nat):type_of% (Zb (some 1) (some 1) 0 0 n0 bx byy xs ys n k):=Zb (some 1) (some 1) 0 0 n0 bx byy xs ys n k
theorem rtmz_c(n0 bx byy:Nat)(xs ys zs:List Nat)(n k:Nat):type_of% (rtgz_c (some 1) (some 1) 0 0 n0 bx byy xs ys zs n k):=rtgz_c (some 1) (some 1) 0 0 n0 bx byy xs ys zs n k
end Go.Proofs.YtldoiilgfcpipaaGreatDoor
