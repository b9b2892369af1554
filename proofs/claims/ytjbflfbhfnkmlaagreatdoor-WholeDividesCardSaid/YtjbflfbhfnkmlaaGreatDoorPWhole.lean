import Derived.Test.YtjbflfbhfnkmlaaGreatDoorPCnt
import Derived.Test.YtjbflfbhfnkmlaaGreatDoorLE
import Derived.Test.YtjbflfbhfnkmlaaGreatDoorLF
set_option linter.unusedVariables false
set_option linter.unusedSimpArgs false
set_option maxRecDepth 100000
namespace Go.Proofs.YtjbflfbhfnkmlaaGreatDoor
open Go Go.AE Seg
noncomputable section
abbrev Bi(o:Nat)(zs:List Int):AObj:=.win o (zs.map (Value.int .i64))
abbrev Kj(o n c ai v0:Nat):AObj:=.cells [(sw 6 o n c),(nI (ai+1)),(nU v0)] 62 none false
abbrev Wh(o n c ai v1:Nat):AObj:=.cells [(sw 6 o n c),(nI ((ai+1)+1)),(nU v1)] 62 none false
abbrev Qu(o n c i u:Nat):AObj:=.cells [(sw 6 o n c),(nI i),(nU u)] 62 none false
abbrev Vi(o n c ai au:Nat):AObj:=.cells [(sw 6 o n c),(nI ai),(nU au)] 62 none false
abbrev z_c8d_5(o n c ai v2:Nat):AObj:=.cells [(sw 6 o n c),(nI (((ai+1)+1)+1)),(nU v2)] 62 none false
abbrev z_c8d_6:List Value:=[undef,undef,undef,undef,undef,undef,undef,undef,undef,undef,undef,undef,undef,undef,undef,undef,undef]
abbrev z_c8d_7(o n c i v0:Nat):AObj:=.cells [(sw 6 o n c),(nI (i+1)),(nU v0)] 62 none false
abbrev Wp(st:ByteArray)(e:Nat):Value:=.string (st++(Aa [e]))
end
theorem Gg{x e:Nat}(h:x=48+e):0+1≤([.int .u8 ((x:Nat):Int)]:List Value).length∧(Dk (List.take 1 (List.drop 0 ([.int .u8 ((x:Nat):Int)]:List Value)))).map (fun ns=>(⟨(ns.map fun n=>UInt8.ofNat n.toNat).toArray⟩:ByteArray))=some (Aa [e]):=by
 subst h
 exact⟨Nat.le_refl _,rfl⟩
theorem Sc(ds:List Nat):Seg.bts [45]++Aa ds=Bg ds:=by
 apply ByteArray.ext
 simp[ByteArray.data_append,Bg,Aa,Seg.bts]
theorem Sf(ds:List Nat)(e:Nat):Aa ds++Aa [e]=Aa (ds++[e]):=by
 apply ByteArray.ext
 simp[ByteArray.data_append,Aa]
noncomputable def wh_h_f(zs:List Int)(o n c ai au k w p:Nat)(st:ByteArray)(jc:List Value)(j:List Value):Frame:=(Fr 17 ([(pt 5),(nI k),uu,uu,(J jc 2),(nI w),(.string st),(nI p),(J j 0),(pt 5),(nI k),(J jc 3)]++(jj j 1 12 ([(J jc 0),(J jc 1)]++(jj j 13 4 (uj 7 []))))) [.code (cd Tryz.f17 [1,1,1,0,1,0,0]),.inLoop (cd Tryz.f17 [1,1,1,0,1,0,0]),.inBlock 0,.code (cd Tryz.f17 [1,1,1,1])])
noncomputable def wh_h_o(zs:List Int)(o n c ai au k w p:Nat)(st:ByteArray)(jc:List Value):List (Nat×AObj):=[(5,(Vi o n c ai au)),(6,(Bi o zs))]
noncomputable def wh_h(zs:List Int)(o n c ai au k w p:Nat)(st:ByteArray)(jc:List Value)(j:List Value):AS:=⟨wh_h_f zs o n c ai au k w p st jc j,[],Ac 9 (wh_h_o zs o n c ai au k w p st jc)⟩
theorem wh_in{s0:AS}(hs0:s0.h.next=7)(zs:List Int)(o n c i u k:Nat)(hk:k<1099511627776)(v0 r0:Nat)(hr0:r0≤k)(hc2:(FT 47 #[(pt 5),(nI k)] 7 [(5,(Qu o n c i u)),(6,(Bi o zs))] (nI r0) [(5,some (z_c8d_7 o n c i v0)),(6,some (Bi o zs))] []))(hr:GT s0 (Ca 17 #[(pt 5),(nI k)] 7 [(5,(Qu o n c i u)),(6,(Bi o zs))])):GT s0 (wh_h zs o n c (i+1) v0 k r0 0 (bts []) ([undef,undef,(.string (bts [])),(nI r0)]) z_c8d_6):=by
 have h1:=hr.trans (sR (sc:=[(8,.call [5,6] (nI r0) [(5,some (z_c8d_7 o n c i v0)),(6,some (Bi o zs))] []),(13,.stay)]) (fr1:=(Fr 17 ([(pt 5),(nI k),uu,uu,(.string (bts [])),(nI r0),(.string (bts [])),(lI 0),uu,(pt 5),(nI k),(nI r0)]++(uj 25 [])) [.code (cd Tryz.f17 [1,1,1,0,1,0,0]),.inLoop (cd Tryz.f17 [1,1,1,0,1,0,0]),.inBlock 0,.code (cd Tryz.f17 [1,1,1,1])])) (next:=7) (l:=[(5,(z_c8d_7 o n c i v0)),(6,(Bi o zs))]) kr (aI hc2 tt))
 exact Kv (b:=7) (k:=0) h1 kr rfl rfl rfl kr (by rw[hs0];decide) (by rw[hs0];decide) de de (by rfl) (by simp only[wh_h_o,List.map_cons,List.map_nil,Ep,Ah _ _ (Av _),Ah _ _ (Af _ _)];rfl) kr
theorem wh_s{s0:AS}(hs0:s0.h.next=7)(zs:List Int)(o n c ai au k w p:Nat)(st:ByteArray)(j jc:List Value)(hjc:Cm (Ak 7 2) jc)(hw:w<1099511627776)(hp:p<w)(hs:st.size<1099511627776)(h0:p=0)(v0 r0:Nat)(hr0:r0≤9)(hc2:(FT 47 #[(pt 5),(lI 9)] 9 [(5,(Vi o n c ai au)),(6,(Bi o zs))] (nI r0) [(5,some (Kj o n c ai v0)),(6,some (Bi o zs))] []))(v1 r1:Nat)(hr1:r1≤2)(d e:Nat)(hd:([.int .i64 0,.int .i64 9,.int .i64 (r0:Nat)]:List Value)[r1]? =some (nI d))(hd9:d≤9)(hc6:(FT 47 #[(pt 5),(lI 2)] 10 [(5,(Kj o n c ai v0)),(6,(Bi o zs))] (nI r1) [(5,some (Wh o n c ai v1)),(6,some (Bi o zs))] []))(v2 r2:Nat)(hr2:r2≤8)(he:e=(1+r2))(hc9:FT 47 #[(pt 5),(lI 8)] 10 [(5,(Wh o n c ai v1)),(6,(Bi o zs))] (nI r2) [(5,some (z_c8d_5 o n c ai v2)),(6,some (Bi o zs))] [])(hr:GT s0 (wh_h zs o n c ai au k w p st jc j)):GT s0 (wh_h zs o n c (((ai+1)+1)+1) v2 k w (p+1) (st++(Aa [e])) ([(pt 5),(nI (1+r2)),(J jc 2),(J jc 3)]) [(nI (1+r2)),(nI p),(nI w),bT,(nI p),(nI (p+1)),(pt 5),(pt 5),(nI r0),(sl 7 3 3),(nI d),(nI p),bT,(.string st),(nI (1+r2)),(.string (Aa [e])),(Wp st e)]):=by
 have h1:=hr.trans (sR (sc:=[(5,.op (.rwB true)),(9,.call [5,6] (nI r0) [(5,some (Kj o n c ai v0)),(6,some (Bi o zs))] []),(13,.call [5,6] (nI r1) [(5,some (Wh o n c ai v1)),(6,some (Bi o zs))] []),(0,.op (.idx r1)),(0,.op (.ld (nI d))),(10,.op (.rwB true)),(16,.call [5,6] (nI r2) [(5,some (z_c8d_5 o n c ai v2)),(6,some (Bi o zs))] []),(0,.op (.rwI (((1+r2):Nat):Int))),(17,.op (.rwI ((((1+r2)%10):Nat):Int))),(0,.op (.rwI (((48+((1+r2)%10)):Nat):Int))),(0,.op (.rwI (((48+((1+r2)%10)):Nat):Int))),(1,.op (.b2s (Aa [e]))),(4,.op (.cat (st++(Aa [e])))),(5,.op (.rwI (((p+1):Nat):Int))),(3,.stay)]) (fr1:=(Fr 17 ([(pt 5),(nI k),uu,uu,(J jc 2),(nI w),(Wp st e),(nI (p+1)),(nI (1+r2)),(pt 5),(nI k),(J jc 3),(nI p),(nI w),bT,(nI p),(nI (p+1)),(pt 5),(pt 5),(nI r0),(sl 9 3 3),(nI d),(nI p),bT,(pt 5),(nI (1+r2)),(.string st),(nI (1+r2)),(.string (Aa [e])),(Wp st e)]++(uj 7 [])) [.code (cd Tryz.f17 [1,1,1,0,1,0,0]),.inLoop (cd Tryz.f17 [1,1,1,0,1,0,0]),.inBlock 0,.code (cd Tryz.f17 [1,1,1,1])])) (next:=11) (l:=[(5,(z_c8d_5 o n c ai v2)),(6,(Bi o zs))]) kr (aI (dT (p:=(p:Int)<(w:Int))) (aI hc2 (aI hc6 (aI (ix (r1:Int) ((3:Nat):Int) 0 1 r1) (aI hd (aI (eT (a:=(p:Int)) (b:=(0:Int))) (aI hc9 (aI (Am (a:=((1:Int)+(r2:Int))) (r:=(((1+r2):Nat):Int))) (aI (show (Int.tmod (((1+r2):Nat):Int) (10:Int))=((((1+r2)%10):Nat):Int) from (by rw[Int.tmod_eq_emod_of_nonneg om]<;>omega)) (aI (Am (a:=((48:Int)+((((1+r2)%10):Nat):Int))) (r:=(((48+((1+r2)%10)):Nat):Int))) (aI (wU8 (a:=(((48+((1+r2)%10)):Nat):Int)) (r:=(((48+((1+r2)%10)):Nat):Int))) (aI (show 0+1≤([(nB (48+((1+r2)%10)))]).length∧(Dk (List.take 1 (List.drop 0 [(nB (48+((1+r2)%10)))]))).map (fun ns=>(⟨(ns.map fun n=>UInt8.ofNat n.toNat).toArray⟩:ByteArray))=some (Aa [e]) from (Gg om)) (aI (show (((st.size+(Aa [e]).size:Nat)):Int)≤9223372036854775807∧st++(Aa [e])=(st++(Aa [e])) from⟨by rw[show (Aa [e]).size=1 from rfl];omega,rfl⟩) (aI (Am (a:=((p:Int)+(1:Int))) (r:=(((p+1):Nat):Int))) tt)))))))))))))))
 rw[←Ap (Ak 7 2) hjc 2]at h1
 rw[←Ap (Ak 7 2) hjc 3]at h1
 exact Kv (b:=7) (k:=2) h1 kr rfl rfl rfl kr (by rw[hs0];decide) (by rw[hs0];decide) de de (by rfl) (by simp only[wh_h_o,List.map_cons,List.map_nil,Ep,Ah _ _ (Av _),Ah _ _ (Af _ _)];rfl) kr
theorem wh_r{s0:AS}(hs0:s0.h.next=7)(zs:List Int)(o n c ai au k w p:Nat)(st:ByteArray)(j jc:List Value)(hjc:Cm (Ak 7 2) jc)(hw:w<1099511627776)(hp:p<w)(hs:st.size<1099511627776)(h0:p≠0)(v0 r0:Nat)(hr0:r0≤9)(hc2:(FT 47 #[(pt 5),(lI 9)] 9 [(5,(Vi o n c ai au)),(6,(Bi o zs))] (nI r0) [(5,some (Kj o n c ai v0)),(6,some (Bi o zs))] []))(v1 r1:Nat)(hr1:r1≤2)(d e:Nat)(hd:([.int .i64 0,.int .i64 9,.int .i64 (r0:Nat)]:List Value)[r1]? =some (nI d))(hd9:d≤9)(he:e=d)(hc6:(FT 47 #[(pt 5),(lI 2)] 10 [(5,(Kj o n c ai v0)),(6,(Bi o zs))] (nI r1) [(5,some (Wh o n c ai v1)),(6,some (Bi o zs))] []))(hr:GT s0 (wh_h zs o n c ai au k w p st jc j)):GT s0 (wh_h zs o n c ((ai+1)+1) v1 k w (p+1) (st++(Aa [e])) ([(J jc 0),(J jc 1),(J jc 2),(J jc 3)]) [(nI d),(nI p),(nI w),bT,(nI p),(nI (p+1)),(pt 5),(pt 5),(nI r0),(sl 7 3 3),(nI d),(nI p),bF,(.string st),(nI d),(.string (Aa [e])),(Wp st e)]):=by
 have h1:=hr.trans (sR (sc:=[(5,.op (.rwB true)),(9,.call [5,6] (nI r0) [(5,some (Kj o n c ai v0)),(6,some (Bi o zs))] []),(13,.call [5,6] (nI r1) [(5,some (Wh o n c ai v1)),(6,some (Bi o zs))] []),(0,.op (.idx r1)),(0,.op (.ld (nI d))),(10,.op (.rwB false)),(14,.op (.rwI (((d%10):Nat):Int))),(0,.op (.rwI (((48+(d%10)):Nat):Int))),(0,.op (.rwI (((48+(d%10)):Nat):Int))),(1,.op (.b2s (Aa [e]))),(4,.op (.cat (st++(Aa [e])))),(5,.op (.rwI (((p+1):Nat):Int))),(3,.stay)]) (fr1:=(Fr 17 ([(pt 5),(nI k),uu,uu,(J jc 2),(nI w),(Wp st e),(nI (p+1)),(nI d),(pt 5),(nI k),(J jc 3),(nI p),(nI w),bT,(nI p),(nI (p+1)),(pt 5),(pt 5),(nI r0),(sl 9 3 3),(nI d),(nI p),bF,(J jc 0),(J jc 1),(.string st),(nI d),(.string (Aa [e])),(Wp st e)]++(uj 7 [])) [.code (cd Tryz.f17 [1,1,1,0,1,0,0]),.inLoop (cd Tryz.f17 [1,1,1,0,1,0,0]),.inBlock 0,.code (cd Tryz.f17 [1,1,1,1])])) (next:=11) (l:=[(5,(Wh o n c ai v1)),(6,(Bi o zs))]) kr (aI (dT (p:=(p:Int)<(w:Int))) (aI hc2 (aI hc6 (aI (ix (r1:Int) ((3:Nat):Int) 0 1 r1) (aI hd (aI (eF (a:=(p:Int)) (b:=(0:Int))) (aI (show (Int.tmod (d:Int) (10:Int))=(((d%10):Nat):Int) from (by rw[Int.tmod_eq_emod_of_nonneg om]<;>omega)) (aI (Am (a:=((48:Int)+(((d%10):Nat):Int))) (r:=(((48+(d%10)):Nat):Int))) (aI (wU8 (a:=(((48+(d%10)):Nat):Int)) (r:=(((48+(d%10)):Nat):Int))) (aI (show 0+1≤([(nB (48+(d%10)))]).length∧(Dk (List.take 1 (List.drop 0 [(nB (48+(d%10)))]))).map (fun ns=>(⟨(ns.map fun n=>UInt8.ofNat n.toNat).toArray⟩:ByteArray))=some (Aa [e]) from (Gg om)) (aI (show (((st.size+(Aa [e]).size:Nat)):Int)≤9223372036854775807∧st++(Aa [e])=(st++(Aa [e])) from⟨by rw[show (Aa [e]).size=1 from rfl];omega,rfl⟩) (aI (Am (a:=((p:Int)+(1:Int))) (r:=(((p+1):Nat):Int))) tt)))))))))))))
 rw[←Ap (Ak 7 2) hjc 0]at h1
 rw[←Ap (Ak 7 2) hjc 1]at h1
 rw[←Ap (Ak 7 2) hjc 2]at h1
 rw[←Ap (Ak 7 2) hjc 3]at h1
 exact Kv (b:=7) (k:=2) h1 kr rfl rfl rfl kr (by rw[hs0];decide) (by rw[hs0];decide) de de (by rfl) (by simp only[wh_h_o,List.map_cons,List.map_nil,Ep,Ah _ _ (Av _),Ah _ _ (Af _ _)];rfl) kr
theorem wh_oe(zs:List Int)(o n c i u ai au k w p:Nat)(st:ByteArray)(j jc:List Value)(hp:w≤p)(hs:st.size<1099511627776)(h0:(st.toList==(Seg.bts []).toList)=true)(hr:GT (Ca 17 #[(pt 5),(nI k)] 7 [(5,(Qu o n c i u)),(6,(Bi o zs))]) (wh_h zs o n c ai au k w p st jc j)):CT 17 #[(pt 5),(nI k)] (Ac 7 [(5,(Qu o n c i u)),(6,(Bi o zs))]) (.string (bts [48])) (Ac 9 [(5,(Vi o n c ai au)),(6,(Bi o zs))]):=
 sF (sc:=[(5,.op (.rwB false)),(7,.op (.rwB true)),(7,.stay)]) kr (aI (dF (p:=(p:Int)<(w:Int))) (aI h0 tt)) hr
theorem wh_om(zs:List Int)(o n c i u ai au k w p:Nat)(st:ByteArray)(j jc:List Value)(hp:w≤p)(hs:st.size<1099511627776)(h0:(st.toList==(Seg.bts []).toList)=false)(v0 r0:Nat)(hr0:r0≤2)(hz:r0=0)(hc3:(FT 47 #[(pt 5),(lI 2)] 9 [(5,(Vi o n c ai au)),(6,(Bi o zs))] (nI r0) [(5,some (Kj o n c ai v0)),(6,some (Bi o zs))] []))(hr:GT (Ca 17 #[(pt 5),(nI k)] 7 [(5,(Qu o n c i u)),(6,(Bi o zs))]) (wh_h zs o n c ai au k w p st jc j)):CT 17 #[(pt 5),(nI k)] (Ac 7 [(5,(Qu o n c i u)),(6,(Bi o zs))]) (.string ((bts [45])++st)) (Ac 9 [(5,(Kj o n c ai v0)),(6,(Bi o zs))]):=
 sF (sc:=[(5,.op (.rwB false)),(7,.op (.rwB false)),(17,.call [5,6] (nI r0) [(5,some (Kj o n c ai v0)),(6,some (Bi o zs))] []),(0,.op (.rwB true)),(9,.op (.cat ((bts [45])++st))),(3,.stay)]) kr (aI (dF (p:=(p:Int)<(w:Int))) (aI h0 (aI hc3 (aI (eT (a:=(r0:Int)) (b:=(0:Int))) (aI (show ((((bts [45]).size+st.size:Nat)):Int)≤9223372036854775807∧(bts [45])++st=((bts [45])++st) from⟨by rw[show (Seg.bts [45]).size=1 from rfl];omega,rfl⟩) tt))))) hr
theorem wh_on(zs:List Int)(o n c i u ai au k w p:Nat)(st:ByteArray)(j jc:List Value)(hp:w≤p)(hs:st.size<1099511627776)(h0:(st.toList==(Seg.bts []).toList)=false)(v0 r0:Nat)(hr0:r0≤2)(hz:r0≠0)(hc3:(FT 47 #[(pt 5),(lI 2)] 9 [(5,(Vi o n c ai au)),(6,(Bi o zs))] (nI r0) [(5,some (Kj o n c ai v0)),(6,some (Bi o zs))] []))(hr:GT (Ca 17 #[(pt 5),(nI k)] 7 [(5,(Qu o n c i u)),(6,(Bi o zs))]) (wh_h zs o n c ai au k w p st jc j)):CT 17 #[(pt 5),(nI k)] (Ac 7 [(5,(Qu o n c i u)),(6,(Bi o zs))]) (.string st) (Ac 9 [(5,(Kj o n c ai v0)),(6,(Bi o zs))]):=
 sF (sc:=[(5,.op (.rwB false)),(7,.op (.rwB false)),(17,.call [5,6] (nI r0) [(5,some (Kj o n c ai v0)),(6,some (Bi o zs))] []),(0,.op (.rwB false)),(13,.stay)]) kr (aI (dF (p:=(p:Int)<(w:Int))) (aI h0 (aI hc3 (aI (eF (a:=(r0:Int)) (b:=(0:Int))) tt)))) hr
theorem Ym{ds:List Nat}{e:Nat}(hd:Dig ds)(he:e<10):Dig (ds++[e]):=fun x hx=>by
 rcases List.mem_append.1 hx with q|q
 ·exact hd x q
 ·rw[List.mem_singleton]at q;omega
theorem head_snoc{ds:List Nat}{e:Nat}(h:ds.getD 0 0≠0):(ds++[e]).getD 0 0≠0:=by
 cases ds with
 |nil=>exact absurd rfl h
 |cons d ds=>exact h
theorem wh_loop{zs:List Int}{o n c k w i0:Nat}{s0:AS}(hs0:s0.h.next=7)(hn:n≤zs.length)(hi0:i0<4611686018427387904)(hw:w<1099511627776): ∀(m p i u:Nat) (ds:List Nat) (j jc:List Value),m=w-p→p≤w→ds.length=p→Dig ds→(0<p→ds.getD 0 0≠0)→i≤i0+1+3*p→Cm (Ak 7 2) jc→
  GT s0 (wh_h zs o n c i u k w p (Aa ds) jc j)→ ∃i' u' ds' j' jc',i'≤i0+1+3*w∧ds'.length=w∧Dig ds'∧(0<w→ds'.getD 0 0≠0)∧GT s0 (wh_h zs o n c i' u' k w w (Aa ds') jc' j'):=by
 intro m
 induction m with
 |zero=>
  intro p i u ds j jc hm hp hl hd h0 hi hj hr
  have:p=w:=by omega
  subst this
  exact⟨i,u,ds,j,jc,hi,hl,hd,h0,hr⟩
 |succ m ih=>
  intro p i u ds j jc hm hp hl hd h0 hi hj hr
  obtain⟨v0,r0,hr0,T0⟩:=up_c 9 5 6 zs o n c i u 9 om hn om om
  obtain⟨v1,r1,hr1,T1⟩:=up_c 10 5 6 zs o n c (i+1) v0 2 om hn om om
  obtain⟨d,hd9,hdd⟩: ∃d:Nat,d≤9∧([.int .i64 0,.int .i64 9,.int .i64 (r0:Nat)]:List Value)[r1]? =some (nI d):=by
   have:r1=0∨r1=1∨r1=2:=by omega
   rcases this with rfl|rfl|rfl
   ·exact⟨0,by omega,rfl⟩
   ·exact⟨9,by omega,rfl⟩
   ·exact⟨r0,hr0,rfl⟩
  have hsz:(Aa ds).size<1099511627776:=by rw[Ad];omega
  by_cases hp0:p=0
  ·obtain⟨v2,r2,hr2,T2⟩:=up_c 10 5 6 zs o n c (i+1+1) v1 8 om hn om om
   have r:=wh_s hs0 zs o n c i u k w p (Aa ds) j jc hj hw om hsz hp0 v0 r0 hr0 T0 v1 r1 hr1 d (1+r2) hdd hd9 T1 v2 r2 hr2 rfl T2 hr
   rw[Sf]at r
   refine ih (p+1) _ _ _ _ _ om om (by rw[List.length_append,hl];rfl) (Ym hd om) (fun _=> ?_) om (by simp[Cm,Qr,Ap _ hj,mv,mvA,Ed,Ak,undef]) r
   have:ds=[]:=List.length_eq_zero_iff.1 om
   rw[this]
   show 1+r2≠0
   omega
  ·have r:=wh_r hs0 zs o n c i u k w p (Aa ds) j jc hj hw om hsz hp0 v0 r0 hr0 T0 v1 r1 hr1 d d hdd hd9 rfl T1 hr
   rw[Sf]at r
   exact ih (p+1) _ _ _ _ _ om om (by rw[List.length_append,hl];rfl) (Ym hd om) (fun _=>head_snoc (h0 om)) om (by simp[Cm,Qr,Ap _ hj,mv,mvA,Ed,Ak,undef]) r
theorem whole_c(n0 b L:Nat)(zs:List Int)(o n c i u k:Nat)(hb:5≤b∧b<n0∧5≤L∧L<n0∧b≠L)(hn:n≤zs.length)(hi:i<4611686018427387904)(hk:k<1099511627776)(hk0:0<k):
  ∃(z:Int) (i' u':Nat),(Ae z.natAbs).length≤k∧i'≤i+2+3*k∧FT 17 #[pt b,.int .i64 ((k:Nat):Int)] n0 [(b,.cells [sw L o n c,.int .i64 ((i:Nat):Int),.int .u64 ((u:Nat):Int)] 62 none false),(L,.win o (zs.map (Value.int .i64)))] (.string (Ab z)) [(b,some (.cells [sw L o n c,.int .i64 ((i':Nat):Int),.int .u64 ((u':Nat):Int)] 62 none false)),(L,some (.win o (zs.map (Value.int .i64))))] []:=by
 obtain⟨v,w,hw,T⟩:=up_c 7 5 6 zs o n c i u k om hn om hk
 have r0:=wh_in (s0:=(Ca 17 #[(pt 5),(nI k)] 7 [(5,(.cells [(sw 6 o n c),(nI i),(nU u)] 62 none false)),(6,(.win o (zs.map (Value.int .i64))))])) rfl zs o n c i u k hk v w hw T (Gets.refl _)
 obtain⟨i',u',ds,j',jc',h1,h2,h3,h4,h5⟩:=wh_loop rfl hn hi om w 0 _ _ [] _ _ rfl (Nat.zero_le _) rfl (fun x hx=>by cases hx) (fun h=>absurd h de) om (by simp[Cm,Qr,mv,mvA,Ed,Ak,undef]) r0
 have hsz:(Aa ds).size<1099511627776:=by rw[Ad];omega
 rcases Nat.eq_zero_or_pos w with hw0|hw0
 ·have hds:ds=[]:=List.length_eq_zero_iff.1 om
  subst hds
  have S:=wh_oe zs o n c i u i' u' k w w (Aa []) j' jc' (Nat.le_refl _) hsz (by rw[ByteArray.toList_eq,ByteArray.toList_eq];rfl) h5
  refine⟨0,i',u',by rw[show (0:Int).natAbs=0 from rfl,Ea];exact hk0,by omega,?_⟩
  rw[show Ab 0=Seg.bts [48] by rw[show (0:Int)=((0:Nat):Int) from rfl,Cj,Ea];rfl]
  exact Qf (os':=[.cells [sw L o n c,.int .i64 ((i:Nat):Int),.int .u64 ((u:Nat):Int)] 62 none false,.win o (zs.map (Value.int .i64))]) (ps':=[.cells [sw L o n c,.int .i64 ((i':Nat):Int),.int .u64 ((u':Nat):Int)] 62 none false,.win o (zs.map (Value.int .i64))]) (qs':=[]) [b,L] [.cells [sw 6 o n c,.int .i64 ((i:Nat):Int),.int .u64 ((u:Nat):Int)] 62 none false,.win o (zs.map (Value.int .i64))] [.cells [sw 6 o n c,.int .i64 ((i':Nat):Int),.int .u64 ((u':Nat):Int)] 62 none false,.win o (zs.map (Value.int .i64))] [] [] n0 (S) rfl rfl rfl (by simp[hb.2.2.2.2]) (by simp;omega) om rfl (by simp[Me,Gm,Gb,okI,Dr _ _ (Av zs)]) rfl (by simp only[List.map_cons,List.map_nil,Ep,Ah _ _ (Av zs)];rfl) (by simp only[List.map_cons,List.map_nil,Ep,Ah _ _ (Av zs)];rfl) rfl sm sm rfl rfl rfl
 ·have hne:((Aa ds).toList==(Seg.bts []).toList)=false:=by
   rw[ByteArray.toList_eq,ByteArray.toList_eq]
   cases ds with
   |nil=>rw[List.length_nil]at h2;omega
   |cons d ds=>rfl
  obtain⟨hdv,hpos⟩:=Nw (w-1) ds om h3 (h4 hw0)
  obtain⟨v2,r2,hr2,T2⟩:=up_c 9 5 6 zs o n c i' u' 2 om hn om om
  by_cases hz:r2=0
  ·have S:=wh_om zs o n c i u i' u' k w w (Aa ds) j' jc' (Nat.le_refl _) hsz hne v2 r2 hr2 hz T2 h5
   refine⟨-(Az ds:Int),i'+1,v2,by rw[Int.natAbs_neg,Int.natAbs_natCast,hdv];omega,by omega,?_⟩
   rw[Dm hpos,hdv,←Sc]
   exact Qf (os':=[.cells [sw L o n c,.int .i64 ((i:Nat):Int),.int .u64 ((u:Nat):Int)] 62 none false,.win o (zs.map (Value.int .i64))]) (ps':=[.cells [sw L o n c,.int .i64 ((i'+1:Nat):Int),.int .u64 ((v2:Nat):Int)] 62 none false,.win o (zs.map (Value.int .i64))]) (qs':=[]) [b,L] [.cells [sw 6 o n c,.int .i64 ((i:Nat):Int),.int .u64 ((u:Nat):Int)] 62 none false,.win o (zs.map (Value.int .i64))] [.cells [sw 6 o n c,.int .i64 ((i'+1:Nat):Int),.int .u64 ((v2:Nat):Int)] 62 none false,.win o (zs.map (Value.int .i64))] [] [] n0 (S) rfl rfl rfl (by simp[hb.2.2.2.2]) (by simp;omega) om rfl (by simp[Me,Gm,Gb,okI,Dr _ _ (Av zs)]) rfl (by simp only[List.map_cons,List.map_nil,Ep,Ah _ _ (Av zs)];rfl) (by simp only[List.map_cons,List.map_nil,Ep,Ah _ _ (Av zs)];rfl) rfl sm sm rfl rfl rfl
  ·have S:=wh_on zs o n c i u i' u' k w w (Aa ds) j' jc' (Nat.le_refl _) hsz hne v2 r2 hr2 hz T2 h5
   refine⟨(Az ds:Int),i'+1,v2,by rw[Int.natAbs_natCast,hdv];omega,by omega,?_⟩
   rw[Cj,hdv]
   exact Qf (os':=[.cells [sw L o n c,.int .i64 ((i:Nat):Int),.int .u64 ((u:Nat):Int)] 62 none false,.win o (zs.map (Value.int .i64))]) (ps':=[.cells [sw L o n c,.int .i64 ((i'+1:Nat):Int),.int .u64 ((v2:Nat):Int)] 62 none false,.win o (zs.map (Value.int .i64))]) (qs':=[]) [b,L] [.cells [sw 6 o n c,.int .i64 ((i:Nat):Int),.int .u64 ((u:Nat):Int)] 62 none false,.win o (zs.map (Value.int .i64))] [.cells [sw 6 o n c,.int .i64 ((i'+1:Nat):Int),.int .u64 ((v2:Nat):Int)] 62 none false,.win o (zs.map (Value.int .i64))] [] [] n0 (S) rfl rfl rfl (by simp[hb.2.2.2.2]) (by simp;omega) om rfl (by simp[Me,Gm,Gb,okI,Dr _ _ (Av zs)]) rfl (by simp only[List.map_cons,List.map_nil,Ep,Ah _ _ (Av zs)];rfl) (by simp only[List.map_cons,List.map_nil,Ep,Ah _ _ (Av zs)];rfl) rfl sm sm rfl rfl rfl
theorem dec_eq{n:Nat}(h: ¬n<10):Aa (Ae (n/10))++Aa [n%10]=Aa (Ae n):=by rw[Sf,←Bw h]
theorem oi_s(n:Nat)(hn:n<1000000000000000001)(h:n<10)(e:Nat)(he:e=n):CT 75 #[(nI n)] (Ac 5 []) (.string (Aa [e])) (Ac 6 []):=
 sF (sc:=[(8,.op (.rwB false)),(7,.op (.rwB true)),(5,.op (.rwI (((48+n):Nat):Int))),(0,.op (.rwI (((48+n):Nat):Int))),(1,.op (.b2s (Aa [e]))),(3,.stay)]) kr (aI (dF (p:=(n:Int)<(0:Int))) (aI (dT (p:=(n:Int)<(10:Int))) (aI (Am (a:=((48:Int)+(n:Int))) (r:=(((48+n):Nat):Int))) (aI (wU8 (a:=(((48+n):Nat):Int)) (r:=(((48+n):Nat):Int))) (aI (show 0+1≤([(nB (48+n))]).length∧(Dk (List.take 1 (List.drop 0 [(nB (48+n))]))).map (fun ns=>(⟨(ns.map fun n=>UInt8.ofNat n.toNat).toArray⟩:ByteArray))=some (Aa [e]) from (Gg om)) tt))))) (Gets.refl _)
theorem oi_r(n:Nat)(hn:n<1000000000000000001)(h: ¬n<10)(e:Nat)(he:e=n%10)(sr:ByteArray)(hsz:sr.size<1099511627776)(hrec: ∀n0,5≤n0→FT 75 #[(nI (n/10))] n0 [] (.string sr) [] []):CT 75 #[(nI n)] (Ac 5 []) (.string (sr++(Aa [e]))) (Ac 6 []):=
 sF (sc:=[(8,.op (.rwB false)),(7,.op (.rwB false)),(4,.drwB [(1,.rwI (((n/10):Nat):Int)),(4,.rwI (((n%10):Nat):Int)),(5,.rwI (((48+(n%10)):Nat):Int)),(6,.rwI (((48+(n%10)):Nat):Int)),(8,.b2s (Aa [e])),(9,.cat (sr++(Aa [e])))] [⟨2,[],(.string sr),[],[]⟩] ⟨#[(nI n),uu,(.string (sr++(Aa [e]))),(nI n),bF,uu,uu,uu,uu,(nI n),bF,uu,uu,uu,uu,uu,(nI n),(nI (n/10)),(.string sr),(nI n),(nI (n%10)),(nI (48+(n%10))),(nB (48+(n%10))),(sl 5 1 1),(.string (Aa [e])),(.string (sr++(Aa [e])))],6,[(5,(.cells [(nB (48+(n%10)))] 5 none false))]⟩),(1,.stay)]) kr (aI (dF (p:=(n:Int)<(0:Int))) (aI (dF (p:=(n:Int)<(10:Int))) (aI (show True∧((IntKind.wrap .i64 (Int.tdiv (n:Int) (10:Int))=(((n/10):Nat):Int))∧(True∧(((Int.tmod (n:Int) (10:Int))=(((n%10):Nat):Int))∧((IntKind.wrap .i64 ((48:Int)+(((n%10):Nat):Int))=(((48+(n%10)):Nat):Int))∧((IntKind.wrap .u8 (((48+(n%10)):Nat):Int)=(((48+(n%10)):Nat):Int))∧(((FT 75 #[(nI (n/10))] 5 [] (.string sr) [] [])∧(True)∧(((True)∧(True)∧(((0+1≤([(nB (48+(n%10)))]).length∧(Dk (List.take 1 (List.drop 0 [(nB (48+(n%10)))]))).map (fun ns=>(⟨(ns.map fun n=>UInt8.ofNat n.toNat).toArray⟩:ByteArray))=some (Aa [e]))∧(True)∧(((((sr.size+(Aa [e]).size:Nat)):Int)≤9223372036854775807∧sr++(Aa [e])=(sr++(Aa [e])))∧(True∧(Zy ⟨#[(nI n),uu,(.string (sr++(Aa [e]))),(nI n),bF,uu,uu,uu,uu,(nI n),bF,uu,uu,uu,uu,uu,(nI n),(nI (n/10)),(.string sr),(nI n),(nI (n%10)),(nI (48+(n%10))),(nB (48+(n%10))),(sl 5 1 1),(.string (Aa [e])),(.string (sr++(Aa [e])))],6,[(5,(.cells [(nB (48+(n%10)))] 5 none false))]⟩))))∧(True)))∧(True)))∧(((True)∧(True)∧(((FT 75 #[(nI (n/10))] 6 [] (.string sr) [] [])∧(True)∧(((0+1≤([(nB (48+(n%10)))]).length∧(Dk (List.take 1 (List.drop 0 [(nB (48+(n%10)))]))).map (fun ns=>(⟨(ns.map fun n=>UInt8.ofNat n.toNat).toArray⟩:ByteArray))=some (Aa [e]))∧(True)∧(((((sr.size+(Aa [e]).size:Nat)):Int)≤9223372036854775807∧sr++(Aa [e])=(sr++(Aa [e])))∧(True∧(Zy ⟨#[(nI n),uu,(.string (sr++(Aa [e]))),(nI n),bF,uu,uu,uu,uu,(nI n),bF,uu,uu,uu,uu,uu,(nI n),(nI (n/10)),(.string sr),(nI n),(nI (n%10)),(nI (48+(n%10))),(nB (48+(n%10))),(sl 5 1 1),(.string (Aa [e])),(.string (sr++(Aa [e])))],6,[(5,(.cells [(nB (48+(n%10)))] 5 none false))]⟩))))∧(True)))∧(((0+1≤([(nB (48+(n%10)))]).length∧(Dk (List.take 1 (List.drop 0 [(nB (48+(n%10)))]))).map (fun ns=>(⟨(ns.map fun n=>UInt8.ofNat n.toNat).toArray⟩:ByteArray))=some (Aa [e]))∧(True)∧(((FT 75 #[(nI (n/10))] 6 [] (.string sr) [] [])∧(True)∧(((((sr.size+(Aa [e]).size:Nat)):Int)≤9223372036854775807∧sr++(Aa [e])=(sr++(Aa [e])))∧(True∧(Zy ⟨#[(nI n),uu,(.string (sr++(Aa [e]))),(nI n),bF,uu,uu,uu,uu,(nI n),bF,uu,uu,uu,uu,uu,(nI n),(nI (n/10)),(.string sr),(nI n),(nI (n%10)),(nI (48+(n%10))),(nB (48+(n%10))),(sl 5 1 1),(.string (Aa [e])),(.string (sr++(Aa [e])))],6,[(5,(.cells [(nB (48+(n%10)))] 5 none false))]⟩))))∧(True)))∧(True))))∧(True)))))))) from⟨tt,⟨(by rw[Int.tdiv_eq_ediv_of_nonneg om,Cc om om]<;>omega),⟨tt,⟨(by rw[Int.tmod_eq_emod_of_nonneg om]<;>omega),⟨(Am),⟨(wU8),⟨⟨(hrec 5 om),tt,⟨⟨tt,tt,⟨⟨(Gg om),tt,⟨⟨by rw[show (Aa [e]).size=1 from rfl];omega,rfl⟩,⟨tt,rfl⟩⟩⟩,tt⟩⟩,tt⟩⟩,⟨⟨tt,tt,⟨⟨(hrec 6 om),tt,⟨⟨(Gg om),tt,⟨⟨by rw[show (Aa [e]).size=1 from rfl];omega,rfl⟩,⟨tt,rfl⟩⟩⟩,tt⟩⟩,⟨⟨(Gg om),tt,⟨⟨(hrec 6 om),tt,⟨⟨by rw[show (Aa [e]).size=1 from rfl];omega,rfl⟩,⟨tt,rfl⟩⟩⟩,tt⟩⟩,tt⟩⟩⟩,tt⟩⟩⟩⟩⟩⟩⟩⟩) tt))) (Gets.refl _)
theorem oi_c: ∀(n n0:Nat),5≤n0→n<1000000000000000001→FT 75 #[.int .i64 ((n:Nat):Int)] n0 [] (.string (Ab (n:Int))) [] []:=by
 intro n
 induction n using Nat.strongRecOn with
 |_ n ih=>
  intro n0 hG hn
  rw[Cj]
  by_cases h:n<10
  ·rw[Cf h]
   exact Dy n0 (oi_s n hn h n rfl) hG
  ·have hr: ∀n0,5≤n0→FT 75 #[(nI (n/10))] n0 [] (.string (Aa (Ae (n/10)))) [] []:=fun n0 hG=>by
    have:=ih (n/10) om n0 hG om
    rw[Cj]at this
    exact this
   have hsz:(Aa (Ae (n/10))).size<1099511627776:=by
    rw[Ad]
    have h1:Es (n/10)≤18:=Tx 18 _ om
    have:=Ew h1 de
    omega
   rw[←dec_eq h]
   exact Dy n0 (oi_r n hn h _ rfl _ hsz hr) hG
theorem oi_m(n:Nat)(h0:0<n)(hn:n<1000000000000000001)(ds:List Nat)(hsz:(Aa ds).size<1099511627776)(hrec: ∀n0,5≤n0→FT 75 #[.int .i64 (n:Int)] n0 [] (.string (Aa ds)) [] []):CT 75 #[(.int .i64 (-(n:Int)))] (Ac 5 []) (.string ((bts [45])++(Aa ds))) (Ac 5 []):=
 sF (sc:=[(8,.op (.rwB true)),(5,.op (.rwI (n:Int))),(0,.call [] (.string (Aa ds)) [] []),(0,.op (.cat ((bts [45])++(Aa ds)))),(3,.stay)]) kr (aI (dT (p:=(-(n:Int))<(0:Int))) (aI (Am (a:=((0:Int)-(-(n:Int)))) (r:=(n:Int))) (aI (hrec 5 om) (aI (show ((((bts [45]).size+(Aa ds).size:Nat)):Int)≤9223372036854775807∧(bts [45])++(Aa ds)=((bts [45])++(Aa ds)) from⟨by rw[show (Seg.bts [45]).size=1 from rfl];omega,rfl⟩) tt)))) (Gets.refl _)
theorem oi_i(z:Int)(n0:Nat)(hG:5≤n0)(hz:z.natAbs<1000000000000000001):FT 75 #[.int .i64 z] n0 [] (.string (Ab z)) [] []:=by
 rcases Dh z with⟨m,rfl,hm⟩|⟨m,h0,rfl,hm⟩
 ·exact oi_c m n0 hG om
 ·have hr: ∀n0,5≤n0→FT 75 #[.int .i64 ((m:Nat):Int)] n0 [] (.string (Aa (Ae m))) [] []:=fun n0 hG=>by
   have:=oi_c m n0 hG om
   rw[Cj]at this
   exact this
  have hsz:(Aa (Ae m)).size<1099511627776:=by
   rw[Ad]
   have h1:Es m≤19:=Tx 19 _ om
   have:=Ew h1 de
   omega
  rw[Dm h0,←Sc]
  exact Dy n0 (oi_m m h0 om _ hsz hr) hG
end Go.Proofs.YtjbflfbhfnkmlaaGreatDoor
