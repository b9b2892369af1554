import Derived.Test.YtldoiilgfcpipaaGreatDoorPText
import Derived.Test.YtldoiilgfcpipaaGreatDoorK
import Derived.Test.YtldoiilgfcpipaaGreatDoorPCnt
set_option linter.unusedVariables false
set_option linter.unusedSimpArgs false
set_option maxRecDepth 100000
namespace Go.Proofs.YtldoiilgfcpipaaGreatDoor
open Go Go.AE Seg
noncomputable section
abbrev Sg(ds:List Nat):Value:=.tuple #[bF,(.string (Aa ds))]
abbrev z_756_1(ds:List Nat):AS:=(Cg 127 #[(.string (Aa ds)),(lI 10)] 5 [])
abbrev z_756_2(ds:List Nat):Value:=.tuple #[bT,(.string (Aa ds))]
abbrev z_756_3(d:Nat):Value:=nB ((UInt8.ofNat (48+d)).toNat)
end
theorem do_(q:Nat)(hq:q<10):CT 167 #[(nR (48+q))] (Ag 5 []) (nI q) (Ag 5 []):=
 sF (sc:=[(15,.op (.rwB false)),(11,.op (.rwB true)),(2,.op (.rwB true)),(9,.op (.rwI (q:Int))),(0,.op (.rwI (q:Int))),(3,.stay)]) kr (aI (dF (p:=(97:Int)≤(((48+q):Nat):Int))) (aI (dT (p:=(48:Int)≤(((48+q):Nat):Int))) (aI (dT (p:=(((48+q):Nat):Int)≤(57:Int))) (aI (wI32 (a:=((((48+q):Nat):Int)-(48:Int))) (r:=(q:Int))) (aI (Ao (a:=(q:Int)) (r:=(q:Int))) tt))))) (Gets.refl _)
theorem do_c(n0:Nat)(q:Nat)(hG:5≤n0)(hq:q<10):FT 167 #[(nR (48+q))] n0 [] (nI q) [] []:=
 Lv n0 (do_ q hq) hG
theorem ne_empty{ds:List Nat}(h:0<ds.length):((Aa ds).toList==(Seg.bts []).toList)=false:=by
 rw[ByteArray.toList_eq,ByteArray.toList_eq]
 cases ds with
 |nil=>simp at h
 |cons d ds=>rfl
theorem byte_zero{d:Nat}(h0:d=0):((((UInt8.ofNat (48+d)).toNat:Nat):Int)==(48:Int))=true:=by subst h0;rfl
theorem byte_ne{d:Nat}(h:d<10)(h0:d≠0):((((UInt8.ofNat (48+d)).toNat:Nat):Int)==(48:Int))=false:=by
 rw[Rh h,beq_eq_false_iff_ne];omega
noncomputable def wfp_h_f(ds:List Nat)(d p:Nat)(j:List Value):Frame:=(Fr 127 ([(.string (Aa ds)),(lI 10),uu,uu,(J j 0),bF,(.string (Aa ds)),uu]++(jj j 1 4 ([bF,(J j 5),(J j 6),bF,bF,(J j 7),(J j 8),bF,bF]++(uj 6 ([bF,bF,(J j 9),(pt 5)]++(jj j 10 7 [])))))) [.code (cd Tryz.f127 [1,1,1,0,1,0,0]),.inLoop (cd Tryz.f127 [1,1,1,0,1,0,0]),.inBlock 0,.code (cd Tryz.f127 [1,1,1,1])])
noncomputable def wfp_h_o(ds:List Nat)(d p:Nat):List (Nat×AObj):=[(5,(.iter (Aa ds) p))]
noncomputable def wfp_h(ds:List Nat)(d p:Nat)(j:List Value):AS:=⟨wfp_h_f ds d p j,[],Ag 6 (wfp_h_o ds d p)⟩
theorem wfp_in(ds:List Nat)(d:Nat)(hd:Dig ds)(h0:0<ds.length)(h1:d<10)(h2:d≠0)(hx:(Aa ds)[0]? =some (UInt8.ofNat (48+d))):GT (z_756_1 ds) (wfp_h ds d 0 [bF,undef,(Sg ds),(.string (Aa ds)),(Sg ds),(.string (Aa ds)),(.string (Aa ds)),(.string (Aa ds)),(z_756_3 d),(.string (Aa ds)),undef,undef,undef,undef,undef,undef,undef]):=
 sR (sc:=[(7,.call [] (Sg ds) [] []),(10,.op (.rwB false)),(2,.op (.sidx (UInt8.ofNat (48+d)))),(0,.op (.rwB false)),(20,.stay)]) kr (aI (so_pc 5 ds om hd h0) (aI (show ((Aa ds).toList==(bts []).toList)=false from (ne_empty h0)) (aI (show 0≤(0:Int)∧(Aa ds)[Int.toNat (0:Int)]? =some (UInt8.ofNat (48+d)) from⟨by omega,hx⟩) (aI (show ((((UInt8.ofNat (48+d)).toNat:Nat):Int)==(48:Int))=false from (byte_ne h1 h2)) tt))))
theorem wfp_r(ds:List Nat)(d p q:Nat)(j:List Value)(hq:q<10)(hp:p<(Aa ds).size)(he:Utf8.decode (Aa ds) p=(48+q,1)):GT (wfp_h ds d p j) (wfp_h ds d (p+1) ([(J j 0),(nR (48+q))]++(jj j 2 8 [(.tuple #[bT,(nI p),(nR (48+q))]),bT,(nR (48+q)),(nR (48+q)),(nI q),(lI 10),bF]))):=
 sR (sc:=[(2,.op (.nxtC (48+q) 1 (p+1))),(14,.call [] (nI q) [] []),(1,.op (.rwB false)),(5,.stay)]) kr (aI (show p<(Aa ds).size∧Utf8.decode (Aa ds) p=((48+q),1)∧p+1=(p+1) from⟨hp,he,rfl⟩) (aI (do_c 6 q om hq) (aI (dF (p:=(q:Int)≥(10:Int))) tt)))
theorem wfp_o(ds:List Nat)(d p:Nat)(j:List Value)(hp:(Aa ds).size≤p)(hr:GT (z_756_1 ds) (wfp_h ds d p j)):CT 127 #[(.string (Aa ds)),(lI 10)] (Ag 5 []) bT (Ag 6 []):=
 sF (sc:=[(2,.op (.nxtE)),(10,.stay)]) kr (aI (show ¬p<(Aa ds).size from om) tt) hr
theorem wfp_loop{ds:List Nat}{d:Nat}(hd:Dig ds): ∀(k p:Nat) (j:List Value),k=ds.length-p→p≤ds.length→
  GT (Cg 127 #[(.string (Aa ds)),(lI 10)] 5 []) (wfp_h ds d p j)→CT 127 #[(.string (Aa ds)),(lI 10)] (Ag 5 []) bT (Ag 6 []):=by
 intro k
 induction k with
 |zero=>
  intro p j hk hp hr
  exact wfp_o ds d p j (by rw[Af];omega) hr
 |succ k ih=>
  intro p j hk hp hr
  have r:=wfp_r ds d p (ds.getD p 0) j (hd.get p) (by rw[Af];omega) (Kj hd om)
  exact ih (p+1) _ om om (hr.trans r)
theorem wfpc(n0:Nat)(ds:List Nat)(hG:5≤n0)(hd:Dig ds)(h0:0<ds.length)(h1:ds.getD 0 0≠0):FT 127 #[(.string (Aa ds)),(lI 10)] n0 [] bT [] []:=
 Lv n0 (wfp_loop hd _ _ _ rfl (Nat.zero_le _) (wfp_in ds _ hd h0 (hd.get 0) h1 (Hb h0))) hG
noncomputable def wfm_h_f(ds:List Nat)(d p:Nat)(j:List Value):Frame:=(Fr 127 ([(.string (By ds)),(lI 10),uu,uu,(J j 0),bT,(.string (Aa ds)),uu]++(jj j 1 4 ([bT,(J j 5),(J j 6),bF,bF,(J j 7),(J j 8),bF,bF]++(uj 6 ([bF,bF,(J j 9),(pt 5)]++(jj j 10 7 [])))))) [.code (cd Tryz.f127 [1,1,1,0,1,0,0]),.inLoop (cd Tryz.f127 [1,1,1,0,1,0,0]),.inBlock 0,.code (cd Tryz.f127 [1,1,1,1])])
noncomputable def wfm_h_o(ds:List Nat)(d p:Nat):List (Nat×AObj):=[(5,(.iter (Aa ds) p))]
noncomputable def wfm_h(ds:List Nat)(d p:Nat)(j:List Value):AS:=⟨wfm_h_f ds d p j,[],Ag 6 (wfm_h_o ds d p)⟩
theorem wfm_in(ds:List Nat)(d:Nat)(hd:Dig ds)(h0:0<ds.length)(h1:d<10)(h2:d≠0)(hx:(Aa ds)[0]? =some (UInt8.ofNat (48+d))):GT (Cg 127 #[(.string (By ds)),(lI 10)] 5 []) (wfm_h ds d 0 [bF,undef,(z_756_2 ds),(.string (By ds)),(z_756_2 ds),(.string (Aa ds)),(.string (Aa ds)),(.string (Aa ds)),(z_756_3 d),(.string (Aa ds)),undef,undef,undef,undef,undef,undef,undef]):=
 sR (sc:=[(7,.call [] (z_756_2 ds) [] []),(10,.op (.rwB false)),(2,.op (.sidx (UInt8.ofNat (48+d)))),(0,.op (.rwB false)),(20,.stay)]) kr (aI (so_mc 5 ds om) (aI (show ((Aa ds).toList==(bts []).toList)=false from (ne_empty h0)) (aI (show 0≤(0:Int)∧(Aa ds)[Int.toNat (0:Int)]? =some (UInt8.ofNat (48+d)) from⟨by omega,hx⟩) (aI (show ((((UInt8.ofNat (48+d)).toNat:Nat):Int)==(48:Int))=false from (byte_ne h1 h2)) tt))))
theorem wfm_r(ds:List Nat)(d p q:Nat)(j:List Value)(hq:q<10)(hp:p<(Aa ds).size)(he:Utf8.decode (Aa ds) p=(48+q,1)):GT (wfm_h ds d p j) (wfm_h ds d (p+1) ([(J j 0),(nR (48+q))]++(jj j 2 8 [(.tuple #[bT,(nI p),(nR (48+q))]),bT,(nR (48+q)),(nR (48+q)),(nI q),(lI 10),bF]))):=
 sR (sc:=[(2,.op (.nxtC (48+q) 1 (p+1))),(14,.call [] (nI q) [] []),(1,.op (.rwB false)),(5,.stay)]) kr (aI (show p<(Aa ds).size∧Utf8.decode (Aa ds) p=((48+q),1)∧p+1=(p+1) from⟨hp,he,rfl⟩) (aI (do_c 6 q om hq) (aI (dF (p:=(q:Int)≥(10:Int))) tt)))
theorem wfm_o(ds:List Nat)(d p:Nat)(j:List Value)(hp:(Aa ds).size≤p)(hr:GT (Cg 127 #[(.string (By ds)),(lI 10)] 5 []) (wfm_h ds d p j)):CT 127 #[(.string (By ds)),(lI 10)] (Ag 5 []) bT (Ag 6 []):=
 sF (sc:=[(2,.op (.nxtE)),(10,.stay)]) kr (aI (show ¬p<(Aa ds).size from om) tt) hr
theorem wfm_loop{ds:List Nat}{d:Nat}(hd:Dig ds): ∀(k p:Nat) (j:List Value),k=ds.length-p→p≤ds.length→
  GT (Cg 127 #[(.string (By ds)),(lI 10)] 5 []) (wfm_h ds d p j)→CT 127 #[(.string (By ds)),(lI 10)] (Ag 5 []) bT (Ag 6 []):=by
 intro k
 induction k with
 |zero=>
  intro p j hk hp hr
  exact wfm_o ds d p j (by rw[Af];omega) hr
 |succ k ih=>
  intro p j hk hp hr
  have r:=wfm_r ds d p (ds.getD p 0) j (hd.get p) (by rw[Af];omega) (Kj hd om)
  exact ih (p+1) _ om om (hr.trans r)
theorem wfmc(n0:Nat)(ds:List Nat)(hG:5≤n0)(hd:Dig ds)(h0:0<ds.length)(h1:ds.getD 0 0≠0):FT 127 #[(.string (By ds)),(lI 10)] n0 [] bT [] []:=
 Lv n0 (wfm_loop hd _ _ _ rfl (Nat.zero_le _) (wfm_in ds _ hd h0 (hd.get 0) h1 (Hb h0))) hG
noncomputable def wfz_h_f(ds:List Nat)(d p:Nat)(j:List Value):Frame:=(Fr 127 ([(.string (Aa ds)),(lI 10),uu,uu,(J j 0),bF,(.string (Aa ds)),uu]++(jj j 1 4 ([bF,(J j 5),(J j 6),bF,bF,(J j 7),(J j 8),bT,bT,bF,bF,bF,(J j 9),bF,bF,bF,bF,(J j 10),(pt 5)]++(jj j 11 7 [])))) [.code (cd Tryz.f127 [1,1,1,0,1,0,0]),.inLoop (cd Tryz.f127 [1,1,1,0,1,0,0]),.inBlock 0,.code (cd Tryz.f127 [1,1,1,1])])
noncomputable def wfz_h_o(ds:List Nat)(d p:Nat):List (Nat×AObj):=[(5,(.iter (Aa ds) p))]
noncomputable def wfz_h(ds:List Nat)(d p:Nat)(j:List Value):AS:=⟨wfz_h_f ds d p j,[],Ag 6 (wfz_h_o ds d p)⟩
theorem wfz_in(ds:List Nat)(d:Nat)(hd:Dig ds)(h0:0<ds.length)(h1:d<10)(h2:d=0)(hz:(!((Aa ds).toList==(Seg.bts [48]).toList))=false)(hx:(Aa ds)[0]? =some (UInt8.ofNat (48+d))):GT (z_756_1 ds) (wfz_h ds d 0 [bF,undef,(Sg ds),(.string (Aa ds)),(Sg ds),(.string (Aa ds)),(.string (Aa ds)),(.string (Aa ds)),(z_756_3 d),(.string (Aa ds)),(.string (Aa ds)),undef,undef,undef,undef,undef,undef,undef]):=
 sR (sc:=[(7,.call [] (Sg ds) [] []),(10,.op (.rwB false)),(2,.op (.sidx (UInt8.ofNat (48+d)))),(0,.op (.rwB true)),(16,.op (.rwB false)),(14,.stay)]) kr (aI (so_pc 5 ds om hd h0) (aI (show ((Aa ds).toList==(bts []).toList)=false from (ne_empty h0)) (aI (show 0≤(0:Int)∧(Aa ds)[Int.toNat (0:Int)]? =some (UInt8.ofNat (48+d)) from⟨by omega,hx⟩) (aI (show ((((UInt8.ofNat (48+d)).toNat:Nat):Int)==(48:Int))=true from (byte_zero h2)) (aI hz tt)))))
theorem wfz_r(ds:List Nat)(d p q:Nat)(j:List Value)(hq:q<10)(hp:p<(Aa ds).size)(he:Utf8.decode (Aa ds) p=(48+q,1)):GT (wfz_h ds d p j) (wfz_h ds d (p+1) ([(J j 0),(nR (48+q))]++(jj j 2 9 [(.tuple #[bT,(nI p),(nR (48+q))]),bT,(nR (48+q)),(nR (48+q)),(nI q),(lI 10),bF]))):=
 sR (sc:=[(2,.op (.nxtC (48+q) 1 (p+1))),(14,.call [] (nI q) [] []),(1,.op (.rwB false)),(5,.stay)]) kr (aI (show p<(Aa ds).size∧Utf8.decode (Aa ds) p=((48+q),1)∧p+1=(p+1) from⟨hp,he,rfl⟩) (aI (do_c 6 q om hq) (aI (dF (p:=(q:Int)≥(10:Int))) tt)))
theorem wfz_o(ds:List Nat)(d p:Nat)(j:List Value)(hp:(Aa ds).size≤p)(hr:GT (z_756_1 ds) (wfz_h ds d p j)):CT 127 #[(.string (Aa ds)),(lI 10)] (Ag 5 []) bT (Ag 6 []):=
 sF (sc:=[(2,.op (.nxtE)),(10,.stay)]) kr (aI (show ¬p<(Aa ds).size from om) tt) hr
theorem wfz_loop{ds:List Nat}{d:Nat}(hd:Dig ds): ∀(k p:Nat) (j:List Value),k=ds.length-p→p≤ds.length→
  GT (Cg 127 #[(.string (Aa ds)),(lI 10)] 5 []) (wfz_h ds d p j)→CT 127 #[(.string (Aa ds)),(lI 10)] (Ag 5 []) bT (Ag 6 []):=by
 intro k
 induction k with
 |zero=>
  intro p j hk hp hr
  exact wfz_o ds d p j (by rw[Af];omega) hr
 |succ k ih=>
  intro p j hk hp hr
  have r:=wfz_r ds d p (ds.getD p 0) j (hd.get p) (by rw[Af];omega) (Kj hd om)
  exact ih (p+1) _ om om (hr.trans r)
theorem wfzc(n0:Nat)(ds:List Nat)(hG:5≤n0)(hd:Dig ds)(h0:0<ds.length)(h1:ds=[0]):FT 127 #[(.string (Aa ds)),(lI 10)] n0 [] bT [] []:=
 Lv n0 (wfz_loop hd _ _ _ rfl (Nat.zero_le _) (wfz_in ds _ hd h0 (hd.get 0) (by rw[h1];rfl) (by rw[h1];decide+kernel) (Hb h0))) hG
theorem kips(ds:List Nat)(hd:Dig ds)(h0:0<ds.length)(h1:ds.getD 0 0≠0)(hs:(Aa ds).size≤18):CT 145 #[(.string (Aa ds))] (Ag 5 []) (lI 2) (Ag 5 []):=
 sF (sc:=[(8,.call [] bT [] []),(7,.call [] (Sg ds) [] []),(12,.op (.rwB false)),(7,.op (.rwB false)),(10,.stay)]) kr (aI (wfpc 5 ds om hd h0 h1) (aI (so_pc 5 ds om hd h0) (aI (dF (p:=(((Aa ds).size:Nat):Int)>(400:Int))) (aI (dF (p:=(((Aa ds).size:Nat):Int)>(18:Int))) tt)))) (Gets.refl _)
theorem kipsc(n0:Nat)(ds:List Nat)(hG:5≤n0)(hd:Dig ds)(h0:0<ds.length)(h1:ds.getD 0 0≠0)(hs:(Aa ds).size≤18):FT 145 #[(.string (Aa ds))] n0 [] (lI 2) [] []:=
 Lv n0 (kips ds hd h0 h1 hs) hG
theorem kims(ds:List Nat)(hd:Dig ds)(h0:0<ds.length)(h1:ds.getD 0 0≠0)(hs:(Aa ds).size≤18):CT 145 #[(.string (By ds))] (Ag 5 []) (lI 2) (Ag 5 []):=
 sF (sc:=[(8,.call [] bT [] []),(7,.call [] (z_756_2 ds) [] []),(12,.op (.rwB false)),(7,.op (.rwB false)),(10,.stay)]) kr (aI (wfmc 5 ds om hd h0 h1) (aI (so_mc 5 ds om) (aI (dF (p:=(((Aa ds).size:Nat):Int)>(400:Int))) (aI (dF (p:=(((Aa ds).size:Nat):Int)>(18:Int))) tt)))) (Gets.refl _)
theorem kimsc(n0:Nat)(ds:List Nat)(hG:5≤n0)(hd:Dig ds)(h0:0<ds.length)(h1:ds.getD 0 0≠0)(hs:(Aa ds).size≤18):FT 145 #[(.string (By ds))] n0 [] (lI 2) [] []:=
 Lv n0 (kims ds hd h0 h1 hs) hG
theorem kizs(ds:List Nat)(hd:Dig ds)(h0:0<ds.length)(h1:ds=[0])(hs:(Aa ds).size≤18):CT 145 #[(.string (Aa ds))] (Ag 5 []) (lI 2) (Ag 5 []):=
 sF (sc:=[(8,.call [] bT [] []),(7,.call [] (Sg ds) [] []),(12,.op (.rwB false)),(7,.op (.rwB false)),(10,.stay)]) kr (aI (wfzc 5 ds om hd h0 h1) (aI (so_pc 5 ds om hd h0) (aI (dF (p:=(((Aa ds).size:Nat):Int)>(400:Int))) (aI (dF (p:=(((Aa ds).size:Nat):Int)>(18:Int))) tt)))) (Gets.refl _)
theorem kizsc(n0:Nat)(ds:List Nat)(hG:5≤n0)(hd:Dig ds)(h0:0<ds.length)(h1:ds=[0])(hs:(Aa ds).size≤18):FT 145 #[(.string (Aa ds))] n0 [] (lI 2) [] []:=
 Lv n0 (kizs ds hd h0 h1 hs) hG
noncomputable section
abbrev z_35d_0(a q i k e n c:Nat)(j:List Value):List Value:=([(nW (a+q)),(nI i),(sl 6 k e),(nI k),bF,bF,(nW q),bT,bT,(nI i),(nI (i+1)),(sl 5 n c),(nI i),(pp 5 i),(nW a),(nW q),(nW (a+q)),(nI i),(sl 6 k e),(nI k),bF]++(jj j 21 6 [(nW (a+q)),(nW ((a+q)/1000000000)),(sl 5 n c),(nI i),(nW (a+q)),(nW ((a+q)%1000000000)),(pp 5 i)]))
end
noncomputable def gain_h_f(xs ys:List Nat)(n c k e:Nat)(q i:Nat)(j:List Value):Frame:=(Fr 189 ([(sl 5 n c),(sl 6 k e),uu,uu,(nW q),(nI i)]++(jj j 0 34 [])) [.code (cd Tryz.f189 [1,1,0,0]),.inLoop (cd Tryz.f189 [1,1,0,0]),.inBlock 0])
noncomputable def gain_h_o(xs ys:List Nat)(n c k e:Nat)(q i:Nat):List (Nat×AObj):=[(5,(cU xs)),(6,(cU ys))]
noncomputable def Ut(xs ys:List Nat)(n c k e:Nat)(q i:Nat)(j:List Value):AS:=⟨gain_h_f xs ys n c k e q i j,[],Ag 7 (gain_h_o xs ys n c k e q i)⟩
theorem gain_in(xs ys:List Nat)(n c k e:Nat):GT (Cg 189 #[(sl 5 n c),(sl 6 k e)] 7 [(5,(cU xs)),(6,(cU ys))]) (Ut xs ys n c k e 0 0 [undef,undef,undef,undef,undef,undef,undef,undef,undef,undef,undef,undef,undef,undef,undef,undef,undef,undef,undef,undef,undef,undef,undef,undef,undef,undef,undef,undef,undef,undef,undef,undef,undef,undef]):=
 sR (sc:=[(10,.stay)]) kr tt
theorem gain_r1(xs ys:List Nat)(n c k e q i a b:Nat)(j:List Value)(hi:i<k)(hn:i<n)(hc:n≤xs.length)(hm:n<9223372036854775807)(hkm:k<9223372036854775807)(hb:b<1000000000)(ha:a<1000000000)(hq:q≤1)(hx:(ns .u32 xs)[i]? =some (nW a))(hy:(ns .u32 ys)[i]? =some (nW b)):GT (Ut xs ys n c k e q i j) (Ut (xs.set i (((a+q)+b)%1000000000)) ys n c k e (((a+q)+b)/1000000000) (i+1) [(nW ((a+q)+b)),(nI i),(sl 6 k e),(nI k),bT,bT,undef,undef,bT,(nI i),(nI (i+1)),(sl 5 n c),(nI i),(pp 5 i),(nW a),(nW q),(nW (a+q)),(nI i),(sl 6 k e),(nI k),bT,(nW (a+q)),(sl 6 k e),(nI i),(pp 6 i),(nW b),(nW ((a+q)+b)),(nW ((a+q)+b)),(nW (((a+q)+b)/1000000000)),(sl 5 n c),(nI i),(nW ((a+q)+b)),(nW (((a+q)+b)%1000000000)),(pp 5 i)]):=
 sR (sc:=[(6,.op (.rwB true)),(13,.op (.idx i)),(0,.op (.ld (nW a))),(1,.op (.rwI (((a+q):Nat):Int))),(8,.op (.rwB true)),(6,.op (.idx i)),(0,.op (.ld (nW b))),(0,.op (.rwI ((((a+q)+b):Nat):Int))),(5,.op (.rwI (((((a+q)+b)/1000000000):Nat):Int))),(6,.op (.rwI (((((a+q)+b)%1000000000):Nat):Int))),(0,.op (.idx i)),(0,.op (.st (ns .u32 (xs.set i (((a+q)+b)%1000000000))))),(4,.op (.rwI (((i+1):Nat):Int))),(3,.stay)]) kr (aI (dT (p:=(i:Int)<(k:Int))) (aI (ix (i:Int) (n:Int) 0 1 i) (aI hx (aI (Bt (a:=((a:Int)+(q:Int))) (r:=(((a+q):Nat):Int))) (aI (dT (p:=(i:Int)<(k:Int))) (aI (ix (i:Int) (k:Int) 0 1 i) (aI hy (aI (Bt (a:=((((a+q):Nat):Int)+(b:Int))) (r:=((((a+q)+b):Nat):Int))) (aI (show IntKind.wrap .u32 (Int.tdiv ((((a+q)+b):Nat):Int) (1000000000:Int))=(((((a+q)+b)/1000000000):Nat):Int) from (by rw[Int.tdiv_eq_ediv_of_nonneg om,Bq om om]<;>omega)) (aI (show (Int.tmod ((((a+q)+b):Nat):Int) (1000000000:Int))=(((((a+q)+b)%1000000000):Nat):Int) from (by rw[Int.tmod_eq_emod_of_nonneg om]<;>omega)) (aI (ix (i:Int) (n:Int) 0 1 i) (aI (show i+1≤(ns .u32 xs).length∧Bs (ns .u32 xs) i [(nW (((a+q)+b)%1000000000))]=(ns .u32 (xs.set i (((a+q)+b)%1000000000))) from (Dp)) (aI (Ao (a:=((i:Int)+(1:Int))) (r:=(((i+1):Nat):Int))) tt)))))))))))))
theorem gain_r2(xs ys:List Nat)(n c k e q i a:Nat)(j:List Value)(hi:k≤i)(hn:i<n)(hc:n≤xs.length)(hm:n<9223372036854775807)(hq:q=1)(ha:a<1000000000)(hx:(ns .u32 xs)[i]? =some (nW a)):GT (Ut xs ys n c k e q i j) (Ut (xs.set i ((a+q)%1000000000)) ys n c k e ((a+q)/1000000000) (i+1) (z_35d_0 a q i k e n c j)):=
 sR (sc:=[(6,.op (.rwB false)),(2,.op (.rwB true)),(10,.op (.idx i)),(0,.op (.ld (nW a))),(1,.op (.rwI (((a+q):Nat):Int))),(8,.op (.rwB false)),(6,.op (.rwI ((((a+q)/1000000000):Nat):Int))),(6,.op (.rwI ((((a+q)%1000000000):Nat):Int))),(0,.op (.idx i)),(0,.op (.st (ns .u32 (xs.set i ((a+q)%1000000000))))),(4,.op (.rwI (((i+1):Nat):Int))),(3,.stay)]) kr (aI (dF (p:=(i:Int)<(k:Int))) (aI (dT (p:=(q:Int)>(0:Int))) (aI (ix (i:Int) (n:Int) 0 1 i) (aI hx (aI (Bt (a:=((a:Int)+(q:Int))) (r:=(((a+q):Nat):Int))) (aI (dF (p:=(i:Int)<(k:Int))) (aI (show IntKind.wrap .u32 (Int.tdiv (((a+q):Nat):Int) (1000000000:Int))=((((a+q)/1000000000):Nat):Int) from (by rw[Int.tdiv_eq_ediv_of_nonneg om,Bq om om]<;>omega)) (aI (show (Int.tmod (((a+q):Nat):Int) (1000000000:Int))=((((a+q)%1000000000):Nat):Int) from (by rw[Int.tmod_eq_emod_of_nonneg om]<;>omega)) (aI (ix (i:Int) (n:Int) 0 1 i) (aI (show i+1≤(ns .u32 xs).length∧Bs (ns .u32 xs) i [(nW ((a+q)%1000000000))]=(ns .u32 (xs.set i ((a+q)%1000000000))) from (Dp)) (aI (Ao (a:=((i:Int)+(1:Int))) (r:=(((i+1):Nat):Int))) tt)))))))))))
theorem gain_out(xs0 xs ys:List Nat)(n c k e q i:Nat)(j:List Value)(hi:k≤i)(hq:q=0)(hr:GT (Cg 189 #[(sl 5 n c),(sl 6 k e)] 7 [(5,(cU xs0)),(6,(cU ys))]) (Ut xs ys n c k e q i j)):CT 189 #[(sl 5 n c),(sl 6 k e)] (Ag 7 [(5,(cU xs0)),(6,(cU ys))]) undef (Ag 7 [(5,(cU xs)),(6,(cU ys))]):=
 sF (sc:=[(6,.op (.rwB false)),(2,.op (.rwB false)),(5,.stay)]) kr (aI (dF (p:=(i:Int)<(k:Int))) (aI (dF (p:=(q:Int)>(0:Int))) tt)) hr
theorem gain_loop{s0:AS}{ys:List Nat}{n k e T:Nat}(hly:Lim ys)(hk:k≤ys.length)(hkn:k≤n)(hn:n<9223372036854775807)(hT:T<1000000000^n):
  ∀(m:Nat) (xs:List Nat) (q i:Nat) (j:List Value),m=n-i→xs.length=n→Lim xs→i≤n→q≤1→val xs+q*1000000000^i+1000000000^i*val ((ys.take k).drop i)=T→
   GT s0 (Ut xs ys n n k e q i j)→ ∃zs i' j',k≤i'∧zs.length=n∧Lim zs∧val zs=T∧GT s0 (Ut zs ys n n k e 0 i' j'):=by
 intro m
 induction m with
 |zero=>
  intro xs q i j hm hx hl hi hq hv hr
  have hin:i=n:=by omega
  subst hin
  have hq0:q=0:=by
   rcases Nat.eq_zero_or_pos q with h|h
   ·exact h
   ·have:=Nat.mul_le_mul_right (1000000000^i) h
    omega
  subst hq0
  refine⟨xs,i,j,hkn,hx,hl,?_,hr⟩
  rw[List.drop_eq_nil_of_le (by rw[List.length_take];omega)]at hv
  exact Zf hv
 |succ m ih=>
  intro xs q i j hm hx hl hi hq hv hr
  have hP:1000000000^(i+1)=1000000000^i*1000000000:=Nat.pow_succ ..
  by_cases hik:i<k
  ·have ha:=hl.get i
   have hb:=hly.get i
   have r:=gain_r1 xs ys n n k e q i (xs.getD i 0) (ys.getD i 0) j hik om om hn om hb ha hq (Ar) (Ar)
   refine ih _ _ _ _ om (by simpa using hx) (hl.set (Nat.mod_lt _ de)) om om ?_ (hr.trans r)
   have h1:=val_set xs i ((xs.getD i 0+q+ys.getD i 0)%1000000000) om
   have h2:val ((ys.take k).drop i)=ys.getD i 0+1000000000*val ((ys.take k).drop (i+1)):=by
    rw[val_drop (by rw[List.length_take];omega),getD_take hik]
   rw[h2]at hv
   rw[hP]
   exact carry_step h1 hv
  ·by_cases hq1:q=1
   ·subst hq1
    have hin:i<n:=by
     rcases Nat.lt_or_ge i n with h|h
     ·exact h
     ·have:=Tp h
      omega
    have ha:=hl.get i
    have r:=gain_r2 xs ys n n k e 1 i (xs.getD i 0) j om hin om hn rfl ha (Ar)
    refine ih _ _ _ _ om (by simpa using hx) (hl.set (Nat.mod_lt _ de)) om om ?_ (hr.trans r)
    have h1:=val_set xs i ((xs.getD i 0+1)%1000000000) om
    rw[List.drop_eq_nil_of_le (by rw[List.length_take];omega)]at hv ⊢
    rw[hP]
    exact nil_add (carry_step0 h1 (nil_one hv))
   ·have hq0:q=0:=by omega
    subst hq0
    refine⟨xs,i,j,by omega,hx,hl,?_,hr⟩
    rw[List.drop_eq_nil_of_le (by rw[List.length_take];omega)]at hv
    exact Zf hv
theorem gain_c(n0 bx byy:Nat)(xs ys:List Nat)(k e:Nat)(hb:5≤bx∧bx<n0∧5≤byy∧byy<n0∧bx≠byy)(hlx:Lim xs)(hly:Lim ys)(hk:k≤ys.length)(hkn:k≤xs.length)(hn:xs.length<9223372036854775807)
  (hT:val xs+val (ys.take k)<1000000000^xs.length):
  ∃zs,zs.length=xs.length∧Lim zs∧val zs=val xs+val (ys.take k)∧
   FT 189 #[sl bx xs.length xs.length,sl byy k e] n0 [(bx,cU xs),(byy,cU ys)] undef
    [(bx,some (cU zs)),(byy,some (cU ys))] []:=by
 have r:=gain_in xs ys xs.length xs.length k e
 obtain⟨zs,i',j',h1,h2,h3,h4,h5⟩:=gain_loop (T:=val xs+val (ys.take k)) hly hk hkn hn hT _ xs 0 0 _ rfl rfl hlx om om sm r
 have S:=gain_out xs zs ys xs.length xs.length k e 0 i' j' h1 rfl h5
 refine⟨zs,h2,h3,h4,ff [bx,byy] [cU xs,cU ys] [cU zs,cU ys] [] [] n0 S (hnd:= ?_) (hb:= ?_) (fo:= ?_) (fp:= ?_)⟩
 ·simp[hb.2.2.2.2]
 ·simp;omega
 ·simp[Bb,Ab]
 ·simp[Bb,Ab]
theorem copied_o(xs:List Nat)(n c k:Nat)(hc:n≤xs.length)(hk:n≤k)(hm:k<70368744177664):CT 154 #[(sl 5 n c),(nI k)] (Ag 6 [(5,(cU xs))]) (sl 6 k k) (Ag 7 [(5,(cU xs)),(6,(cU (xs.take n++List.replicate (k-n) 0)))]):=
 sF (sc:=[(7,.op (.mks k k (ns .u32 (List.replicate k 0)))),(6,.op (.cpy n (ns .u32 (xs.take n++List.replicate (k-n) 0)))),(7,.stay)]) kr (aI (show (0≤(k:Int)∧(k:Int)≤(k:Int)∧((4:Nat):Int)*(k:Int)≤281474976710656∧(k:Int)≤9223372036854775807)∧Au (ns .u32 (List.replicate k 0))=true∧(madeCells (Value.cells (lW 0)) (Int.toNat (k:Int)*1)).toList=(ns .u32 (List.replicate k 0))∧Int.toNat (k:Int)=k∧Int.toNat (k:Int)=k from (by refine⟨⟨?_,?_,?_,?_⟩,Ab _ _,Qd _ _ _,?_,?_⟩<;>omega)) (aI (show 0+n≤(ns .u32 xs).length∧Nat.min n k=n∧0+n≤(ns .u32 (List.replicate k 0)).length∧(List.take n (List.take n (List.drop 0 (ns .u32 xs)))).all (·.oneCell')=true∧Bs (ns .u32 (List.replicate k 0)) 0 (List.take n (List.take n (List.drop 0 (ns .u32 xs))))=(ns .u32 (xs.take n++List.replicate (k-n) 0)) from (ns_cpy hc hk)) tt)) (Gets.refl _)
theorem Sy(n0 b:Nat)(xs:List Nat)(n c k:Nat)(hb:5≤b∧b<n0)(hc:n≤xs.length)(hk:n≤k)(hm:k<70368744177664):
  FT 154 #[sl b n c,.int .i64 (k:Nat)] n0 [(b,cU xs)] (sl n0 k k) [(b,some (cU xs))]
   [cU (xs.take n++List.replicate (k-n) 0)]:=
 ff [b] [cU xs] [cU xs] [6] [cU (xs.take n++List.replicate (k-n) 0)] n0 (copied_o xs n c k hc hk hm)
theorem plus_o(xs ys:List Nat)(n c k e:Nat)(hc:n≤xs.length)(hk:k≤ys.length)(hn:n<1099511627776)(hkm:k<1099511627776)(zs0:List Nat)(hz:zs0.length=max n k+1)(hc1:FT 189 #[(sl 7 ((max n k)+1) ((max n k)+1)),(sl 6 k e)] 8 [(7,(.cells (ns .u32 (xs.take n++List.replicate (((max n k)+1)-n) 0)) 121 none false)),(6,(cU ys))] undef [(7,some (cU zs0)),(6,some (cU ys))] []):CT 151 #[(sl 5 n c),(sl 6 k e)] (Ag 7 [(5,(cU xs)),(6,(cU ys))]) (sl 7 (top zs0 ((max n k)+1)) (top zs0 ((max n k)+1))) (Ag 8 [(5,(cU xs)),(6,(cU ys)),(7,(cU zs0))]):=
 sF (sc:=[(11,.op (.rwI (((max n k):Nat):Int))),(0,.op (.rwI ((((max n k)+1):Nat):Int))),(0,.call [5] (sl 7 ((max n k)+1) ((max n k)+1)) [(5,some (cU xs))] [(.cells (ns .u32 (xs.take n++List.replicate (((max n k)+1)-n) 0)) 121 none false)]),(6,.call [7,6] uu [(7,some (cU zs0)),(6,some (cU ys))] []),(4,.call [7] (sl 7 (top zs0 ((max n k)+1)) (top zs0 ((max n k)+1))) [(7,some (cU zs0))] []),(3,.stay)]) kr (aI (show (if (k:Int)>(n:Int) then (k:Int) else (n:Int))=(((max n k):Nat):Int) from om) (aI (Ao (a:=((((max n k):Nat):Int)+(1:Int))) (r:=((((max n k)+1):Nat):Int))) (aI (Sy 7 5 xs n c ((max n k)+1) om om om om) (aI hc1 (aI (So 8 7 zs0 ((max n k)+1) ((max n k)+1) om (by rw[hz];exact Nat.le_refl _) om om) tt))))) (Gets.refl _)
theorem plus_c(n0 bx byy:Nat)(xs ys:List Nat)(n c k e:Nat)(hb:5≤bx∧bx<n0∧5≤byy∧byy<n0∧bx≠byy)(hlx:Lim xs)(hly:Lim ys)(hc:n≤xs.length)(hk:k≤ys.length)(hn:n<1099511627776)(hkm:k<1099511627776):
  ∃zs t,Lim zs∧t≤zs.length∧t≤max n k+1∧(0<t→zs.getD (t-1) 0≠0)∧val (zs.take t)=val (xs.take n)+val (ys.take k)∧
   FT 151 #[sl bx n c,sl byy k e] n0 [(bx,cU xs),(byy,cU ys)] (sl n0 t t)
    [(bx,some (cU xs)),(byy,some (cU ys))] [cU zs]:=by
 have hl1:(xs.take n++List.replicate (max n k+1-n) 0).length=max n k+1:=by rw[List.length_append,List.length_take,List.length_replicate];omega
 have hv1:val (xs.take n++List.replicate (max n k+1-n) 0)=val (xs.take n):=by rw[val_append,val_replicate,Nat.mul_zero,Nat.add_zero]
 have hx1:=val_lt (hlx.take n)
 have hy1:=val_lt (hly.take k)
 have hx2:val (xs.take n)<1000000000^max n k:=Nat.lt_of_lt_of_le hx1 (Tp (by rw[List.length_take];omega))
 have hy2:val (ys.take k)<1000000000^max n k:=Nat.lt_of_lt_of_le hy1 (Tp (by rw[List.length_take];omega))
 obtain⟨zs,h1,h2,h3,h4⟩:=gain_c 8 7 6 (xs.take n++List.replicate (max n k+1-n) 0) ys k e om ((hlx.take n).append (Lim.replicate _)) hly hk (by rw[hl1];omega) (by rw[hl1];omega) (by rw[hl1,hv1];exact sum_lt hx2 hy2)
 rw[hl1]at h1 h4
 have S:=plus_o xs ys n c k e hc hk hn hkm zs h1 h4
 have htl:=top_le zs (max n k+1)
 refine⟨zs,top zs (max n k+1),h2,by rw[h1];exact htl,htl,top_pos zs _,?_,ff [bx,byy] [cU xs,cU ys] [cU xs,cU ys] [7] [cU zs] n0 S (hnd:= ?_) (hb:= ?_) (fo:= ?_) (fp:= ?_) (fq:= ?_)⟩
 ·rw[top_val,List.take_of_length_le (by rw[h1];exact Nat.le_refl _),h3,hv1]
 ·simp[hb.2.2.2.2]
 ·simp;omega
 ·simp[Bb,Ab]
 ·simp[Bb,Ab]
 ·simp[Bb,Ab,AObj.ro]
noncomputable section
abbrev Gs(i:Nat):Value:=pp 5 i
end
noncomputable def lose_h_f(xs ys:List Nat)(n c k e:Nat)(q i:Nat)(j:List Value):Frame:=(Fr 192 ([(sl 5 n c),(sl 6 k e),uu,uu,(nW q),(nI i)]++(jj j 0 41 [])) [.code (cd Tryz.f192 [1,1,0,0]),.inLoop (cd Tryz.f192 [1,1,0,0]),.inBlock 0])
noncomputable def lose_h_o(xs ys:List Nat)(n c k e:Nat)(q i:Nat):List (Nat×AObj):=[(5,(cU xs)),(6,(cU ys))]
noncomputable def Nv(xs ys:List Nat)(n c k e:Nat)(q i:Nat)(j:List Value):AS:=⟨lose_h_f xs ys n c k e q i j,[],Ag 7 (lose_h_o xs ys n c k e q i)⟩
theorem lose_in(xs ys:List Nat)(n c k e:Nat):GT (Cg 192 #[(sl 5 n c),(sl 6 k e)] 7 [(5,(cU xs)),(6,(cU ys))]) (Nv xs ys n c k e 0 0 [undef,undef,undef,undef,undef,undef,undef,undef,undef,undef,undef,undef,undef,undef,undef,undef,undef,undef,undef,undef,undef,undef,undef,undef,undef,undef,undef,undef,undef,undef,undef,undef,undef,undef,undef,undef,undef,undef,undef,undef,undef]):=
 sR (sc:=[(10,.stay)]) kr tt
theorem lose_t1(xs ys:List Nat)(n c k e q i a b v:Nat)(j:List Value)(hi:i<k)(hn:i<n)(hc:n≤xs.length)(hm:n<9223372036854775807)(hkm:k<9223372036854775807)(hb:b<1000000000)(ha:a<1000000000)(hq:q≤1)(hx:(ns .u32 xs)[i]? =some (nW a))(hy:(ns .u32 ys)[i]? =some (nW b))(hlt:a<q+b)(hv:v+(q+b)=a+1000000000):GT (Nv xs ys n c k e q i j) (Nv (xs.set i v) ys n c k e 1 (i+1) [(nW (q+b)),(nI i),(sl 6 k e),(nI k),bT,bT,undef,undef,bT,(nI i),(nI (i+1)),(nW q),(nI i),(sl 6 k e),(nI k),bT,(nW q),(sl 6 k e),(nI i),(pp 6 i),(nW b),(nW (q+b)),(sl 5 n c),(nI i),(Gs i),(nW a),(nW (q+b)),bT,(sl 5 n c),(nI i),(Gs i),(nW a),(nW (a+1000000000)),(Gs i),(sl 5 n c),(nI i),(Gs i),(nW (a+1000000000)),(nW (q+b)),(nW v),(Gs i)]):=
 sR (sc:=[(6,.op (.rwB true)),(20,.op (.rwB true)),(6,.op (.idx i)),(0,.op (.ld (nW b))),(0,.op (.rwI (((q+b):Nat):Int))),(11,.op (.idx i)),(0,.op (.ld (nW a))),(1,.op (.rwB true)),(9,.op (.idx i)),(0,.op (.ld (nW a))),(0,.op (.rwI (((a+1000000000):Nat):Int))),(0,.op (.idx i)),(0,.op (.st (ns .u32 (xs.set i (a+1000000000))))),(4,.op (.idx i)),(0,.op (.ld (nW (a+1000000000)))),(1,.op (.rwI (v:Int))),(0,.op (.idx i)),(0,.op (.st (ns .u32 (xs.set i v)))),(4,.op (.rwI (((i+1):Nat):Int))),(3,.stay)]) kr (aI (dT (p:=(i:Int)<(k:Int))) (aI (dT (p:=(i:Int)<(k:Int))) (aI (ix (i:Int) (k:Int) 0 1 i) (aI hy (aI (Bt (a:=((q:Int)+(b:Int))) (r:=(((q+b):Nat):Int))) (aI (ix (i:Int) (n:Int) 0 1 i) (aI hx (aI (dT (p:=(a:Int)<(((q+b):Nat):Int))) (aI (ix (i:Int) (n:Int) 0 1 i) (aI hx (aI (Bt (a:=((a:Int)+(1000000000:Int))) (r:=(((a+1000000000):Nat):Int))) (aI (ix (i:Int) (n:Int) 0 1 i) (aI (show i+1≤(ns .u32 xs).length∧Bs (ns .u32 xs) i [(nW (a+1000000000))]=(ns .u32 (xs.set i (a+1000000000))) from (Dp)) (aI (ix (i:Int) (n:Int) 0 1 i) (aI (show ((ns .u32 (xs.set i (a+1000000000))):List Value)[i]? =some (nW (a+1000000000)) from (Ub om)) (aI (Bt (a:=((((a+1000000000):Nat):Int)-(((q+b):Nat):Int))) (r:=(v:Int))) (aI (ix (i:Int) (n:Int) 0 1 i) (aI (show i+1≤(ns .u32 (xs.set i (a+1000000000))).length∧Bs (ns .u32 (xs.set i (a+1000000000))) i [(nW v)]=(ns .u32 (xs.set i v)) from (ns_set2 om)) (aI (Ao (a:=((i:Int)+(1:Int))) (r:=(((i+1):Nat):Int))) tt)))))))))))))))))))
theorem lose_f1(xs ys:List Nat)(n c k e q i a b v:Nat)(j:List Value)(hi:i<k)(hn:i<n)(hc:n≤xs.length)(hm:n<9223372036854775807)(hkm:k<9223372036854775807)(hb:b<1000000000)(ha:a<1000000000)(hq:q≤1)(hx:(ns .u32 xs)[i]? =some (nW a))(hy:(ns .u32 ys)[i]? =some (nW b))(hlt:q+b≤a)(hv:v+(q+b)=a):GT (Nv xs ys n c k e q i j) (Nv (xs.set i v) ys n c k e 0 (i+1) ([(nW (q+b)),(nI i),(sl 6 k e),(nI k),bT,bT,undef,undef,bT,(nI i),(nI (i+1)),(nW q),(nI i),(sl 6 k e),(nI k),bT,(nW q),(sl 6 k e),(nI i),(pp 6 i),(nW b),(nW (q+b)),(sl 5 n c),(nI i),(Gs i),(nW a),(nW (q+b)),bF]++(jj j 28 6 [(sl 5 n c),(nI i),(Gs i),(nW a),(nW (q+b)),(nW v),(Gs i)]))):=
 sR (sc:=[(6,.op (.rwB true)),(20,.op (.rwB true)),(6,.op (.idx i)),(0,.op (.ld (nW b))),(0,.op (.rwI (((q+b):Nat):Int))),(11,.op (.idx i)),(0,.op (.ld (nW a))),(1,.op (.rwB false)),(6,.op (.idx i)),(0,.op (.ld (nW a))),(1,.op (.rwI (v:Int))),(0,.op (.idx i)),(0,.op (.st (ns .u32 (xs.set i v)))),(4,.op (.rwI (((i+1):Nat):Int))),(3,.stay)]) kr (aI (dT (p:=(i:Int)<(k:Int))) (aI (dT (p:=(i:Int)<(k:Int))) (aI (ix (i:Int) (k:Int) 0 1 i) (aI hy (aI (Bt (a:=((q:Int)+(b:Int))) (r:=(((q+b):Nat):Int))) (aI (ix (i:Int) (n:Int) 0 1 i) (aI hx (aI (dF (p:=(a:Int)<(((q+b):Nat):Int))) (aI (ix (i:Int) (n:Int) 0 1 i) (aI hx (aI (Bt (a:=((a:Int)-(((q+b):Nat):Int))) (r:=(v:Int))) (aI (ix (i:Int) (n:Int) 0 1 i) (aI (show i+1≤(ns .u32 xs).length∧Bs (ns .u32 xs) i [(nW v)]=(ns .u32 (xs.set i v)) from (Dp)) (aI (Ao (a:=((i:Int)+(1:Int))) (r:=(((i+1):Nat):Int))) tt))))))))))))))
theorem lose_t2(xs ys:List Nat)(n c k e q i a v:Nat)(j:List Value)(hi:k≤i)(hn:i<n)(hc:n≤xs.length)(hm:n<9223372036854775807)(hq:q=1)(ha:a<1000000000)(hx:(ns .u32 xs)[i]? =some (nW a))(hlt:a<q)(hv:v+q=a+1000000000):GT (Nv xs ys n c k e q i j) (Nv (xs.set i v) ys n c k e 1 (i+1) ([(nW q),(nI i),(sl 6 k e),(nI k),bF,bF,(nW q),bT,bT,(nI i),(nI (i+1)),(nW q),(nI i),(sl 6 k e),(nI k),bF]++(jj j 16 6 [(sl 5 n c),(nI i),(Gs i),(nW a),(nW q),bT,(sl 5 n c),(nI i),(Gs i),(nW a),(nW (a+1000000000)),(Gs i),(sl 5 n c),(nI i),(Gs i),(nW (a+1000000000)),(nW q),(nW v),(Gs i)]))):=
 sR (sc:=[(6,.op (.rwB false)),(2,.op (.rwB true)),(17,.op (.rwB false)),(12,.op (.idx i)),(0,.op (.ld (nW a))),(1,.op (.rwB true)),(9,.op (.idx i)),(0,.op (.ld (nW a))),(0,.op (.rwI (((a+1000000000):Nat):Int))),(0,.op (.idx i)),(0,.op (.st (ns .u32 (xs.set i (a+1000000000))))),(4,.op (.idx i)),(0,.op (.ld (nW (a+1000000000)))),(1,.op (.rwI (v:Int))),(0,.op (.idx i)),(0,.op (.st (ns .u32 (xs.set i v)))),(4,.op (.rwI (((i+1):Nat):Int))),(3,.stay)]) kr (aI (dF (p:=(i:Int)<(k:Int))) (aI (dT (p:=(q:Int)>(0:Int))) (aI (dF (p:=(i:Int)<(k:Int))) (aI (ix (i:Int) (n:Int) 0 1 i) (aI hx (aI (dT (p:=(a:Int)<(q:Int))) (aI (ix (i:Int) (n:Int) 0 1 i) (aI hx (aI (Bt (a:=((a:Int)+(1000000000:Int))) (r:=(((a+1000000000):Nat):Int))) (aI (ix (i:Int) (n:Int) 0 1 i) (aI (show i+1≤(ns .u32 xs).length∧Bs (ns .u32 xs) i [(nW (a+1000000000))]=(ns .u32 (xs.set i (a+1000000000))) from (Dp)) (aI (ix (i:Int) (n:Int) 0 1 i) (aI (show ((ns .u32 (xs.set i (a+1000000000))):List Value)[i]? =some (nW (a+1000000000)) from (Ub om)) (aI (Bt (a:=((((a+1000000000):Nat):Int)-(q:Int))) (r:=(v:Int))) (aI (ix (i:Int) (n:Int) 0 1 i) (aI (show i+1≤(ns .u32 (xs.set i (a+1000000000))).length∧Bs (ns .u32 (xs.set i (a+1000000000))) i [(nW v)]=(ns .u32 (xs.set i v)) from (ns_set2 om)) (aI (Ao (a:=((i:Int)+(1:Int))) (r:=(((i+1):Nat):Int))) tt)))))))))))))))))
theorem lose_f2(xs ys:List Nat)(n c k e q i a v:Nat)(j:List Value)(hi:k≤i)(hn:i<n)(hc:n≤xs.length)(hm:n<9223372036854775807)(hq:q=1)(ha:a<1000000000)(hx:(ns .u32 xs)[i]? =some (nW a))(hlt:q≤a)(hv:v+q=a):GT (Nv xs ys n c k e q i j) (Nv (xs.set i v) ys n c k e 0 (i+1) ([(nW q),(nI i),(sl 6 k e),(nI k),bF,bF,(nW q),bT,bT,(nI i),(nI (i+1)),(nW q),(nI i),(sl 6 k e),(nI k),bF]++(jj j 16 6 ([(sl 5 n c),(nI i),(Gs i),(nW a),(nW q),bF]++(jj j 28 6 [(sl 5 n c),(nI i),(Gs i),(nW a),(nW q),(nW v),(Gs i)]))))):=
 sR (sc:=[(6,.op (.rwB false)),(2,.op (.rwB true)),(17,.op (.rwB false)),(12,.op (.idx i)),(0,.op (.ld (nW a))),(1,.op (.rwB false)),(6,.op (.idx i)),(0,.op (.ld (nW a))),(1,.op (.rwI (v:Int))),(0,.op (.idx i)),(0,.op (.st (ns .u32 (xs.set i v)))),(4,.op (.rwI (((i+1):Nat):Int))),(3,.stay)]) kr (aI (dF (p:=(i:Int)<(k:Int))) (aI (dT (p:=(q:Int)>(0:Int))) (aI (dF (p:=(i:Int)<(k:Int))) (aI (ix (i:Int) (n:Int) 0 1 i) (aI hx (aI (dF (p:=(a:Int)<(q:Int))) (aI (ix (i:Int) (n:Int) 0 1 i) (aI hx (aI (Bt (a:=((a:Int)-(q:Int))) (r:=(v:Int))) (aI (ix (i:Int) (n:Int) 0 1 i) (aI (show i+1≤(ns .u32 xs).length∧Bs (ns .u32 xs) i [(nW v)]=(ns .u32 (xs.set i v)) from (Dp)) (aI (Ao (a:=((i:Int)+(1:Int))) (r:=(((i+1):Nat):Int))) tt))))))))))))
theorem lose_out(xs0 xs ys:List Nat)(n c k e q i:Nat)(j:List Value)(hi:k≤i)(hq:q=0)(hr:GT (Cg 192 #[(sl 5 n c),(sl 6 k e)] 7 [(5,(cU xs0)),(6,(cU ys))]) (Nv xs ys n c k e q i j)):CT 192 #[(sl 5 n c),(sl 6 k e)] (Ag 7 [(5,(cU xs0)),(6,(cU ys))]) undef (Ag 7 [(5,(cU xs)),(6,(cU ys))]):=
 sF (sc:=[(6,.op (.rwB false)),(2,.op (.rwB false)),(5,.stay)]) kr (aI (dF (p:=(i:Int)<(k:Int))) (aI (dF (p:=(q:Int)>(0:Int))) tt)) hr
theorem lose_loop{s0:AS}{ys:List Nat}{n k e D:Nat}(hly:Lim ys)(hk:k≤ys.length)(hkn:k≤n)(hn:n<9223372036854775807):
  ∀(m:Nat) (xs:List Nat) (q i:Nat) (j:List Value),m=n-i→xs.length=n→Lim xs→i≤n→q≤1→D+q*1000000000^i+1000000000^i*val ((ys.take k).drop i)=val xs→
   GT s0 (Nv xs ys n n k e q i j)→ ∃zs i' j',k≤i'∧zs.length=n∧Lim zs∧D=val zs∧GT s0 (Nv zs ys n n k e 0 i' j'):=by
 intro m
 induction m with
 |zero=>
  intro xs q i j hm hx hl hi hq hv hr
  have hin:i=n:=by omega
  subst hin
  have hlt:=val_lt hl
  rw[hx]at hlt
  have hq0:q=0:=by
   rcases Nat.eq_zero_or_pos q with h|h
   ·exact h
   ·have h1:q=1:=by omega
    rw[h1,Nat.one_mul]at hv
    omega
  subst hq0
  refine⟨xs,i,j,hkn,hx,hl,?_,hr⟩
  rw[List.drop_eq_nil_of_le (by rw[List.length_take];omega)]at hv
  exact Zf hv
 |succ m ih=>
  intro xs q i j hm hx hl hi hq hv hr
  have hP:1000000000^(i+1)=1000000000^i*1000000000:=Nat.pow_succ ..
  by_cases hik:i<k
  ·have ha:=hl.get i
   have hb:=hly.get i
   have h2:val ((ys.take k).drop i)=ys.getD i 0+1000000000*val ((ys.take k).drop (i+1)):=by
    rw[val_drop (by rw[List.length_take];omega),getD_take hik]
   rw[h2]at hv
   by_cases hlt:xs.getD i 0<q+ys.getD i 0
   ·obtain⟨v,hvv⟩: ∃v,v+(q+ys.getD i 0)=xs.getD i 0+1000000000:=⟨xs.getD i 0+1000000000-(q+ys.getD i 0),by omega⟩
    have r:=lose_t1 xs ys n n k e q i (xs.getD i 0) (ys.getD i 0) v j hik om om hn om hb ha hq (Ar) (Ar) hlt hvv
    refine ih _ _ _ _ om (by simpa using hx) (hl.set om) om om ?_ (hr.trans r)
    have h1:=val_set xs i v om
    rw[hP]
    exact borrow_step hvv h1 hv
   ·obtain⟨v,hvv⟩: ∃v,v+(q+ys.getD i 0)=xs.getD i 0:=⟨xs.getD i 0-(q+ys.getD i 0),by omega⟩
    have r:=lose_f1 xs ys n n k e q i (xs.getD i 0) (ys.getD i 0) v j hik om om hn om hb ha hq (Ar) (Ar) om hvv
    refine ih _ _ _ _ om (by simpa using hx) (hl.set om) om om ?_ (hr.trans r)
    have h1:=val_set xs i v om
    rw[hP]
    exact borrow_not hvv h1 hv
  ·by_cases hq1:q=1
   ·subst hq1
    rw[List.drop_eq_nil_of_le (by rw[List.length_take];omega)]at hv
    have hlt0:=val_lt hl
    rw[hx]at hlt0
    have hv':=nil_one hv
    have hin:i<n:=by
     rcases Nat.lt_or_ge i n with h|h
     ·exact h
     ·have:=Tp h
      omega
    have ha:=hl.get i
    by_cases hlt:xs.getD i 0<1
    ·obtain⟨v,hvv⟩: ∃v,v+1=xs.getD i 0+1000000000:=⟨xs.getD i 0+999999999,by omega⟩
     have r:=lose_t2 xs ys n n k e 1 i (xs.getD i 0) v j om hin om hn rfl ha (Ar) hlt hvv
     refine ih _ _ _ _ om (by simpa using hx) (hl.set om) om om ?_ (hr.trans r)
     have h1:=val_set xs i v om
     rw[List.drop_eq_nil_of_le (by rw[List.length_take];omega),hP]
     exact nil_add (borrow_step0 hvv h1 hv')
    ·obtain⟨v,hvv⟩: ∃v,v+1=xs.getD i 0:=⟨xs.getD i 0-1,by omega⟩
     have r:=lose_f2 xs ys n n k e 1 i (xs.getD i 0) v j om hin om hn rfl ha (Ar) om hvv
     refine ih _ _ _ _ om (by simpa using hx) (hl.set om) om om ?_ (hr.trans r)
     have h1:=val_set xs i v om
     rw[List.drop_eq_nil_of_le (by rw[List.length_take];omega),hP]
     exact nil_add (borrow_not0 hvv h1 hv')
   ·have hq0:q=0:=by omega
    subst hq0
    refine⟨xs,i,j,by omega,hx,hl,?_,hr⟩
    rw[List.drop_eq_nil_of_le (by rw[List.length_take];omega)]at hv
    exact Zf hv
theorem lose_c(n0 bx byy:Nat)(xs ys:List Nat)(k e:Nat)(hb:5≤bx∧bx<n0∧5≤byy∧byy<n0∧bx≠byy)(hlx:Lim xs)(hly:Lim ys)(hk:k≤ys.length)(hkn:k≤xs.length)(hn:xs.length<9223372036854775807)
  (hT:val (ys.take k)≤val xs):
  ∃zs,zs.length=xs.length∧Lim zs∧val zs=val xs-val (ys.take k)∧
   FT 192 #[sl bx xs.length xs.length,sl byy k e] n0 [(bx,cU xs),(byy,cU ys)] undef
    [(bx,some (cU zs)),(byy,some (cU ys))] []:=by
 have r:=lose_in xs ys xs.length xs.length k e
 obtain⟨zs,i',j',h1,h2,h3,h4,h5⟩:=lose_loop (D:=val xs-val (ys.take k)) hly hk hkn hn _ xs 0 0 _ rfl rfl hlx om om (by simp;omega) r
 have S:=lose_out xs zs ys xs.length xs.length k e 0 i' j' h1 rfl h5
 refine⟨zs,h2,h3,h4.symm,ff [bx,byy] [cU xs,cU ys] [cU zs,cU ys] [] [] n0 S (hnd:= ?_) (hb:= ?_) (fo:= ?_) (fp:= ?_)⟩
 ·simp[hb.2.2.2.2]
 ·simp;omega
 ·simp[Bb,Ab]
 ·simp[Bb,Ab]
theorem minus_o(xs ys:List Nat)(n c k e:Nat)(hc:n≤xs.length)(hk:k≤ys.length)(hn:n<1099511627776)(hkm:k<1099511627776)(zs0:List Nat)(hz:zs0.length=n)(hc1:FT 192 #[(sl 7 n n),(sl 6 k e)] 8 [(7,(cU (xs.take n++List.replicate (n-n) 0))),(6,(cU ys))] undef [(7,some (cU zs0)),(6,some (cU ys))] []):CT 153 #[(sl 5 n c),(sl 6 k e)] (Ag 7 [(5,(cU xs)),(6,(cU ys))]) (sl 7 (top zs0 n) (top zs0 n)) (Ag 8 [(5,(cU xs)),(6,(cU ys)),(7,(cU zs0))]):=
 sF (sc:=[(9,.call [5] (sl 7 n n) [(5,some (cU xs))] [(cU (xs.take n++List.replicate (n-n) 0))]),(6,.call [7,6] uu [(7,some (cU zs0)),(6,some (cU ys))] []),(4,.call [7] (sl 7 (top zs0 n) (top zs0 n)) [(7,some (cU zs0))] []),(3,.stay)]) kr (aI (Sy 7 5 xs n c n om om om om) (aI hc1 (aI (So 8 7 zs0 n n om (by rw[hz];exact Nat.le_refl _) om om) tt))) (Gets.refl _)
theorem minus_c(n0 bx byy:Nat)(xs ys:List Nat)(n c k e:Nat)(hb:5≤bx∧bx<n0∧5≤byy∧byy<n0∧bx≠byy)(hlx:Lim xs)(hly:Lim ys)(hc:n≤xs.length)(hk:k≤ys.length)(hn:n<1099511627776)(hkm:k≤n)(hle:val (ys.take k)≤val (xs.take n)):
  ∃zs t,Lim zs∧t≤zs.length∧t≤n∧(0<t→zs.getD (t-1) 0≠0)∧val (zs.take t)=val (xs.take n)-val (ys.take k)∧
   FT 153 #[sl bx n c,sl byy k e] n0 [(bx,cU xs),(byy,cU ys)] (sl n0 t t)
    [(bx,some (cU xs)),(byy,some (cU ys))] [cU zs]:=by
 have hl1:(xs.take n++List.replicate (n-n) 0).length=n:=by rw[List.length_append,List.length_take,List.length_replicate];omega
 have hv1:val (xs.take n++List.replicate (n-n) 0)=val (xs.take n):=by rw[val_append,val_replicate,Nat.mul_zero,Nat.add_zero]
 obtain⟨zs,h1,h2,h3,h4⟩:=lose_c 8 7 6 (xs.take n++List.replicate (n-n) 0) ys k e om ((hlx.take n).append (Lim.replicate _)) hly hk (by rw[hl1];omega) (by rw[hl1];omega) (by rw[hv1];exact hle)
 rw[hl1]at h1 h4
 have S:=minus_o xs ys n c k e hc hk hn om zs h1 h4
 have htl:=top_le zs n
 refine⟨zs,top zs n,h2,by rw[h1];exact htl,htl,top_pos zs _,?_,ff [bx,byy] [cU xs,cU ys] [cU xs,cU ys] [7] [cU zs] n0 S (hnd:= ?_) (hb:= ?_) (fo:= ?_) (fp:= ?_) (fq:= ?_)⟩
 ·rw[top_val,List.take_of_length_le (by rw[h1];exact Nat.le_refl _),h3,hv1]
 ·simp[hb.2.2.2.2]
 ·simp;omega
 ·simp[Bb,Ab]
 ·simp[Bb,Ab]
 ·simp[Bb,Ab,AObj.ro]
theorem cmpu_lt(a b:Nat)(h:a<b):CT 191 #[(nW a),(nW b)] (Ag 5 []) (.int .i64 (.negSucc 0)) (Ag 5 []):=
 sF (sc:=[(16,.op (.rwB false)),(18,.op (.rwB false)),(25,.op (.rwB true)),(7,.stay)]) kr (aI (nF (a:=(a:Int)) (b:=(a:Int))) (aI (nF (a:=(b:Int)) (b:=(b:Int))) (aI (dT (p:=(a:Int)<(b:Int))) tt))) (Gets.refl _)
theorem cmpu_gt(a b:Nat)(h:b<a):CT 191 #[(nW a),(nW b)] (Ag 5 []) (lI 1) (Ag 5 []):=
 sF (sc:=[(16,.op (.rwB false)),(18,.op (.rwB false)),(25,.op (.rwB false)),(8,.op (.rwB true)),(7,.stay)]) kr (aI (nF (a:=(a:Int)) (b:=(a:Int))) (aI (nF (a:=(b:Int)) (b:=(b:Int))) (aI (dF (p:=(a:Int)<(b:Int))) (aI (dT (p:=(a:Int)>(b:Int))) tt)))) (Gets.refl _)
theorem cmpu_eq(a b:Nat)(h:a=b):CT 191 #[(nW a),(nW b)] (Ag 5 []) (lI 0) (Ag 5 []):=
 sF (sc:=[(16,.op (.rwB false)),(18,.op (.rwB false)),(25,.op (.rwB false)),(8,.op (.rwB false)),(8,.stay)]) kr (aI (nF (a:=(a:Int)) (b:=(a:Int))) (aI (nF (a:=(b:Int)) (b:=(b:Int))) (aI (dF (p:=(a:Int)<(b:Int))) (aI (dF (p:=(a:Int)>(b:Int))) tt)))) (Gets.refl _)
theorem cmpu_c(n0 a b:Nat)(hG:5≤n0):FT 191 #[.int .u32 (a:Nat),.int .u32 (b:Nat)] n0 [] (.int .i64 (Hg a b)) [] []:=by
 have S:CT 191 #[(nW a),(nW b)] (Ag 5 []) (.int .i64 (Hg a b)) (Ag 5 []):=by
  rcases Nat.lt_trichotomy a b with h|h|h
  ·rw[Rx h];exact cmpu_lt a b h
  ·rw[cmpN_eq h];exact cmpu_eq a b h
  ·rw[Mc h];exact cmpu_gt a b h
 exact Lv n0 S hG
end Go.Proofs.YtldoiilgfcpipaaGreatDoor
