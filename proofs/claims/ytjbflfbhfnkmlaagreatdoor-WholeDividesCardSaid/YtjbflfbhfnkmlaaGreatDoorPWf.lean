import Derived.Test.YtjbflfbhfnkmlaaGreatDoorPText
import Derived.Test.YtjbflfbhfnkmlaaGreatDoorLE
import Derived.Test.YtjbflfbhfnkmlaaGreatDoorK
import Derived.Test.YtjbflfbhfnkmlaaGreatDoorLF
set_option linter.unusedVariables false
set_option linter.unusedSimpArgs false
set_option maxRecDepth 100000
namespace Go.Proofs.YtjbflfbhfnkmlaaGreatDoor
open Go Go.AE Seg
noncomputable section
abbrev Nm(ds:List Nat):Value:=.tuple #[bF,(.string (Aa ds))]
abbrev z_756_1(ds:List Nat):AS:=(Ca 127 #[(.string (Aa ds)),(lI 10)] 5 [])
abbrev Ye(ds:List Nat):Value:=.tuple #[bT,(.string (Aa ds))]
abbrev z_756_3(d:Nat):Value:=nB ((UInt8.ofNat (48+d)).toNat)
end
theorem do_(q:Nat)(hq:q<10):CT 167 #[(nR (48+q))] (Ac 5 []) (nI q) (Ac 5 []):=
 sF (sc:=[(15,.op (.rwB false)),(11,.op (.rwB true)),(2,.op (.rwB true)),(9,.op (.rwI (q:Int))),(0,.op (.rwI (q:Int))),(3,.stay)]) kr (aI (dF (p:=(97:Int)≤(((48+q):Nat):Int))) (aI (dT (p:=(48:Int)≤(((48+q):Nat):Int))) (aI (dT (p:=(((48+q):Nat):Int)≤(57:Int))) (aI (wI32 (a:=((((48+q):Nat):Int)-(48:Int))) (r:=(q:Int))) (aI (Am (a:=(q:Int)) (r:=(q:Int))) tt))))) (Gets.refl _)
theorem do_c(n0:Nat)(q:Nat)(hG:5≤n0)(hq:q<10):FT 167 #[(nR (48+q))] n0 [] (nI q) [] []:=
 Dy n0 (do_ q hq) hG
theorem ne_empty{ds:List Nat}(h:0<ds.length):((Aa ds).toList==(Seg.bts []).toList)=false:=by
 rw[ByteArray.toList_eq,ByteArray.toList_eq]
 cases ds with
 |nil=>simp at h
 |cons d ds=>rfl
theorem byte_zero{d:Nat}(h0:d=0):((((UInt8.ofNat (48+d)).toNat:Nat):Int)==(48:Int))=true:=by subst h0;rfl
theorem byte_ne{d:Nat}(h:d<10)(h0:d≠0):((((UInt8.ofNat (48+d)).toNat:Nat):Int)==(48:Int))=false:=by
 rw[Nx h,beq_eq_false_iff_ne];omega
noncomputable def wfp_h_f(ds:List Nat)(d p:Nat)(j:List Value):Frame:=(Fr 127 ([(.string (Aa ds)),(lI 10),uu,uu,(J j 0),bF,(.string (Aa ds)),uu]++(jj j 1 4 ([bF,(J j 5),(J j 6),bF,bF,(J j 7),(J j 8),bF,bF]++(uj 6 ([bF,bF,(J j 9),(pt 5)]++(jj j 10 7 [])))))) [.code (cd Tryz.f127 [1,1,1,0,1,0,0]),.inLoop (cd Tryz.f127 [1,1,1,0,1,0,0]),.inBlock 0,.code (cd Tryz.f127 [1,1,1,1])])
noncomputable def wfp_h_o(ds:List Nat)(d p:Nat):List (Nat×AObj):=[(5,(.iter (Aa ds) p))]
noncomputable def wfp_h(ds:List Nat)(d p:Nat)(j:List Value):AS:=⟨wfp_h_f ds d p j,[],Ac 6 (wfp_h_o ds d p)⟩
theorem wfp_in(ds:List Nat)(d:Nat)(hd:Dig ds)(h0:0<ds.length)(h1:d<10)(h2:d≠0)(hx:(Aa ds)[0]? =some (UInt8.ofNat (48+d))):GT (z_756_1 ds) (wfp_h ds d 0 [bF,undef,(Nm ds),(.string (Aa ds)),(Nm ds),(.string (Aa ds)),(.string (Aa ds)),(.string (Aa ds)),(z_756_3 d),(.string (Aa ds)),undef,undef,undef,undef,undef,undef,undef]):=
 sR (sc:=[(7,.call [] (Nm ds) [] []),(10,.op (.rwB false)),(2,.op (.sidx (UInt8.ofNat (48+d)))),(0,.op (.rwB false)),(20,.stay)]) kr (aI (so_pc 5 ds om hd h0) (aI (show ((Aa ds).toList==(bts []).toList)=false from (ne_empty h0)) (aI (show 0≤(0:Int)∧(Aa ds)[Int.toNat (0:Int)]? =some (UInt8.ofNat (48+d)) from⟨by omega,hx⟩) (aI (show ((((UInt8.ofNat (48+d)).toNat:Nat):Int)==(48:Int))=false from (byte_ne h1 h2)) tt))))
theorem wfp_r(ds:List Nat)(d p q:Nat)(j:List Value)(hq:q<10)(hp:p<(Aa ds).size)(he:Utf8.decode (Aa ds) p=(48+q,1)):GT (wfp_h ds d p j) (wfp_h ds d (p+1) ([(J j 0),(nR (48+q))]++(jj j 2 8 [(.tuple #[bT,(nI p),(nR (48+q))]),bT,(nR (48+q)),(nR (48+q)),(nI q),(lI 10),bF]))):=
 sR (sc:=[(2,.op (.nxtC (48+q) 1 (p+1))),(14,.call [] (nI q) [] []),(1,.op (.rwB false)),(5,.stay)]) kr (aI (show p<(Aa ds).size∧Utf8.decode (Aa ds) p=((48+q),1)∧p+1=(p+1) from⟨hp,he,rfl⟩) (aI (do_c 6 q om hq) (aI (dF (p:=(q:Int)≥(10:Int))) tt)))
theorem wfp_o(ds:List Nat)(d p:Nat)(j:List Value)(hp:(Aa ds).size≤p)(hr:GT (z_756_1 ds) (wfp_h ds d p j)):CT 127 #[(.string (Aa ds)),(lI 10)] (Ac 5 []) bT (Ac 6 []):=
 sF (sc:=[(2,.op (.nxtE)),(10,.stay)]) kr (aI (show ¬p<(Aa ds).size from om) tt) hr
theorem wfp_loop{ds:List Nat}{d:Nat}(hd:Dig ds): ∀(k p:Nat) (j:List Value),k=ds.length-p→p≤ds.length→
  GT (Ca 127 #[(.string (Aa ds)),(lI 10)] 5 []) (wfp_h ds d p j)→CT 127 #[(.string (Aa ds)),(lI 10)] (Ac 5 []) bT (Ac 6 []):=by
 intro k
 induction k with
 |zero=>
  intro p j hk hp hr
  exact wfp_o ds d p j (by rw[Ad];omega) hr
 |succ k ih=>
  intro p j hk hp hr
  have r:=wfp_r ds d p (ds.getD p 0) j (hd.get p) (by rw[Ad];omega) (Kw hd om)
  exact ih (p+1) _ om om (hr.trans r)
theorem wfpc(n0:Nat)(ds:List Nat)(hG:5≤n0)(hd:Dig ds)(h0:0<ds.length)(h1:ds.getD 0 0≠0):FT 127 #[(.string (Aa ds)),(lI 10)] n0 [] bT [] []:=
 Dy n0 (wfp_loop hd _ _ _ rfl (Nat.zero_le _) (wfp_in ds _ hd h0 (hd.get 0) h1 (Gi h0))) hG
noncomputable def wfm_h_f(ds:List Nat)(d p:Nat)(j:List Value):Frame:=(Fr 127 ([(.string (Bg ds)),(lI 10),uu,uu,(J j 0),bT,(.string (Aa ds)),uu]++(jj j 1 4 ([bT,(J j 5),(J j 6),bF,bF,(J j 7),(J j 8),bF,bF]++(uj 6 ([bF,bF,(J j 9),(pt 5)]++(jj j 10 7 [])))))) [.code (cd Tryz.f127 [1,1,1,0,1,0,0]),.inLoop (cd Tryz.f127 [1,1,1,0,1,0,0]),.inBlock 0,.code (cd Tryz.f127 [1,1,1,1])])
noncomputable def wfm_h_o(ds:List Nat)(d p:Nat):List (Nat×AObj):=[(5,(.iter (Aa ds) p))]
noncomputable def wfm_h(ds:List Nat)(d p:Nat)(j:List Value):AS:=⟨wfm_h_f ds d p j,[],Ac 6 (wfm_h_o ds d p)⟩
theorem wfm_in(ds:List Nat)(d:Nat)(hd:Dig ds)(h0:0<ds.length)(h1:d<10)(h2:d≠0)(hx:(Aa ds)[0]? =some (UInt8.ofNat (48+d))):GT (Ca 127 #[(.string (Bg ds)),(lI 10)] 5 []) (wfm_h ds d 0 [bF,undef,(Ye ds),(.string (Bg ds)),(Ye ds),(.string (Aa ds)),(.string (Aa ds)),(.string (Aa ds)),(z_756_3 d),(.string (Aa ds)),undef,undef,undef,undef,undef,undef,undef]):=
 sR (sc:=[(7,.call [] (Ye ds) [] []),(10,.op (.rwB false)),(2,.op (.sidx (UInt8.ofNat (48+d)))),(0,.op (.rwB false)),(20,.stay)]) kr (aI (so_mc 5 ds om) (aI (show ((Aa ds).toList==(bts []).toList)=false from (ne_empty h0)) (aI (show 0≤(0:Int)∧(Aa ds)[Int.toNat (0:Int)]? =some (UInt8.ofNat (48+d)) from⟨by omega,hx⟩) (aI (show ((((UInt8.ofNat (48+d)).toNat:Nat):Int)==(48:Int))=false from (byte_ne h1 h2)) tt))))
theorem wfm_r(ds:List Nat)(d p q:Nat)(j:List Value)(hq:q<10)(hp:p<(Aa ds).size)(he:Utf8.decode (Aa ds) p=(48+q,1)):GT (wfm_h ds d p j) (wfm_h ds d (p+1) ([(J j 0),(nR (48+q))]++(jj j 2 8 [(.tuple #[bT,(nI p),(nR (48+q))]),bT,(nR (48+q)),(nR (48+q)),(nI q),(lI 10),bF]))):=
 sR (sc:=[(2,.op (.nxtC (48+q) 1 (p+1))),(14,.call [] (nI q) [] []),(1,.op (.rwB false)),(5,.stay)]) kr (aI (show p<(Aa ds).size∧Utf8.decode (Aa ds) p=((48+q),1)∧p+1=(p+1) from⟨hp,he,rfl⟩) (aI (do_c 6 q om hq) (aI (dF (p:=(q:Int)≥(10:Int))) tt)))
theorem wfm_o(ds:List Nat)(d p:Nat)(j:List Value)(hp:(Aa ds).size≤p)(hr:GT (Ca 127 #[(.string (Bg ds)),(lI 10)] 5 []) (wfm_h ds d p j)):CT 127 #[(.string (Bg ds)),(lI 10)] (Ac 5 []) bT (Ac 6 []):=
 sF (sc:=[(2,.op (.nxtE)),(10,.stay)]) kr (aI (show ¬p<(Aa ds).size from om) tt) hr
theorem wfm_loop{ds:List Nat}{d:Nat}(hd:Dig ds): ∀(k p:Nat) (j:List Value),k=ds.length-p→p≤ds.length→
  GT (Ca 127 #[(.string (Bg ds)),(lI 10)] 5 []) (wfm_h ds d p j)→CT 127 #[(.string (Bg ds)),(lI 10)] (Ac 5 []) bT (Ac 6 []):=by
 intro k
 induction k with
 |zero=>
  intro p j hk hp hr
  exact wfm_o ds d p j (by rw[Ad];omega) hr
 |succ k ih=>
  intro p j hk hp hr
  have r:=wfm_r ds d p (ds.getD p 0) j (hd.get p) (by rw[Ad];omega) (Kw hd om)
  exact ih (p+1) _ om om (hr.trans r)
theorem wfmc(n0:Nat)(ds:List Nat)(hG:5≤n0)(hd:Dig ds)(h0:0<ds.length)(h1:ds.getD 0 0≠0):FT 127 #[(.string (Bg ds)),(lI 10)] n0 [] bT [] []:=
 Dy n0 (wfm_loop hd _ _ _ rfl (Nat.zero_le _) (wfm_in ds _ hd h0 (hd.get 0) h1 (Gi h0))) hG
noncomputable def wfz_h_f(ds:List Nat)(d p:Nat)(j:List Value):Frame:=(Fr 127 ([(.string (Aa ds)),(lI 10),uu,uu,(J j 0),bF,(.string (Aa ds)),uu]++(jj j 1 4 ([bF,(J j 5),(J j 6),bF,bF,(J j 7),(J j 8),bT,bT,bF,bF,bF,(J j 9),bF,bF,bF,bF,(J j 10),(pt 5)]++(jj j 11 7 [])))) [.code (cd Tryz.f127 [1,1,1,0,1,0,0]),.inLoop (cd Tryz.f127 [1,1,1,0,1,0,0]),.inBlock 0,.code (cd Tryz.f127 [1,1,1,1])])
noncomputable def wfz_h_o(ds:List Nat)(d p:Nat):List (Nat×AObj):=[(5,(.iter (Aa ds) p))]
noncomputable def wfz_h(ds:List Nat)(d p:Nat)(j:List Value):AS:=⟨wfz_h_f ds d p j,[],Ac 6 (wfz_h_o ds d p)⟩
theorem wfz_in(ds:List Nat)(d:Nat)(hd:Dig ds)(h0:0<ds.length)(h1:d<10)(h2:d=0)(hz:(!((Aa ds).toList==(Seg.bts [48]).toList))=false)(hx:(Aa ds)[0]? =some (UInt8.ofNat (48+d))):GT (z_756_1 ds) (wfz_h ds d 0 [bF,undef,(Nm ds),(.string (Aa ds)),(Nm ds),(.string (Aa ds)),(.string (Aa ds)),(.string (Aa ds)),(z_756_3 d),(.string (Aa ds)),(.string (Aa ds)),undef,undef,undef,undef,undef,undef,undef]):=
 sR (sc:=[(7,.call [] (Nm ds) [] []),(10,.op (.rwB false)),(2,.op (.sidx (UInt8.ofNat (48+d)))),(0,.op (.rwB true)),(16,.op (.rwB false)),(14,.stay)]) kr (aI (so_pc 5 ds om hd h0) (aI (show ((Aa ds).toList==(bts []).toList)=false from (ne_empty h0)) (aI (show 0≤(0:Int)∧(Aa ds)[Int.toNat (0:Int)]? =some (UInt8.ofNat (48+d)) from⟨by omega,hx⟩) (aI (show ((((UInt8.ofNat (48+d)).toNat:Nat):Int)==(48:Int))=true from (byte_zero h2)) (aI hz tt)))))
theorem wfz_r(ds:List Nat)(d p q:Nat)(j:List Value)(hq:q<10)(hp:p<(Aa ds).size)(he:Utf8.decode (Aa ds) p=(48+q,1)):GT (wfz_h ds d p j) (wfz_h ds d (p+1) ([(J j 0),(nR (48+q))]++(jj j 2 9 [(.tuple #[bT,(nI p),(nR (48+q))]),bT,(nR (48+q)),(nR (48+q)),(nI q),(lI 10),bF]))):=
 sR (sc:=[(2,.op (.nxtC (48+q) 1 (p+1))),(14,.call [] (nI q) [] []),(1,.op (.rwB false)),(5,.stay)]) kr (aI (show p<(Aa ds).size∧Utf8.decode (Aa ds) p=((48+q),1)∧p+1=(p+1) from⟨hp,he,rfl⟩) (aI (do_c 6 q om hq) (aI (dF (p:=(q:Int)≥(10:Int))) tt)))
theorem wfz_o(ds:List Nat)(d p:Nat)(j:List Value)(hp:(Aa ds).size≤p)(hr:GT (z_756_1 ds) (wfz_h ds d p j)):CT 127 #[(.string (Aa ds)),(lI 10)] (Ac 5 []) bT (Ac 6 []):=
 sF (sc:=[(2,.op (.nxtE)),(10,.stay)]) kr (aI (show ¬p<(Aa ds).size from om) tt) hr
theorem wfz_loop{ds:List Nat}{d:Nat}(hd:Dig ds): ∀(k p:Nat) (j:List Value),k=ds.length-p→p≤ds.length→
  GT (Ca 127 #[(.string (Aa ds)),(lI 10)] 5 []) (wfz_h ds d p j)→CT 127 #[(.string (Aa ds)),(lI 10)] (Ac 5 []) bT (Ac 6 []):=by
 intro k
 induction k with
 |zero=>
  intro p j hk hp hr
  exact wfz_o ds d p j (by rw[Ad];omega) hr
 |succ k ih=>
  intro p j hk hp hr
  have r:=wfz_r ds d p (ds.getD p 0) j (hd.get p) (by rw[Ad];omega) (Kw hd om)
  exact ih (p+1) _ om om (hr.trans r)
theorem wfzc(n0:Nat)(ds:List Nat)(hG:5≤n0)(hd:Dig ds)(h0:0<ds.length)(h1:ds=[0]):FT 127 #[(.string (Aa ds)),(lI 10)] n0 [] bT [] []:=
 Dy n0 (wfz_loop hd _ _ _ rfl (Nat.zero_le _) (wfz_in ds _ hd h0 (hd.get 0) (by rw[h1];rfl) (by rw[h1];decide+kernel) (Gi h0))) hG
theorem kips(ds:List Nat)(hd:Dig ds)(h0:0<ds.length)(h1:ds.getD 0 0≠0)(hs:(Aa ds).size≤18):CT 145 #[(.string (Aa ds))] (Ac 5 []) (lI 2) (Ac 5 []):=
 sF (sc:=[(8,.call [] bT [] []),(7,.call [] (Nm ds) [] []),(12,.op (.rwB false)),(7,.op (.rwB false)),(10,.stay)]) kr (aI (wfpc 5 ds om hd h0 h1) (aI (so_pc 5 ds om hd h0) (aI (dF (p:=(((Aa ds).size:Nat):Int)>(400:Int))) (aI (dF (p:=(((Aa ds).size:Nat):Int)>(18:Int))) tt)))) (Gets.refl _)
theorem kipsc(n0:Nat)(ds:List Nat)(hG:5≤n0)(hd:Dig ds)(h0:0<ds.length)(h1:ds.getD 0 0≠0)(hs:(Aa ds).size≤18):FT 145 #[(.string (Aa ds))] n0 [] (lI 2) [] []:=
 Dy n0 (kips ds hd h0 h1 hs) hG
theorem kipl(ds:List Nat)(hd:Dig ds)(h0:0<ds.length)(h1:ds.getD 0 0≠0)(hs:18<(Aa ds).size)(hs2:(Aa ds).size≤400):CT 145 #[(.string (Aa ds))] (Ac 5 []) (lI 3) (Ac 5 []):=
 sF (sc:=[(8,.call [] bT [] []),(7,.call [] (Nm ds) [] []),(12,.op (.rwB false)),(7,.op (.rwB true)),(8,.stay)]) kr (aI (wfpc 5 ds om hd h0 h1) (aI (so_pc 5 ds om hd h0) (aI (dF (p:=(((Aa ds).size:Nat):Int)>(400:Int))) (aI (dT (p:=(((Aa ds).size:Nat):Int)>(18:Int))) tt)))) (Gets.refl _)
theorem kiplc(n0:Nat)(ds:List Nat)(hG:5≤n0)(hd:Dig ds)(h0:0<ds.length)(h1:ds.getD 0 0≠0)(hs:18<(Aa ds).size)(hs2:(Aa ds).size≤400):FT 145 #[(.string (Aa ds))] n0 [] (lI 3) [] []:=
 Dy n0 (kipl ds hd h0 h1 hs hs2) hG
theorem kims(ds:List Nat)(hd:Dig ds)(h0:0<ds.length)(h1:ds.getD 0 0≠0)(hs:(Aa ds).size≤18):CT 145 #[(.string (Bg ds))] (Ac 5 []) (lI 2) (Ac 5 []):=
 sF (sc:=[(8,.call [] bT [] []),(7,.call [] (Ye ds) [] []),(12,.op (.rwB false)),(7,.op (.rwB false)),(10,.stay)]) kr (aI (wfmc 5 ds om hd h0 h1) (aI (so_mc 5 ds om) (aI (dF (p:=(((Aa ds).size:Nat):Int)>(400:Int))) (aI (dF (p:=(((Aa ds).size:Nat):Int)>(18:Int))) tt)))) (Gets.refl _)
theorem kimsc(n0:Nat)(ds:List Nat)(hG:5≤n0)(hd:Dig ds)(h0:0<ds.length)(h1:ds.getD 0 0≠0)(hs:(Aa ds).size≤18):FT 145 #[(.string (Bg ds))] n0 [] (lI 2) [] []:=
 Dy n0 (kims ds hd h0 h1 hs) hG
theorem kiml(ds:List Nat)(hd:Dig ds)(h0:0<ds.length)(h1:ds.getD 0 0≠0)(hs:18<(Aa ds).size)(hs2:(Aa ds).size≤400):CT 145 #[(.string (Bg ds))] (Ac 5 []) (lI 3) (Ac 5 []):=
 sF (sc:=[(8,.call [] bT [] []),(7,.call [] (Ye ds) [] []),(12,.op (.rwB false)),(7,.op (.rwB true)),(8,.stay)]) kr (aI (wfmc 5 ds om hd h0 h1) (aI (so_mc 5 ds om) (aI (dF (p:=(((Aa ds).size:Nat):Int)>(400:Int))) (aI (dT (p:=(((Aa ds).size:Nat):Int)>(18:Int))) tt)))) (Gets.refl _)
theorem kimlc(n0:Nat)(ds:List Nat)(hG:5≤n0)(hd:Dig ds)(h0:0<ds.length)(h1:ds.getD 0 0≠0)(hs:18<(Aa ds).size)(hs2:(Aa ds).size≤400):FT 145 #[(.string (Bg ds))] n0 [] (lI 3) [] []:=
 Dy n0 (kiml ds hd h0 h1 hs hs2) hG
theorem kizs(ds:List Nat)(hd:Dig ds)(h0:0<ds.length)(h1:ds=[0])(hs:(Aa ds).size≤18):CT 145 #[(.string (Aa ds))] (Ac 5 []) (lI 2) (Ac 5 []):=
 sF (sc:=[(8,.call [] bT [] []),(7,.call [] (Nm ds) [] []),(12,.op (.rwB false)),(7,.op (.rwB false)),(10,.stay)]) kr (aI (wfzc 5 ds om hd h0 h1) (aI (so_pc 5 ds om hd h0) (aI (dF (p:=(((Aa ds).size:Nat):Int)>(400:Int))) (aI (dF (p:=(((Aa ds).size:Nat):Int)>(18:Int))) tt)))) (Gets.refl _)
theorem kizsc(n0:Nat)(ds:List Nat)(hG:5≤n0)(hd:Dig ds)(h0:0<ds.length)(h1:ds=[0])(hs:(Aa ds).size≤18):FT 145 #[(.string (Aa ds))] n0 [] (lI 2) [] []:=
 Dy n0 (kizs ds hd h0 h1 hs) hG
theorem so_e:CT 128 #[(.string (bts []))] (Ac 5 []) (.tuple #[bF,(.string (bts []))]) (Ac 5 []):=
 sF (sc:=[(40,.op (.rwB false)),(44,.stay)]) kr (aI (show decide ((((bts []).size:Nat):Int)≥(1:Int))=false from (by decide+kernel)) tt) (Gets.refl _)
theorem so_ec(n0:Nat)(hG:5≤n0):FT 128 #[(.string (bts []))] n0 [] (.tuple #[bF,(.string (bts []))]) [] []:=
 Dy n0 (so_e) hG
theorem so_n(t c:ByteArray)(h0:0<t.size)(hx:t.extract 0 1=c)(hc:(c.toList==(Seg.bts [45]).toList)=false):CT 128 #[(.string t)] (Ac 5 []) (.tuple #[bF,(.string t)]) (Ac 5 []):=
 sF (sc:=[(40,.op (.rwB true)),(4,.op (.sslc c)),(1,.op (.rwB false)),(37,.stay)]) kr (aI (show decide (((t.size:Nat):Int)≥(1:Int))=true from (by rw[decide_eq_true_eq];omega)) (aI (show 0≤(0:Int)∧(0:Int)≤(1:Int)∧(1:Int)≤((t.size:Nat):Int)∧t.extract (Int.toNat (0:Int)) (Int.toNat (1:Int))=c from⟨by omega,by omega,by omega,hx⟩) (aI hc tt))) (Gets.refl _)
theorem so_nc(n0:Nat)(t c:ByteArray)(hG:5≤n0)(h0:0<t.size)(hx:t.extract 0 1=c)(hc:(c.toList==(Seg.bts [45]).toList)=false):FT 128 #[(.string t)] n0 [] (.tuple #[bF,(.string t)]) [] []:=
 Dy n0 (so_n t c h0 hx hc) hG
theorem so_t(s t:ByteArray)(h0:0<s.size)(hx:s.extract 0 1=Seg.bts [45])(hu:s.extract 1 s.size=t):CT 128 #[(.string s)] (Ac 5 []) (.tuple #[bT,(.string t)]) (Ac 5 []):=
 sF (sc:=[(40,.op (.rwB true)),(4,.op (.sslc (bts [45]))),(1,.op (.rwB true)),(14,.op (.sslc t)),(26,.stay)]) kr (aI (show decide (((s.size:Nat):Int)≥(1:Int))=true from (by rw[decide_eq_true_eq];omega)) (aI (show 0≤(0:Int)∧(0:Int)≤(1:Int)∧(1:Int)≤((s.size:Nat):Int)∧s.extract (Int.toNat (0:Int)) (Int.toNat (1:Int))=(bts [45]) from⟨by omega,by omega,by omega,hx⟩) (aI (show ((bts [45]).toList==(bts [45]).toList)=true from (by decide+kernel)) (aI (show 0≤(1:Int)∧(1:Int)≤((s.size:Nat):Int)∧((s.size:Nat):Int)≤((s.size:Nat):Int)∧s.extract (Int.toNat (1:Int)) (Int.toNat ((s.size:Nat):Int))=t from⟨by omega,by omega,by omega,hu⟩) tt)))) (Gets.refl _)
theorem so_tc(n0:Nat)(s t:ByteArray)(hG:5≤n0)(h0:0<s.size)(hx:s.extract 0 1=Seg.bts [45])(hu:s.extract 1 s.size=t):FT 128 #[(.string s)] n0 [] (.tuple #[bT,(.string t)]) [] []:=
 Dy n0 (so_t s t h0 hx hu) hG
theorem dA(q:Nat)(hq:q<48):CT 167 #[(nR q)] (Ac 5 []) (lI 99) (Ac 5 []):=
 sF (sc:=[(15,.op (.rwB false)),(11,.op (.rwB false)),(14,.stay)]) kr (aI (dF (p:=(97:Int)≤(q:Int))) (aI (dF (p:=(48:Int)≤(q:Int))) tt)) (Gets.refl _)
theorem dAc(n0:Nat)(q:Nat)(hG:5≤n0)(hq:q<48):FT 167 #[(nR q)] n0 [] (lI 99) [] []:=
 Dy n0 (dA q hq) hG
theorem dB(q:Nat)(hq:57<q)(hq2:q<97):CT 167 #[(nR q)] (Ac 5 []) (lI 99) (Ac 5 []):=
 sF (sc:=[(15,.op (.rwB false)),(11,.op (.rwB true)),(2,.op (.rwB false)),(11,.stay)]) kr (aI (dF (p:=(97:Int)≤(q:Int))) (aI (dT (p:=(48:Int)≤(q:Int))) (aI (dF (p:=(q:Int)≤(57:Int))) tt))) (Gets.refl _)
theorem dBc(n0:Nat)(q:Nat)(hG:5≤n0)(hq:57<q)(hq2:q<97):FT 167 #[(nR q)] n0 [] (lI 99) [] []:=
 Dy n0 (dB q hq hq2) hG
theorem dD(q:Nat)(hq:122<q)(hq2:q≤1114111):CT 167 #[(nR q)] (Ac 5 []) (lI 99) (Ac 5 []):=
 sF (sc:=[(15,.op (.rwB true)),(2,.op (.rwB false)),(8,.op (.rwB true)),(2,.op (.rwB false)),(11,.stay)]) kr (aI (dT (p:=(97:Int)≤(q:Int))) (aI (dF (p:=(q:Int)≤(122:Int))) (aI (dT (p:=(48:Int)≤(q:Int))) (aI (dF (p:=(q:Int)≤(57:Int))) tt)))) (Gets.refl _)
theorem dDc(n0:Nat)(q:Nat)(hG:5≤n0)(hq:122<q)(hq2:q≤1114111):FT 167 #[(nR q)] n0 [] (lI 99) [] []:=
 Dy n0 (dD q hq hq2) hG
theorem dC(q:Nat)(hq:q<26):CT 167 #[(nR (97+q))] (Ac 5 []) (nI (10+q)) (Ac 5 []):=
 sF (sc:=[(15,.op (.rwB true)),(2,.op (.rwB true)),(7,.op (.rwI ((((97+q):Nat):Int)-(39:Int)))),(7,.op (.rwI (((10+q):Nat):Int))),(0,.op (.rwI (((10+q):Nat):Int))),(3,.stay)]) kr (aI (dT (p:=(97:Int)≤(((97+q):Nat):Int))) (aI (dT (p:=(((97+q):Nat):Int)≤(122:Int))) (aI (wI32 (a:=((((97+q):Nat):Int)-(39:Int))) (r:=((((97+q):Nat):Int)-(39:Int)))) (aI (wI32 (a:=(((((97+q):Nat):Int)-(39:Int))-(48:Int))) (r:=(((10+q):Nat):Int))) (aI (Am (a:=(((10+q):Nat):Int)) (r:=(((10+q):Nat):Int))) tt))))) (Gets.refl _)
theorem dCc(n0:Nat)(q:Nat)(hG:5≤n0)(hq:q<26):FT 167 #[(nR (97+q))] n0 [] (nI (10+q)) [] []:=
 Dy n0 (dC q hq) hG
noncomputable section
abbrev z_e09_0(s:ByteArray):AS:=(Ca 127 #[(.string s),(lI 10)] 5 [])
end
theorem dox(n0 r:Nat)(hG:5≤n0)(h:r<48∨57<r)(h2:r≤1114111): ∃v:Nat,10≤v∧v≤99∧FT 167 #[.int .i32 (r:Int)] n0 [] (.int .i64 (v:Int)) [] []:=by
 rcases Nat.lt_or_ge r 48 with h3|h3
 ·exact⟨99,by omega,by omega,dAc n0 r hG h3⟩
 rcases Nat.lt_or_ge r 97 with h4|h4
 ·exact⟨99,by omega,by omega,dBc n0 r hG om h4⟩
 rcases Nat.lt_or_ge 122 r with h5|h5
 ·exact⟨99,by omega,by omega,dDc n0 r hG h5 h2⟩
 ·have:=dCc n0 (r-97) hG om
  rw[show 97+(r-97)=r from by omega]at this
  exact⟨_,by omega,by omega,this⟩
theorem isD_lt{b:UInt8}(h:Xj b=true):b.toNat-48<10:=by
 simp only[Xj,Bool.and_eq_true,decide_eq_true_eq]at h;omega
theorem byte_0{c:UInt8}(h:c=48):(((c.toNat:Nat):Int)==(48:Int))=true:=by subst h;rfl
theorem byte_n0{c:UInt8}(h:c≠48):(((c.toNat:Nat):Int)==(48:Int))=false:=by
 rw[beq_eq_false_iff_ne];intro h1;exact h (by apply UInt8.toNat_inj.1;show c.toNat=48;omega)
theorem wbpe(s:ByteArray)(hs: ∀n0,5≤n0→FT 128 #[.string s] n0 [] (.tuple #[.bool false,.string (Seg.bts [])]) [] []):CT 127 #[(.string s),(lI 10)] (Ac 5 []) bF (Ac 5 []):=
 sF (sc:=[(7,.call [] (.tuple #[bF,(.string (bts []))]) [] []),(10,.op (.rwB true)),(20,.stay)]) kr (aI (hs 5 om) (aI (show ((bts []).toList==(bts []).toList)=true from (by simp only[decide_eq_true_eq,decide_eq_false_iff_not,beq_iff_eq,beq_eq_false_iff_ne,bne_iff_ne,bne_eq_false_iff_eq,ne_eq,gt_iff_lt,ge_iff_le]<;>omega)) tt)) (Gets.refl _)
theorem wbpec(n0:Nat)(s:ByteArray)(hG:5≤n0)(hs: ∀n0,5≤n0→FT 128 #[.string s] n0 [] (.tuple #[.bool false,.string (Seg.bts [])]) [] []):FT 127 #[(.string s),(lI 10)] n0 [] bF [] []:=
 Dy n0 (wbpe s hs) hG
theorem wbpz(s t:ByteArray)(c:UInt8)(hs: ∀n0,5≤n0→FT 128 #[.string s] n0 [] (.tuple #[.bool false,.string t]) [] [])(hne:(t.toList==(Seg.bts []).toList)=false)(hx:t[0]? =some c)(hc:c=48)(hz:(!(t.toList==(Seg.bts [48]).toList))=true):CT 127 #[(.string s),(lI 10)] (Ac 5 []) bF (Ac 5 []):=
 sF (sc:=[(7,.call [] (.tuple #[bF,(.string t)]) [] []),(10,.op (.rwB false)),(2,.op (.sidx c)),(0,.op (.rwB true)),(16,.op (.rwB true)),(10,.stay)]) kr (aI (hs 5 om) (aI hne (aI (show 0≤(0:Int)∧t[Int.toNat (0:Int)]? =some c from⟨by omega,hx⟩) (aI (show (((c.toNat:Nat):Int)==(48:Int))=true from (byte_0 hc)) (aI hz tt))))) (Gets.refl _)
theorem wbpzc(n0:Nat)(s t:ByteArray)(c:UInt8)(hG:5≤n0)(hs: ∀n0,5≤n0→FT 128 #[.string s] n0 [] (.tuple #[.bool false,.string t]) [] [])(hne:(t.toList==(Seg.bts []).toList)=false)(hx:t[0]? =some c)(hc:c=48)(hz:(!(t.toList==(Seg.bts [48]).toList))=true):FT 127 #[(.string s),(lI 10)] n0 [] bF [] []:=
 Dy n0 (wbpz s t c hs hne hx hc hz) hG
noncomputable def wbp_h_f(s t:ByteArray)(c:UInt8)(p:Nat)(j:List Value):Frame:=(Fr 127 ([(.string s),(lI 10),uu,uu,(J j 0),bF,(.string t),uu]++(jj j 1 4 ([bF,(J j 5),(J j 6),bF,bF,(J j 7),(J j 8),bF,bF]++(uj 6 ([bF,bF,(J j 9),(pt 5)]++(jj j 10 7 [])))))) [.code (cd Tryz.f127 [1,1,1,0,1,0,0]),.inLoop (cd Tryz.f127 [1,1,1,0,1,0,0]),.inBlock 0,.code (cd Tryz.f127 [1,1,1,1])])
noncomputable def wbp_h_o(s t:ByteArray)(c:UInt8)(p:Nat):List (Nat×AObj):=[(5,(.iter t p))]
noncomputable def wbp_h(s t:ByteArray)(c:UInt8)(p:Nat)(j:List Value):AS:=⟨wbp_h_f s t c p j,[],Ac 6 (wbp_h_o s t c p)⟩
theorem wbp_in(s t:ByteArray)(c:UInt8)(hs: ∀n0,5≤n0→FT 128 #[.string s] n0 [] (.tuple #[.bool false,.string t]) [] [])(hne:(t.toList==(Seg.bts []).toList)=false)(hx:t[0]? =some c)(hc:c≠48):GT (z_e09_0 s) (wbp_h s t c 0 [bF,undef,(.tuple #[bF,(.string t)]),(.string s),(.tuple #[bF,(.string t)]),(.string t),(.string t),(.string t),(nB c.toNat),(.string t),undef,undef,undef,undef,undef,undef,undef]):=
 sR (sc:=[(7,.call [] (.tuple #[bF,(.string t)]) [] []),(10,.op (.rwB false)),(2,.op (.sidx c)),(0,.op (.rwB false)),(20,.stay)]) kr (aI (hs 5 om) (aI hne (aI (show 0≤(0:Int)∧t[Int.toNat (0:Int)]? =some c from⟨by omega,hx⟩) (aI (show (((c.toNat:Nat):Int)==(48:Int))=false from (byte_n0 hc)) tt))))
theorem wbp_r(s t:ByteArray)(c:UInt8)(p q:Nat)(j:List Value)(hq:q<10)(hp:p<t.size)(he:Utf8.decode t p=(48+q,1)):GT (wbp_h s t c p j) (wbp_h s t c (p+1) ([(J j 0),(nR (48+q))]++(jj j 2 8 [(.tuple #[bT,(nI p),(nR (48+q))]),bT,(nR (48+q)),(nR (48+q)),(nI q),(lI 10),bF]))):=
 sR (sc:=[(2,.op (.nxtC (48+q) 1 (p+1))),(14,.call [] (nI q) [] []),(1,.op (.rwB false)),(5,.stay)]) kr (aI (show p<t.size∧Utf8.decode t p=((48+q),1)∧p+1=(p+1) from⟨hp,he,rfl⟩) (aI (do_c 6 q om hq) (aI (dF (p:=(q:Int)≥(10:Int))) tt)))
theorem wbp_x(s t:ByteArray)(c:UInt8)(p r w v:Nat)(j:List Value)(hp:p<t.size)(he:Utf8.decode t p=(r,w))(hv:(FT 167 #[.int .i32 (r:Int)] 6 [] (.int .i64 (v:Int)) [] []))(h10:10≤v)(hr:GT (z_e09_0 s) (wbp_h s t c p j)):CT 127 #[(.string s),(lI 10)] (Ac 5 []) bF (Ac 6 []):=
 sF (sc:=[(2,.op (.nxtC r w (p+w))),(14,.call [] (nI v) [] []),(1,.op (.rwB true)),(7,.stay)]) kr (aI (show p<t.size∧Utf8.decode t p=(r,w)∧p+w=(p+w) from⟨hp,he,rfl⟩) (aI hv (aI (dT (p:=(v:Int)≥(10:Int))) tt))) hr
theorem wbp_loop{s t:ByteArray}{c:UInt8}{P:Nat}(hP:P<t.size)(hg: ∀q (hq:q<P),Xj (t[q]'om)=true)(hb:Xj (t[P]'hP)=false): ∀(k p:Nat) (j:List Value),k=P-p→p≤P→
  GT (Ca 127 #[(.string s),(lI 10)] 5 []) (wbp_h s t c p j)→CT 127 #[(.string s),(lI 10)] (Ac 5 []) bF (Ac 6 []):=by
 intro k
 induction k with
 |zero=>
  intro p j hk hp hr
  have hpp:p=P:=by omega
  subst hpp
  obtain⟨r,w,h1,h2,h3⟩:=dec_bad hP hb
  obtain⟨v,h4,_,h5⟩:=dox 6 r om h2 h3
  exact wbp_x s t c p r w v j hP h1 h5 h4 hr
 |succ k ih=>
  intro p j hk hp hr
  have r:=wbp_r s t c p _ j (isD_lt (hg p om)) om (dec_good om (hg p om))
  exact ih (p+1) _ om om (hr.trans r)
theorem wbpxc(n0:Nat)(s t:ByteArray)(c:UInt8)(hG:5≤n0)(hs: ∀n0,5≤n0→FT 128 #[.string s] n0 [] (.tuple #[.bool false,.string t]) [] [])(hne:(t.toList==(Seg.bts []).toList)=false)(hx:t[0]? =some c)(hc:c≠48){P:Nat}(hP:P<t.size)(hg: ∀q (hq:q<P),Xj (t[q]'om)=true)(hb:Xj (t[P]'hP)=false):FT 127 #[(.string s),(lI 10)] n0 [] bF [] []:=
 Dy n0 (wbp_loop hP hg hb _ _ _ rfl (Nat.zero_le _) (wbp_in s t c hs hne hx hc)) hG
theorem wbme(s:ByteArray)(hs: ∀n0,5≤n0→FT 128 #[.string s] n0 [] (.tuple #[.bool true,.string (Seg.bts [])]) [] []):CT 127 #[(.string s),(lI 10)] (Ac 5 []) bF (Ac 5 []):=
 sF (sc:=[(7,.call [] (.tuple #[bT,(.string (bts []))]) [] []),(10,.op (.rwB true)),(20,.stay)]) kr (aI (hs 5 om) (aI (show ((bts []).toList==(bts []).toList)=true from (by simp only[decide_eq_true_eq,decide_eq_false_iff_not,beq_iff_eq,beq_eq_false_iff_ne,bne_iff_ne,bne_eq_false_iff_eq,ne_eq,gt_iff_lt,ge_iff_le]<;>omega)) tt)) (Gets.refl _)
theorem wbmec(n0:Nat)(s:ByteArray)(hG:5≤n0)(hs: ∀n0,5≤n0→FT 128 #[.string s] n0 [] (.tuple #[.bool true,.string (Seg.bts [])]) [] []):FT 127 #[(.string s),(lI 10)] n0 [] bF [] []:=
 Dy n0 (wbme s hs) hG
theorem wbmz(s t:ByteArray)(c:UInt8)(hs: ∀n0,5≤n0→FT 128 #[.string s] n0 [] (.tuple #[.bool true,.string t]) [] [])(hne:(t.toList==(Seg.bts []).toList)=false)(hx:t[0]? =some c)(hc:c=48):CT 127 #[(.string s),(lI 10)] (Ac 5 []) bF (Ac 5 []):=
 sF (sc:=[(7,.call [] (.tuple #[bT,(.string t)]) [] []),(10,.op (.rwB false)),(2,.op (.sidx c)),(0,.op (.rwB true)),(27,.stay)]) kr (aI (hs 5 om) (aI hne (aI (show 0≤(0:Int)∧t[Int.toNat (0:Int)]? =some c from⟨by omega,hx⟩) (aI (show (((c.toNat:Nat):Int)==(48:Int))=true from (byte_0 hc)) tt)))) (Gets.refl _)
theorem wbmzc(n0:Nat)(s t:ByteArray)(c:UInt8)(hG:5≤n0)(hs: ∀n0,5≤n0→FT 128 #[.string s] n0 [] (.tuple #[.bool true,.string t]) [] [])(hne:(t.toList==(Seg.bts []).toList)=false)(hx:t[0]? =some c)(hc:c=48):FT 127 #[(.string s),(lI 10)] n0 [] bF [] []:=
 Dy n0 (wbmz s t c hs hne hx hc) hG
noncomputable def wbm_h_f(s t:ByteArray)(c:UInt8)(p:Nat)(j:List Value):Frame:=(Fr 127 ([(.string s),(lI 10),uu,uu,(J j 0),bT,(.string t),uu]++(jj j 1 4 ([bT,(J j 5),(J j 6),bF,bF,(J j 7),(J j 8),bF,bF]++(uj 6 ([bF,bF,(J j 9),(pt 5)]++(jj j 10 7 [])))))) [.code (cd Tryz.f127 [1,1,1,0,1,0,0]),.inLoop (cd Tryz.f127 [1,1,1,0,1,0,0]),.inBlock 0,.code (cd Tryz.f127 [1,1,1,1])])
noncomputable def wbm_h_o(s t:ByteArray)(c:UInt8)(p:Nat):List (Nat×AObj):=[(5,(.iter t p))]
noncomputable def wbm_h(s t:ByteArray)(c:UInt8)(p:Nat)(j:List Value):AS:=⟨wbm_h_f s t c p j,[],Ac 6 (wbm_h_o s t c p)⟩
theorem wbm_in(s t:ByteArray)(c:UInt8)(hs: ∀n0,5≤n0→FT 128 #[.string s] n0 [] (.tuple #[.bool true,.string t]) [] [])(hne:(t.toList==(Seg.bts []).toList)=false)(hx:t[0]? =some c)(hc:c≠48):GT (z_e09_0 s) (wbm_h s t c 0 [bF,undef,(.tuple #[bT,(.string t)]),(.string s),(.tuple #[bT,(.string t)]),(.string t),(.string t),(.string t),(nB c.toNat),(.string t),undef,undef,undef,undef,undef,undef,undef]):=
 sR (sc:=[(7,.call [] (.tuple #[bT,(.string t)]) [] []),(10,.op (.rwB false)),(2,.op (.sidx c)),(0,.op (.rwB false)),(20,.stay)]) kr (aI (hs 5 om) (aI hne (aI (show 0≤(0:Int)∧t[Int.toNat (0:Int)]? =some c from⟨by omega,hx⟩) (aI (show (((c.toNat:Nat):Int)==(48:Int))=false from (byte_n0 hc)) tt))))
theorem wbm_r(s t:ByteArray)(c:UInt8)(p q:Nat)(j:List Value)(hq:q<10)(hp:p<t.size)(he:Utf8.decode t p=(48+q,1)):GT (wbm_h s t c p j) (wbm_h s t c (p+1) ([(J j 0),(nR (48+q))]++(jj j 2 8 [(.tuple #[bT,(nI p),(nR (48+q))]),bT,(nR (48+q)),(nR (48+q)),(nI q),(lI 10),bF]))):=
 sR (sc:=[(2,.op (.nxtC (48+q) 1 (p+1))),(14,.call [] (nI q) [] []),(1,.op (.rwB false)),(5,.stay)]) kr (aI (show p<t.size∧Utf8.decode t p=((48+q),1)∧p+1=(p+1) from⟨hp,he,rfl⟩) (aI (do_c 6 q om hq) (aI (dF (p:=(q:Int)≥(10:Int))) tt)))
theorem wbm_x(s t:ByteArray)(c:UInt8)(p r w v:Nat)(j:List Value)(hp:p<t.size)(he:Utf8.decode t p=(r,w))(hv:(FT 167 #[.int .i32 (r:Int)] 6 [] (.int .i64 (v:Int)) [] []))(h10:10≤v)(hr:GT (z_e09_0 s) (wbm_h s t c p j)):CT 127 #[(.string s),(lI 10)] (Ac 5 []) bF (Ac 6 []):=
 sF (sc:=[(2,.op (.nxtC r w (p+w))),(14,.call [] (nI v) [] []),(1,.op (.rwB true)),(7,.stay)]) kr (aI (show p<t.size∧Utf8.decode t p=(r,w)∧p+w=(p+w) from⟨hp,he,rfl⟩) (aI hv (aI (dT (p:=(v:Int)≥(10:Int))) tt))) hr
theorem wbm_loop{s t:ByteArray}{c:UInt8}{P:Nat}(hP:P<t.size)(hg: ∀q (hq:q<P),Xj (t[q]'om)=true)(hb:Xj (t[P]'hP)=false): ∀(k p:Nat) (j:List Value),k=P-p→p≤P→
  GT (Ca 127 #[(.string s),(lI 10)] 5 []) (wbm_h s t c p j)→CT 127 #[(.string s),(lI 10)] (Ac 5 []) bF (Ac 6 []):=by
 intro k
 induction k with
 |zero=>
  intro p j hk hp hr
  have hpp:p=P:=by omega
  subst hpp
  obtain⟨r,w,h1,h2,h3⟩:=dec_bad hP hb
  obtain⟨v,h4,_,h5⟩:=dox 6 r om h2 h3
  exact wbm_x s t c p r w v j hP h1 h5 h4 hr
 |succ k ih=>
  intro p j hk hp hr
  have r:=wbm_r s t c p _ j (isD_lt (hg p om)) om (dec_good om (hg p om))
  exact ih (p+1) _ om om (hr.trans r)
theorem wbmxc(n0:Nat)(s t:ByteArray)(c:UInt8)(hG:5≤n0)(hs: ∀n0,5≤n0→FT 128 #[.string s] n0 [] (.tuple #[.bool true,.string t]) [] [])(hne:(t.toList==(Seg.bts []).toList)=false)(hx:t[0]? =some c)(hc:c≠48){P:Nat}(hP:P<t.size)(hg: ∀q (hq:q<P),Xj (t[q]'om)=true)(hb:Xj (t[P]'hP)=false):FT 127 #[(.string s),(lI 10)] n0 [] bF [] []:=
 Dy n0 (wbm_loop hP hg hb _ _ _ rfl (Nat.zero_le _) (wbm_in s t c hs hne hx hc)) hG
theorem ba_ext{s:ByteArray}{l:List UInt8}(h:s.data.toList=l):s=⟨l.toArray⟩:=by
 apply ByteArray.ext;apply Array.ext';simpa using h
theorem ba_cut(b:UInt8)(l:List UInt8):(⟨(b::l).toArray⟩:ByteArray).extract 0 1=⟨[b].toArray⟩:=by
 apply ByteArray.ext;simp only[ByteArray.data_extract];apply Array.ext'
 rw[Array.toList_extract,List.extract_eq_take_drop];simp
theorem ba_rest(b:UInt8)(l:List UInt8):(⟨(b::l).toArray⟩:ByteArray).extract 1 (⟨(b::l).toArray⟩:ByteArray).size=⟨l.toArray⟩:=by
 apply ByteArray.ext;simp only[ByteArray.data_extract];apply Array.ext'
 rw[Array.toList_extract,List.extract_eq_take_drop];simp[ByteArray.size]
theorem ba_ne(l m:List UInt8)(h:l≠m):((⟨l.toArray⟩:ByteArray).toList==(Seg.bts (m.map (·.toNat))).toList)=false:=by
 rw[ByteArray.toList_eq,ByteArray.toList_eq,beq_eq_false_iff_ne]
 intro h1;apply h
 have h2:l=m.map (fun b=>UInt8.ofNat b.toNat):=by simpa [Seg.bts,Function.comp_def] using h1
 rw[h2];conv=>rhs;rw[←List.map_id m]
 exact List.map_congr_left fun b _=>UInt8.ofNat_toNat
theorem ds_head{c:UInt8}{l:List UInt8}(he:Aa (dsOf ⟨(c::l).toArray⟩)=⟨(c::l).toArray⟩)(hc:c≠48):(dsOf ⟨(c::l).toArray⟩).getD 0 0≠0:=by
 have h2:=congrArg (fun t=>t.data.toList.head?) he
 simp only[Aa,dsOf,List.map_cons,List.head?_cons,Option.some.injEq]at h2
 intro h0
 have h3:c.toNat-48=0:=h0
 rw[h3]at h2;exact hc h2.symm
theorem ds_m{ds:List Nat}{l:List UInt8}(he:Aa ds=⟨l.toArray⟩):(⟨((45:UInt8)::l).toArray⟩:ByteArray)=Bg ds:=by
 have h2:ds.map (fun d=>UInt8.ofNat (48+d))=l:=by have:=congrArg (fun t=>t.data.toList) he;simpa [Aa] using this
 subst h2;rfl
theorem kif(s:ByteArray)(hw: ∀n0,5≤n0→FT 127 #[.string s,.int .i64 (.ofNat 10)] n0 [] bF [] []):CT 145 #[(.string s)] (Ac 5 []) (lI 0) (Ac 5 []):=
 sF (sc:=[(8,.call [] bF [] []),(8,.stay)]) kr (aI (hw 5 om) tt) (Gets.refl _)
theorem kifc(n0:Nat)(s:ByteArray)(hG:5≤n0)(hw: ∀n0,5≤n0→FT 127 #[.string s,.int .i64 (.ofNat 10)] n0 [] bF [] []):FT 145 #[(.string s)] n0 [] (lI 0) [] []:=
 Dy n0 (kif s hw) hG
theorem kipe(ds:List Nat)(hd:Dig ds)(h0:0<ds.length)(h1:ds.getD 0 0≠0)(hs:400<(Aa ds).size):CT 145 #[(.string (Aa ds))] (Ac 5 []) (lI 1) (Ac 5 []):=
 sF (sc:=[(8,.call [] bT [] []),(7,.call [] (.tuple #[bF,(.string (Aa ds))]) [] []),(12,.op (.rwB true)),(8,.stay)]) kr (aI (wfpc 5 ds om hd h0 h1) (aI (so_pc 5 ds om hd h0) (aI (dT (p:=(((Aa ds).size:Nat):Int)>(400:Int))) tt))) (Gets.refl _)
theorem kipec(n0:Nat)(ds:List Nat)(hG:5≤n0)(hd:Dig ds)(h0:0<ds.length)(h1:ds.getD 0 0≠0)(hs:400<(Aa ds).size):FT 145 #[(.string (Aa ds))] n0 [] (lI 1) [] []:=
 Dy n0 (kipe ds hd h0 h1 hs) hG
theorem kime(ds:List Nat)(hd:Dig ds)(h0:0<ds.length)(h1:ds.getD 0 0≠0)(hs:400<(Aa ds).size):CT 145 #[(.string (Bg ds))] (Ac 5 []) (lI 1) (Ac 5 []):=
 sF (sc:=[(8,.call [] bT [] []),(7,.call [] (.tuple #[bT,(.string (Aa ds))]) [] []),(12,.op (.rwB true)),(8,.stay)]) kr (aI (wfmc 5 ds om hd h0 h1) (aI (so_mc 5 ds om) (aI (dT (p:=(((Aa ds).size:Nat):Int)>(400:Int))) tt))) (Gets.refl _)
theorem kimec(n0:Nat)(ds:List Nat)(hG:5≤n0)(hd:Dig ds)(h0:0<ds.length)(h1:ds.getD 0 0≠0)(hs:400<(Aa ds).size):FT 145 #[(.string (Bg ds))] n0 [] (lI 1) [] []:=
 Dy n0 (kime ds hd h0 h1 hs) hG
noncomputable def sc_h_f(zs:List Nat)(n c f l q i:Nat)(j:List Value):Frame:=(Fr 169 ([(sl 5 n c),(nU f),(nU l),uu,uu,uu,(nU q),(J j 0),(J j 1),(nU l),(sl 5 n c),(nI n),(nI i)]++(jj j 2 20 [uu])) [.code (cd Tryz.f169 [1,1,0,1,0,0]),.inLoop (cd Tryz.f169 [1,1,0,1,0,0]),.inBlock 0,.code (cd Tryz.f169 [1,1,1])])
noncomputable def sc_h_o(zs:List Nat)(n c f l q i:Nat):List (Nat×AObj):=[(5,(cU zs))]
noncomputable def sc_h(zs:List Nat)(n c f l q i:Nat)(j:List Value):AS:=⟨sc_h_f zs n c f l q i j,[],Ac 6 (sc_h_o zs n c f l q i)⟩
theorem sc_in(xs:List Nat)(n c f l:Nat):GT (Ca 169 #[(sl 5 n c),(nU f),(nU l)] 6 [(5,(cU xs))]) (sc_h xs n c f l l 0 [undef,undef,undef,undef,undef,undef,undef,undef,undef,undef,undef,undef,undef,undef,undef,undef,undef,undef,undef,undef,undef,undef]):=
 sR (sc:=[(18,.stay)]) kr tt
theorem sc_r(zs:List Nat)(n c f l q i p:Nat)(j:List Value)(hi:i<n)(hm:n<1099511627776)(hc:n≤zs.length)(ha:zs.getD i 0<1000000000)(hp:p=zs.getD i 0*f)(hp2:p≤999999999000000000)(hq:q≤1000000000):GT (sc_h zs n c f l q i j) (sc_h (zs.set i ((p+q)%1000000000)) n c f l ((p+q)/1000000000) (i+1) [(nI i),(nU (p+q)),bT,(nI i),(sl 5 n c),(nI i),(pp 5 i),(nW (zs.getD i 0)),(nU (zs.getD i 0)),(nU f),(nU p),(nU q),(nU (p+q)),(nU (p+q)),(nU ((p+q)/1000000000)),(sl 5 n c),(nI i),(nU (p+q)),(nU ((p+q)%1000000000)),(nW ((p+q)%1000000000)),(pp 5 i),(nI (i+1))]):=
 sR (sc:=[(2,.op (.rwB true)),(15,.op (.idx i)),(0,.op (.ld (nW (zs.getD i 0)))),(0,.op (.rwI (((zs.getD i 0):Nat):Int))),(1,.op (.rwI (p:Int))),(1,.op (.rwI (((p+q):Nat):Int))),(5,.op (.rwI ((((p+q)/1000000000):Nat):Int))),(6,.op (.rwI ((((p+q)%1000000000):Nat):Int))),(0,.op (.rwI ((((p+q)%1000000000):Nat):Int))),(0,.op (.idx i)),(0,.op (.st (ns .u32 (zs.set i ((p+q)%1000000000))))),(3,.op (.rwI (((i+1):Nat):Int))),(3,.stay)]) kr (aI (dT (p:=(i:Int)<(n:Int))) (aI (ix (i:Int) (n:Int) 0 1 i) (aI (Aq (k:=.u32) (xs:=zs) (i:=i)) (aI (He (a:=(((zs.getD i 0):Nat):Int)) (r:=(((zs.getD i 0):Nat):Int))) (aI (show IntKind.wrap .u64 ((((zs.getD i 0):Nat):Int)*(f:Int))=(p:Int) from (by subst hp;rw[Ee om om]<;>omega)) (aI (He (a:=((p:Int)+(q:Int))) (r:=(((p+q):Nat):Int))) (aI (show IntKind.wrap .u64 (Int.tdiv (((p+q):Nat):Int) (1000000000:Int))=((((p+q)/1000000000):Nat):Int) from (by rw[Int.tdiv_eq_ediv_of_nonneg om,Ee om om]<;>omega)) (aI (show (Int.tmod (((p+q):Nat):Int) (1000000000:Int))=((((p+q)%1000000000):Nat):Int) from (by rw[Int.tmod_eq_emod_of_nonneg om]<;>omega)) (aI (Br (a:=((((p+q)%1000000000):Nat):Int)) (r:=((((p+q)%1000000000):Nat):Int))) (aI (ix (i:Int) (n:Int) 0 1 i) (aI (show i+1≤(ns .u32 zs).length∧Bq (ns .u32 zs) i [(nW ((p+q)%1000000000))]=(ns .u32 (zs.set i ((p+q)%1000000000))) from (Dw)) (aI (Am (a:=((i:Int)+(1:Int))) (r:=(((i+1):Nat):Int))) tt))))))))))))
theorem sc_o(xs zs:List Nat)(n c f l q i:Nat)(j:List Value)(hi:n≤i)(hr:GT (Ca 169 #[(sl 5 n c),(nU f),(nU l)] 6 [(5,(cU xs))]) (sc_h zs n c f l q i j)):CT 169 #[(sl 5 n c),(nU f),(nU l)] (Ac 6 [(5,(cU xs))]) (nU q) (Ac 6 [(5,(cU zs))]):=
 sF (sc:=[(2,.op (.rwB false)),(10,.stay)]) kr (aI (dF (p:=(i:Int)<(n:Int))) tt) hr
theorem sc_all{s0:AS}{n c f l T:Nat}(hf:f≤1000000000)(hm:n<1099511627776): ∀(m i:Nat) (zs:List Nat) (q:Nat) (j:List Value),m=n-i→i≤n→zs.length=n→Lim zs→q≤1000000000→
  val (zs.take i)+q*1000000000^i+f*(1000000000^i*val (zs.drop i))=T→GT s0 (sc_h zs n c f l q i j)→
  ∃zs' q' j',zs'.length=n∧Lim zs'∧val zs'+q'*1000000000^n=T∧GT s0 (sc_h zs' n c f l q' n j'):=by
 intro m
 induction m with
 |zero=>
  intro i zs q j hm2 hi hz hl hq hv hr
  have:i=n:=by omega
  subst this
  rw[List.take_of_length_le om,List.drop_eq_nil_of_le om,show val []=0 from rfl,Nat.mul_zero,Nat.mul_zero,Nat.add_zero]at hv
  exact⟨zs,q,j,hz,hl,hv,hr⟩
 |succ m ih=>
  intro i zs q j hm2 hi hz hl hq hv hr
  have ha:=hl.get i
  have hp2:zs.getD i 0*f≤999999999000000000:=Nat.mul_le_mul (show zs.getD i 0≤999999999 by omega) hf
  have r:=sc_r zs n c f l q i _ j om hm om ha rfl hp2 hq
  have hv':=scale_round (show i<zs.length by omega) hv
  refine ih (i+1) _ _ _ om om (by rw[List.length_set];exact hz) (hl.set (Nat.mod_lt _ de)) ?_ hv' (hr.trans r)
  generalize zs.getD i 0*f=p at*
  omega
theorem sc_c(n0 b:Nat)(xs:List Nat)(n c f l:Nat)(hb:5≤b∧b<n0)(hlx:Lim xs)(hx:xs.length=n)(hm:n<1099511627776)(hf:f≤1000000000)(hl:l≤1000000000):
  ∃zs q,zs.length=n∧Lim zs∧val zs+q*1000000000^n=f*val xs+l∧
   FT 169 #[sl b n c,.int .u64 (f:Nat),.int .u64 (l:Nat)] n0 [(b,cU xs)] (nU q) [(b,some (cU zs))] []:=by
 obtain⟨zs,q,j,h1,h2,h3,h4⟩:=sc_all (T:=f*val xs+l) hf hm n 0 xs l _ rfl (Nat.zero_le _) hx hlx hl (by rw[List.take_zero,List.drop_zero,Nat.pow_zero,Nat.one_mul,Nat.mul_one,show val []=0 from rfl];omega) (sc_in xs n c f l)
 exact⟨zs,q,h1,h2,h3,ff [b] [cU xs] [cU zs] [] [] n0 (sc_o xs zs n c f l q n j (Nat.le_refl _) h4)⟩
noncomputable section
abbrev z_1bb_0(r i:Nat)(zs:List Nat):Value:=nU ((r*1000000000)+(zs.getD i 0))
end
noncomputable def sh_h_f(zs:List Nat)(n c d r:Nat)(i:Int)(j:List Value):Frame:=(Fr 155 ([(sl 5 n c),(nU d),uu,uu,(nU r),(.int .i64 i),(J j 0),(sl 5 n c),(nI n),(.int .i64 ((n:Int)-1))]++(jj j 1 22 [uu])) [.code (cd Tryz.f155 [1,0,1,0,0]),.inLoop (cd Tryz.f155 [1,0,1,0,0]),.inBlock 0,.code (cd Tryz.f155 [1,1])])
noncomputable def sh_h_o(zs:List Nat)(n c d r:Nat)(i:Int):List (Nat×AObj):=[(5,(cU zs))]
noncomputable def sh_h(zs:List Nat)(n c d r:Nat)(i:Int)(j:List Value):AS:=⟨sh_h_f zs n c d r i j,[],Ac 6 (sh_h_o zs n c d r i)⟩
theorem sh_in(xs:List Nat)(n c d:Nat)(hm:n<1099511627776):GT (Ca 155 #[(sl 5 n c),(nU d)] 6 [(5,(cU xs))]) (sh_h xs n c d 0 ((n:Int)-1) [undef,undef,undef,undef,undef,undef,undef,undef,undef,undef,undef,undef,undef,undef,undef,undef,undef,undef,undef,undef,undef,undef,undef]):=
 sR (sc:=[(9,.op (.rwI ((n:Int)-1))),(4,.stay)]) kr (aI (Am (a:=((n:Int)-(1:Int))) (r:=((n:Int)-1))) tt)
theorem sh_r(zs:List Nat)(n c d r i v:Nat)(j:List Value)(hi:i<n)(hm:n<1099511627776)(hc:n≤zs.length)(ha:zs.getD i 0<1000000000)(hr:r<d)(hd0:0<d)(hd:d≤1000000000)(hv:v=(r*1000000000+zs.getD i 0)/d)(hq:v<1000000000):GT (sh_h zs n c d r i j) (sh_h (zs.set i v) n c d (((r*1000000000)+(zs.getD i 0))%d) ((i:Int)-1) [(z_1bb_0 r i zs),(nI i),bT,(nI i),(.int .i64 ((i:Int)-1)),(nU r),(nU (r*1000000000)),(sl 5 n c),(nI i),(pp 5 i),(nW (zs.getD i 0)),(nU (zs.getD i 0)),(z_1bb_0 r i zs),(sl 5 n c),(nI i),(z_1bb_0 r i zs),(nU d),(nU v),(nW v),(pp 5 i),(z_1bb_0 r i zs),(nU d),(nU (((r*1000000000)+(zs.getD i 0))%d))]):=
 sR (sc:=[(4,.op (.rwB true)),(8,.op (.rwI (((r*1000000000):Nat):Int))),(2,.op (.idx i)),(0,.op (.ld (nW (zs.getD i 0)))),(0,.op (.rwI (((zs.getD i 0):Nat):Int))),(0,.op (.rwI ((((r*1000000000)+(zs.getD i 0)):Nat):Int))),(8,.op (.div (v:Int))),(0,.op (.rwI (v:Int))),(0,.op (.idx i)),(0,.op (.st (ns .u32 (zs.set i v)))),(4,.op (.div (((((r*1000000000)+(zs.getD i 0))%d):Nat):Int))),(5,.op (.rwI ((i:Int)-1))),(3,.stay)]) kr (aI (dT (p:=(i:Int)≥(0:Int))) (aI (He (a:=((r:Int)*(1000000000:Int))) (r:=(((r*1000000000):Nat):Int))) (aI (ix (i:Int) (n:Int) 0 1 i) (aI (Aq (k:=.u32) (xs:=zs) (i:=i)) (aI (He (a:=(((zs.getD i 0):Nat):Int)) (r:=(((zs.getD i 0):Nat):Int))) (aI (He (a:=((((r*1000000000):Nat):Int)+(((zs.getD i 0):Nat):Int))) (r:=((((r*1000000000)+(zs.getD i 0)):Nat):Int))) (aI (show (d:Int)≠0∧IntKind.wrap .u64 (Int.tdiv ((((r*1000000000)+(zs.getD i 0)):Nat):Int) (d:Int))=(v:Int) from⟨by omega,by rw[Int.tdiv_eq_ediv_of_nonneg om,show ∀a b:Nat,(a:Int)/(b:Int)=((a/b:Nat):Int) from fun _ _=>rfl,←hv,Ee om om]⟩) (aI (Br (a:=(v:Int)) (r:=(v:Int))) (aI (ix (i:Int) (n:Int) 0 1 i) (aI (show i+1≤(ns .u32 zs).length∧Bq (ns .u32 zs) i [(nW v)]=(ns .u32 (zs.set i v)) from (Dw)) (aI (show (d:Int)≠0∧(Int.tmod ((((r*1000000000)+(zs.getD i 0)):Nat):Int) (d:Int))=(((((r*1000000000)+(zs.getD i 0))%d):Nat):Int) from⟨by omega,by rw[Int.tmod_eq_emod_of_nonneg om];rfl⟩) (aI (Am (a:=((i:Int)-(1:Int))) (r:=((i:Int)-1))) tt))))))))))))
theorem sh_o(xs zs:List Nat)(n c d r:Nat)(i:Int)(j:List Value)(hi:i<0)(hr:GT (Ca 155 #[(sl 5 n c),(nU d)] 6 [(5,(cU xs))]) (sh_h zs n c d r i j)):CT 155 #[(sl 5 n c),(nU d)] (Ac 6 [(5,(cU xs))]) (nU r) (Ac 6 [(5,(cU zs))]):=
 sF (sc:=[(4,.op (.rwB false)),(9,.stay)]) kr (aI (dF (p:=i≥(0:Int))) tt) hr
theorem sh_all{s0:AS}{n c d T:Nat}(hd0:0<d)(hd:d≤1000000000)(hm:n<1099511627776): ∀(i:Nat) (zs:List Nat) (r:Nat) (j:List Value),i≤n→zs.length=n→Lim zs→r<d→
  val (zs.take i)+1000000000^i*r+d*(1000000000^i*val (zs.drop i))=T→GT s0 (sh_h zs n c d r ((i:Int)-1) j)→
  ∃zs' r' i' j',zs'.length=n∧Lim zs'∧r'<d∧d*val zs'+r'=T∧i'<0∧GT s0 (sh_h zs' n c d r' i' j'):=by
 intro i
 induction i with
 |zero=>
  intro zs r j hi hz hl hrd hv hr
  refine⟨zs,r,_,j,hz,hl,hrd,?_,?_,hr⟩
  ·rw[List.take_zero,List.drop_zero,Nat.pow_zero,Nat.one_mul,Nat.one_mul,show val []=0 from rfl]at hv
   omega
  ·omega
 |succ i ih=>
  intro zs r j hi hz hl hrd hv hr
  rw[show ((i+1:Nat):Int)-1=(i:Int) by omega]at hr
  have ha:=hl.get i
  have hlt:r*1000000000+zs.getD i 0<d*1000000000:=by omega
  have hq:(r*1000000000+zs.getD i 0)/d<1000000000:=Nat.div_lt_of_lt_mul hlt
  have q:=sh_r zs n c d r i _ j om hm om ha hrd hd0 hd rfl hq
  have hv':=shrink_round (show i<zs.length by omega) hv
  exact ih _ _ _ om (by rw[List.length_set];exact hz) (hl.set hq) (Nat.mod_lt _ hd0) hv' (hr.trans q)
theorem sh_c(n0 b:Nat)(xs:List Nat)(n c d:Nat)(hb:5≤b∧b<n0)(hlx:Lim xs)(hx:xs.length=n)(hm:n<1099511627776)(hd0:0<d)(hd:d≤1000000000):
  ∃zs r,zs.length=n∧Lim zs∧r<d∧d*val zs+r=val xs∧
   FT 155 #[sl b n c,.int .u64 (d:Nat)] n0 [(b,cU xs)] (nU r) [(b,some (cU zs))] []:=by
 obtain⟨zs,r,i,j,h1,h2,h3,h4,h5,h6⟩:=sh_all (T:=val xs) hd0 hd hm n xs 0 _ (Nat.le_refl _) hx hlx hd0 (by rw[List.take_of_length_le om,List.drop_eq_nil_of_le om,show val []=0 from rfl];simp) (sh_in xs n c d hm)
 exact⟨zs,r,h1,h2,h3,h4,ff [b] [cU xs] [cU zs] [] [] n0 (sh_o xs zs n c d r i j h5 h6)⟩
end Go.Proofs.YtjbflfbhfnkmlaaGreatDoor
