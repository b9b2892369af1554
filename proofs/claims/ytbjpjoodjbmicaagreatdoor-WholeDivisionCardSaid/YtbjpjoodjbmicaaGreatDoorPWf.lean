import Derived.Test.YtbjpjoodjbmicaaGreatDoorPText
import Derived.Test.YtbjpjoodjbmicaaGreatDoorPNPlus
import Derived.Test.YtbjpjoodjbmicaaGreatDoorLE
set_option linter.unusedVariables false
set_option linter.unusedSimpArgs false
set_option maxRecDepth 100000
namespace Go.Proofs.YtbjpjoodjbmicaaGreatDoor
open Go Go.AE Seg
noncomputable section
abbrev z_756_0(ds:List Nat):Value:=.tuple #[bF,(.string (dstr ds))]
abbrev z_756_1(ds:List Nat):AS:=⟨Frame.enter Tryz.prog 127 #[(.string (dstr ds)),(lI 10)] .normal,[],mkH 5 []⟩
abbrev z_756_2(ds:List Nat):Value:=.tuple #[bT,(.string (dstr ds))]
abbrev z_756_3(d:Nat):Value:=nB ((UInt8.ofNat (48+d)).toNat)
end
theorem do_(q:Nat)(hq:q<10):CT 167 #[(nR (48+q))] (mkH 5 []) (nI q) (mkH 5 []):=
 sF (sc:=[(15,.op (.rwB false)),(11,.op (.rwB true)),(2,.op (.rwB true)),(9,.op (.rwI (q:Int))),(0,.op (.rwI (q:Int))),(3,.stay)]) (next:=5) (l:=[]) (by kernel_rfl) (aI (dF (p:=(97:Int)≤(((48+q):Nat):Int)) (by omega)) (aI (dT (p:=(48:Int)≤(((48+q):Nat):Int)) (by omega)) (aI (dT (p:=(((48+q):Nat):Int)≤(57:Int)) (by omega)) (aI (wI32 (a:=((((48+q):Nat):Int)-(48:Int))) (r:=(q:Int)) (by omega)) (aI (wI64 (a:=(q:Int)) (r:=(q:Int)) (by omega)) tt))))) (Gets.refl _)
theorem do_c(n0:Nat)(q:Nat)(hG:5≤n0)(hq:q<10):FT 167 #[(nR (48+q))] n0 [] (nI q) [] []:=
 fsp_flat [] [] [] [] [] n0 (do_ q hq) rfl rfl rfl (by simp) (by simp) hG rfl rfl rfl (by simp) (by simp) rfl rfl rfl
theorem ne_empty{ds:List Nat}(h:0<ds.length):((dstr ds).toList==(Seg.bts []).toList)=false:=by
 rw[ByteArray.toList_eq,ByteArray.toList_eq]
 cases ds with
 |nil=>simp at h
 |cons d ds=>rfl
theorem byte_zero{d:Nat}(h0:d=0):((((UInt8.ofNat (48+d)).toNat:Nat):Int)==(48:Int))=true:=by subst h0;rfl
theorem byte_ne{d:Nat}(h:d<10)(h0:d≠0):((((UInt8.ofNat (48+d)).toNat:Nat):Int)==(48:Int))=false:=by
 rw[byte_nat h,beq_eq_false_iff_ne];omega
noncomputable def wfp_h_f(ds:List Nat)(d p:Nat)(j:List Value):Frame:=⟨127,List.toArray [(.string (dstr ds)),(lI 10),uu,uu,(J j 0),bF,(.string (dstr ds)),uu,(J j 1),(J j 2),(J j 3),(J j 4),bF,(J j 5),(J j 6),bF,bF,(J j 7),(J j 8),bF,bF,uu,uu,uu,uu,uu,uu,bF,bF,(J j 9),(pt 5),(J j 10),(J j 11),(J j 12),(J j 13),(J j 14),(J j 15),(J j 16)],[.code (cd Tryz.f127 [1,1,1,0,1,0,0]),.inLoop (cd Tryz.f127 [1,1,1,0,1,0,0]),.inBlock 0,.code (cd Tryz.f127 [1,1,1,1])],[],.run,.normal,none⟩
noncomputable def wfp_h_o(ds:List Nat)(d p:Nat):List (Nat×AObj):=[(5,(.iter (dstr ds) p))]
noncomputable def wfp_h(ds:List Nat)(d p:Nat)(j:List Value):AS:=⟨wfp_h_f ds d p j,[],mkH 6 (wfp_h_o ds d p)⟩
theorem wfp_in(ds:List Nat)(d:Nat)(hd:Dig ds)(h0:0<ds.length)(h1:d<10)(h2:d≠0)(hx:(dstr ds)[0]? =some (UInt8.ofNat (48+d))):GT (z_756_1 ds) (wfp_h ds d 0 [bF,undef,(z_756_0 ds),(.string (dstr ds)),(z_756_0 ds),(.string (dstr ds)),(.string (dstr ds)),(.string (dstr ds)),(z_756_3 d),(.string (dstr ds)),undef,undef,undef,undef,undef,undef,undef]):=
 sR (sc:=[(7,.call [] (z_756_0 ds) [] []),(10,.op (.rwB false)),(2,.op (.sidx (UInt8.ofNat (48+d)))),(0,.op (.rwB false)),(20,.stay)]) (fr1:=wfp_h_f ds d 0 [bF,uu,(z_756_0 ds),(.string (dstr ds)),(z_756_0 ds),(.string (dstr ds)),(.string (dstr ds)),(.string (dstr ds)),(z_756_3 d),(.string (dstr ds)),uu,uu,uu,uu,uu,uu,uu]) (next:=6) (l:=wfp_h_o ds d 0) (by kernel_rfl) (aI (so_pc 5 ds (by omega) hd h0) (aI (show ((dstr ds).toList==(bts []).toList)=false from (ne_empty h0)) (aI (show 0≤(0:Int)∧(dstr ds)[Int.toNat (0:Int)]? =some (UInt8.ofNat (48+d)) from⟨by omega,hx⟩) (aI (show ((((UInt8.ofNat (48+d)).toNat:Nat):Int)==(48:Int))=false from (byte_ne h1 h2)) tt))))
theorem wfp_r(ds:List Nat)(d p q:Nat)(j:List Value)(hq:q<10)(hp:p<(dstr ds).size)(he:Utf8.decode (dstr ds) p=(48+q,1)):GT (wfp_h ds d p j) (wfp_h ds d (p+1) [(J j 0),(nR (48+q)),(J j 2),(J j 3),(J j 4),(J j 5),(J j 6),(J j 7),(J j 8),(J j 9),(.tuple #[bT,(nI p),(nR (48+q))]),bT,(nR (48+q)),(nR (48+q)),(nI q),(lI 10),bF]):=
 sR (sc:=[(2,.op (.nxtC (48+q) 1 (p+1))),(14,.call [] (nI q) [] []),(1,.op (.rwB false)),(5,.stay)]) (fr1:=wfp_h_f ds d (p+1) [(J j 0),(nR (48+q)),(J j 2),(J j 3),(J j 4),(J j 5),(J j 6),(J j 7),(J j 8),(J j 9),(.tuple #[bT,(nI p),(nR (48+q))]),bT,(nR (48+q)),(nR (48+q)),(nI q),(lI 10),bF]) (next:=6) (l:=wfp_h_o ds d (p+1)) (by kernel_rfl) (aI (show p<(dstr ds).size∧Utf8.decode (dstr ds) p=((48+q),1)∧p+1=(p+1) from⟨hp,he,rfl⟩) (aI (do_c 6 q (by omega) hq) (aI (dF (p:=(q:Int)≥(10:Int)) (by omega)) tt)))
theorem wfp_o(ds:List Nat)(d p:Nat)(j:List Value)(hp:(dstr ds).size≤p)(hr:GT (z_756_1 ds) (wfp_h ds d p j)):CT 127 #[(.string (dstr ds)),(lI 10)] (mkH 5 []) bT (mkH 6 []):=
 sF (sc:=[(2,.op (.nxtE)),(10,.stay)]) (next:=6) (l:=[]) (by kernel_rfl) (aI (show ¬p<(dstr ds).size from (by omega)) tt) hr
theorem wfp_loop{ds:List Nat}{d:Nat}(hd:Dig ds): ∀(k p:Nat) (j:List Value),k=ds.length-p→p≤ds.length→
  GT ⟨Frame.enter Tryz.prog 127 #[(.string (dstr ds)),(lI 10)] .normal,[],mkH 5 []⟩ (wfp_h ds d p j)→CT 127 #[(.string (dstr ds)),(lI 10)] (mkH 5 []) bT (mkH 6 []):=by
 intro k
 induction k with
 |zero=>
  intro p j hk hp hr
  exact wfp_o ds d p j (by rw[dstr_size];omega) hr
 |succ k ih=>
  intro p j hk hp hr
  have r:=wfp_r ds d p (ds.getD p 0) j (hd.get p) (by rw[dstr_size];omega) (decode_dstr hd (by omega))
  exact ih (p+1) _ (by omega) (by omega) (hr.trans r)
theorem wfpc(n0:Nat)(ds:List Nat)(hG:5≤n0)(hd:Dig ds)(h0:0<ds.length)(h1:ds.getD 0 0≠0):FT 127 #[(.string (dstr ds)),(lI 10)] n0 [] bT [] []:=
 fsp_flat [] [] [] [] [] n0 (wfp_loop hd _ _ _ rfl (Nat.zero_le _) (wfp_in ds _ hd h0 (hd.get 0) h1 (dstr_get h0))) rfl rfl rfl (by simp) (by simp) hG rfl rfl rfl (by simp) (by simp) rfl rfl rfl
noncomputable def wfm_h_f(ds:List Nat)(d p:Nat)(j:List Value):Frame:=⟨127,List.toArray [(.string (mstr ds)),(lI 10),uu,uu,(J j 0),bT,(.string (dstr ds)),uu,(J j 1),(J j 2),(J j 3),(J j 4),bT,(J j 5),(J j 6),bF,bF,(J j 7),(J j 8),bF,bF,uu,uu,uu,uu,uu,uu,bF,bF,(J j 9),(pt 5),(J j 10),(J j 11),(J j 12),(J j 13),(J j 14),(J j 15),(J j 16)],[.code (cd Tryz.f127 [1,1,1,0,1,0,0]),.inLoop (cd Tryz.f127 [1,1,1,0,1,0,0]),.inBlock 0,.code (cd Tryz.f127 [1,1,1,1])],[],.run,.normal,none⟩
noncomputable def wfm_h_o(ds:List Nat)(d p:Nat):List (Nat×AObj):=[(5,(.iter (dstr ds) p))]
noncomputable def wfm_h(ds:List Nat)(d p:Nat)(j:List Value):AS:=⟨wfm_h_f ds d p j,[],mkH 6 (wfm_h_o ds d p)⟩
theorem wfm_in(ds:List Nat)(d:Nat)(hd:Dig ds)(h0:0<ds.length)(h1:d<10)(h2:d≠0)(hx:(dstr ds)[0]? =some (UInt8.ofNat (48+d))):GT ⟨Frame.enter Tryz.prog 127 #[(.string (mstr ds)),(lI 10)] .normal,[],mkH 5 []⟩ (wfm_h ds d 0 [bF,undef,(z_756_2 ds),(.string (mstr ds)),(z_756_2 ds),(.string (dstr ds)),(.string (dstr ds)),(.string (dstr ds)),(z_756_3 d),(.string (dstr ds)),undef,undef,undef,undef,undef,undef,undef]):=
 sR (sc:=[(7,.call [] (z_756_2 ds) [] []),(10,.op (.rwB false)),(2,.op (.sidx (UInt8.ofNat (48+d)))),(0,.op (.rwB false)),(20,.stay)]) (fr1:=wfm_h_f ds d 0 [bF,uu,(z_756_2 ds),(.string (mstr ds)),(z_756_2 ds),(.string (dstr ds)),(.string (dstr ds)),(.string (dstr ds)),(z_756_3 d),(.string (dstr ds)),uu,uu,uu,uu,uu,uu,uu]) (next:=6) (l:=wfm_h_o ds d 0) (by kernel_rfl) (aI (so_mc 5 ds (by omega)) (aI (show ((dstr ds).toList==(bts []).toList)=false from (ne_empty h0)) (aI (show 0≤(0:Int)∧(dstr ds)[Int.toNat (0:Int)]? =some (UInt8.ofNat (48+d)) from⟨by omega,hx⟩) (aI (show ((((UInt8.ofNat (48+d)).toNat:Nat):Int)==(48:Int))=false from (byte_ne h1 h2)) tt))))
theorem wfm_r(ds:List Nat)(d p q:Nat)(j:List Value)(hq:q<10)(hp:p<(dstr ds).size)(he:Utf8.decode (dstr ds) p=(48+q,1)):GT (wfm_h ds d p j) (wfm_h ds d (p+1) [(J j 0),(nR (48+q)),(J j 2),(J j 3),(J j 4),(J j 5),(J j 6),(J j 7),(J j 8),(J j 9),(.tuple #[bT,(nI p),(nR (48+q))]),bT,(nR (48+q)),(nR (48+q)),(nI q),(lI 10),bF]):=
 sR (sc:=[(2,.op (.nxtC (48+q) 1 (p+1))),(14,.call [] (nI q) [] []),(1,.op (.rwB false)),(5,.stay)]) (fr1:=wfm_h_f ds d (p+1) [(J j 0),(nR (48+q)),(J j 2),(J j 3),(J j 4),(J j 5),(J j 6),(J j 7),(J j 8),(J j 9),(.tuple #[bT,(nI p),(nR (48+q))]),bT,(nR (48+q)),(nR (48+q)),(nI q),(lI 10),bF]) (next:=6) (l:=wfm_h_o ds d (p+1)) (by kernel_rfl) (aI (show p<(dstr ds).size∧Utf8.decode (dstr ds) p=((48+q),1)∧p+1=(p+1) from⟨hp,he,rfl⟩) (aI (do_c 6 q (by omega) hq) (aI (dF (p:=(q:Int)≥(10:Int)) (by omega)) tt)))
theorem wfm_o(ds:List Nat)(d p:Nat)(j:List Value)(hp:(dstr ds).size≤p)(hr:GT ⟨Frame.enter Tryz.prog 127 #[(.string (mstr ds)),(lI 10)] .normal,[],mkH 5 []⟩ (wfm_h ds d p j)):CT 127 #[(.string (mstr ds)),(lI 10)] (mkH 5 []) bT (mkH 6 []):=
 sF (sc:=[(2,.op (.nxtE)),(10,.stay)]) (next:=6) (l:=[]) (by kernel_rfl) (aI (show ¬p<(dstr ds).size from (by omega)) tt) hr
theorem wfm_loop{ds:List Nat}{d:Nat}(hd:Dig ds): ∀(k p:Nat) (j:List Value),k=ds.length-p→p≤ds.length→
  GT ⟨Frame.enter Tryz.prog 127 #[(.string (mstr ds)),(lI 10)] .normal,[],mkH 5 []⟩ (wfm_h ds d p j)→CT 127 #[(.string (mstr ds)),(lI 10)] (mkH 5 []) bT (mkH 6 []):=by
 intro k
 induction k with
 |zero=>
  intro p j hk hp hr
  exact wfm_o ds d p j (by rw[dstr_size];omega) hr
 |succ k ih=>
  intro p j hk hp hr
  have r:=wfm_r ds d p (ds.getD p 0) j (hd.get p) (by rw[dstr_size];omega) (decode_dstr hd (by omega))
  exact ih (p+1) _ (by omega) (by omega) (hr.trans r)
theorem wfmc(n0:Nat)(ds:List Nat)(hG:5≤n0)(hd:Dig ds)(h0:0<ds.length)(h1:ds.getD 0 0≠0):FT 127 #[(.string (mstr ds)),(lI 10)] n0 [] bT [] []:=
 fsp_flat [] [] [] [] [] n0 (wfm_loop hd _ _ _ rfl (Nat.zero_le _) (wfm_in ds _ hd h0 (hd.get 0) h1 (dstr_get h0))) rfl rfl rfl (by simp) (by simp) hG rfl rfl rfl (by simp) (by simp) rfl rfl rfl
noncomputable def wfz_h_f(ds:List Nat)(d p:Nat)(j:List Value):Frame:=⟨127,List.toArray [(.string (dstr ds)),(lI 10),uu,uu,(J j 0),bF,(.string (dstr ds)),uu,(J j 1),(J j 2),(J j 3),(J j 4),bF,(J j 5),(J j 6),bF,bF,(J j 7),(J j 8),bT,bT,bF,bF,bF,(J j 9),bF,bF,bF,bF,(J j 10),(pt 5),(J j 11),(J j 12),(J j 13),(J j 14),(J j 15),(J j 16),(J j 17)],[.code (cd Tryz.f127 [1,1,1,0,1,0,0]),.inLoop (cd Tryz.f127 [1,1,1,0,1,0,0]),.inBlock 0,.code (cd Tryz.f127 [1,1,1,1])],[],.run,.normal,none⟩
noncomputable def wfz_h_o(ds:List Nat)(d p:Nat):List (Nat×AObj):=[(5,(.iter (dstr ds) p))]
noncomputable def wfz_h(ds:List Nat)(d p:Nat)(j:List Value):AS:=⟨wfz_h_f ds d p j,[],mkH 6 (wfz_h_o ds d p)⟩
theorem wfz_in(ds:List Nat)(d:Nat)(hd:Dig ds)(h0:0<ds.length)(h1:d<10)(h2:d=0)(hz:(!((dstr ds).toList==(Seg.bts [48]).toList))=false)(hx:(dstr ds)[0]? =some (UInt8.ofNat (48+d))):GT (z_756_1 ds) (wfz_h ds d 0 [bF,undef,(z_756_0 ds),(.string (dstr ds)),(z_756_0 ds),(.string (dstr ds)),(.string (dstr ds)),(.string (dstr ds)),(z_756_3 d),(.string (dstr ds)),(.string (dstr ds)),undef,undef,undef,undef,undef,undef,undef]):=
 sR (sc:=[(7,.call [] (z_756_0 ds) [] []),(10,.op (.rwB false)),(2,.op (.sidx (UInt8.ofNat (48+d)))),(0,.op (.rwB true)),(16,.op (.rwB false)),(14,.stay)]) (fr1:=wfz_h_f ds d 0 [bF,uu,(z_756_0 ds),(.string (dstr ds)),(z_756_0 ds),(.string (dstr ds)),(.string (dstr ds)),(.string (dstr ds)),(z_756_3 d),(.string (dstr ds)),(.string (dstr ds)),uu,uu,uu,uu,uu,uu,uu]) (next:=6) (l:=wfz_h_o ds d 0) (by kernel_rfl) (aI (so_pc 5 ds (by omega) hd h0) (aI (show ((dstr ds).toList==(bts []).toList)=false from (ne_empty h0)) (aI (show 0≤(0:Int)∧(dstr ds)[Int.toNat (0:Int)]? =some (UInt8.ofNat (48+d)) from⟨by omega,hx⟩) (aI (show ((((UInt8.ofNat (48+d)).toNat:Nat):Int)==(48:Int))=true from (byte_zero h2)) (aI hz tt)))))
theorem wfz_r(ds:List Nat)(d p q:Nat)(j:List Value)(hq:q<10)(hp:p<(dstr ds).size)(he:Utf8.decode (dstr ds) p=(48+q,1)):GT (wfz_h ds d p j) (wfz_h ds d (p+1) [(J j 0),(nR (48+q)),(J j 2),(J j 3),(J j 4),(J j 5),(J j 6),(J j 7),(J j 8),(J j 9),(J j 10),(.tuple #[bT,(nI p),(nR (48+q))]),bT,(nR (48+q)),(nR (48+q)),(nI q),(lI 10),bF]):=
 sR (sc:=[(2,.op (.nxtC (48+q) 1 (p+1))),(14,.call [] (nI q) [] []),(1,.op (.rwB false)),(5,.stay)]) (fr1:=wfz_h_f ds d (p+1) [(J j 0),(nR (48+q)),(J j 2),(J j 3),(J j 4),(J j 5),(J j 6),(J j 7),(J j 8),(J j 9),(J j 10),(.tuple #[bT,(nI p),(nR (48+q))]),bT,(nR (48+q)),(nR (48+q)),(nI q),(lI 10),bF]) (next:=6) (l:=wfz_h_o ds d (p+1)) (by kernel_rfl) (aI (show p<(dstr ds).size∧Utf8.decode (dstr ds) p=((48+q),1)∧p+1=(p+1) from⟨hp,he,rfl⟩) (aI (do_c 6 q (by omega) hq) (aI (dF (p:=(q:Int)≥(10:Int)) (by omega)) tt)))
theorem wfz_o(ds:List Nat)(d p:Nat)(j:List Value)(hp:(dstr ds).size≤p)(hr:GT (z_756_1 ds) (wfz_h ds d p j)):CT 127 #[(.string (dstr ds)),(lI 10)] (mkH 5 []) bT (mkH 6 []):=
 sF (sc:=[(2,.op (.nxtE)),(10,.stay)]) (next:=6) (l:=[]) (by kernel_rfl) (aI (show ¬p<(dstr ds).size from (by omega)) tt) hr
theorem wfz_loop{ds:List Nat}{d:Nat}(hd:Dig ds): ∀(k p:Nat) (j:List Value),k=ds.length-p→p≤ds.length→
  GT ⟨Frame.enter Tryz.prog 127 #[(.string (dstr ds)),(lI 10)] .normal,[],mkH 5 []⟩ (wfz_h ds d p j)→CT 127 #[(.string (dstr ds)),(lI 10)] (mkH 5 []) bT (mkH 6 []):=by
 intro k
 induction k with
 |zero=>
  intro p j hk hp hr
  exact wfz_o ds d p j (by rw[dstr_size];omega) hr
 |succ k ih=>
  intro p j hk hp hr
  have r:=wfz_r ds d p (ds.getD p 0) j (hd.get p) (by rw[dstr_size];omega) (decode_dstr hd (by omega))
  exact ih (p+1) _ (by omega) (by omega) (hr.trans r)
theorem wfzc(n0:Nat)(ds:List Nat)(hG:5≤n0)(hd:Dig ds)(h0:0<ds.length)(h1:ds=[0]):FT 127 #[(.string (dstr ds)),(lI 10)] n0 [] bT [] []:=
 fsp_flat [] [] [] [] [] n0 (wfz_loop hd _ _ _ rfl (Nat.zero_le _) (wfz_in ds _ hd h0 (hd.get 0) (by rw[h1];rfl) (by rw[h1];decide+kernel) (dstr_get h0))) rfl rfl rfl (by simp) (by simp) hG rfl rfl rfl (by simp) (by simp) rfl rfl rfl
theorem kips(ds:List Nat)(hd:Dig ds)(h0:0<ds.length)(h1:ds.getD 0 0≠0)(hs:(dstr ds).size≤18):CT 145 #[(.string (dstr ds))] (mkH 5 []) (lI 2) (mkH 5 []):=
 sF (sc:=[(8,.call [] bT [] []),(7,.call [] (z_756_0 ds) [] []),(12,.op (.rwB false)),(7,.op (.rwB false)),(10,.stay)]) (next:=5) (l:=[]) (by kernel_rfl) (aI (wfpc 5 ds (by omega) hd h0 h1) (aI (so_pc 5 ds (by omega) hd h0) (aI (dF (p:=(((dstr ds).size:Nat):Int)>(400:Int)) (by omega)) (aI (dF (p:=(((dstr ds).size:Nat):Int)>(18:Int)) (by omega)) tt)))) (Gets.refl _)
theorem kipsc(n0:Nat)(ds:List Nat)(hG:5≤n0)(hd:Dig ds)(h0:0<ds.length)(h1:ds.getD 0 0≠0)(hs:(dstr ds).size≤18):FT 145 #[(.string (dstr ds))] n0 [] (lI 2) [] []:=
 fsp_flat [] [] [] [] [] n0 (kips ds hd h0 h1 hs) rfl rfl rfl (by simp) (by simp) hG rfl rfl rfl (by simp) (by simp) rfl rfl rfl
theorem kipl(ds:List Nat)(hd:Dig ds)(h0:0<ds.length)(h1:ds.getD 0 0≠0)(hs:18<(dstr ds).size)(hs2:(dstr ds).size≤400):CT 145 #[(.string (dstr ds))] (mkH 5 []) (lI 3) (mkH 5 []):=
 sF (sc:=[(8,.call [] bT [] []),(7,.call [] (z_756_0 ds) [] []),(12,.op (.rwB false)),(7,.op (.rwB true)),(8,.stay)]) (next:=5) (l:=[]) (by kernel_rfl) (aI (wfpc 5 ds (by omega) hd h0 h1) (aI (so_pc 5 ds (by omega) hd h0) (aI (dF (p:=(((dstr ds).size:Nat):Int)>(400:Int)) (by omega)) (aI (dT (p:=(((dstr ds).size:Nat):Int)>(18:Int)) (by omega)) tt)))) (Gets.refl _)
theorem kiplc(n0:Nat)(ds:List Nat)(hG:5≤n0)(hd:Dig ds)(h0:0<ds.length)(h1:ds.getD 0 0≠0)(hs:18<(dstr ds).size)(hs2:(dstr ds).size≤400):FT 145 #[(.string (dstr ds))] n0 [] (lI 3) [] []:=
 fsp_flat [] [] [] [] [] n0 (kipl ds hd h0 h1 hs hs2) rfl rfl rfl (by simp) (by simp) hG rfl rfl rfl (by simp) (by simp) rfl rfl rfl
theorem kims(ds:List Nat)(hd:Dig ds)(h0:0<ds.length)(h1:ds.getD 0 0≠0)(hs:(dstr ds).size≤18):CT 145 #[(.string (mstr ds))] (mkH 5 []) (lI 2) (mkH 5 []):=
 sF (sc:=[(8,.call [] bT [] []),(7,.call [] (z_756_2 ds) [] []),(12,.op (.rwB false)),(7,.op (.rwB false)),(10,.stay)]) (next:=5) (l:=[]) (by kernel_rfl) (aI (wfmc 5 ds (by omega) hd h0 h1) (aI (so_mc 5 ds (by omega)) (aI (dF (p:=(((dstr ds).size:Nat):Int)>(400:Int)) (by omega)) (aI (dF (p:=(((dstr ds).size:Nat):Int)>(18:Int)) (by omega)) tt)))) (Gets.refl _)
theorem kimsc(n0:Nat)(ds:List Nat)(hG:5≤n0)(hd:Dig ds)(h0:0<ds.length)(h1:ds.getD 0 0≠0)(hs:(dstr ds).size≤18):FT 145 #[(.string (mstr ds))] n0 [] (lI 2) [] []:=
 fsp_flat [] [] [] [] [] n0 (kims ds hd h0 h1 hs) rfl rfl rfl (by simp) (by simp) hG rfl rfl rfl (by simp) (by simp) rfl rfl rfl
theorem kiml(ds:List Nat)(hd:Dig ds)(h0:0<ds.length)(h1:ds.getD 0 0≠0)(hs:18<(dstr ds).size)(hs2:(dstr ds).size≤400):CT 145 #[(.string (mstr ds))] (mkH 5 []) (lI 3) (mkH 5 []):=
 sF (sc:=[(8,.call [] bT [] []),(7,.call [] (z_756_2 ds) [] []),(12,.op (.rwB false)),(7,.op (.rwB true)),(8,.stay)]) (next:=5) (l:=[]) (by kernel_rfl) (aI (wfmc 5 ds (by omega) hd h0 h1) (aI (so_mc 5 ds (by omega)) (aI (dF (p:=(((dstr ds).size:Nat):Int)>(400:Int)) (by omega)) (aI (dT (p:=(((dstr ds).size:Nat):Int)>(18:Int)) (by omega)) tt)))) (Gets.refl _)
theorem kimlc(n0:Nat)(ds:List Nat)(hG:5≤n0)(hd:Dig ds)(h0:0<ds.length)(h1:ds.getD 0 0≠0)(hs:18<(dstr ds).size)(hs2:(dstr ds).size≤400):FT 145 #[(.string (mstr ds))] n0 [] (lI 3) [] []:=
 fsp_flat [] [] [] [] [] n0 (kiml ds hd h0 h1 hs hs2) rfl rfl rfl (by simp) (by simp) hG rfl rfl rfl (by simp) (by simp) rfl rfl rfl
theorem kizs(ds:List Nat)(hd:Dig ds)(h0:0<ds.length)(h1:ds=[0])(hs:(dstr ds).size≤18):CT 145 #[(.string (dstr ds))] (mkH 5 []) (lI 2) (mkH 5 []):=
 sF (sc:=[(8,.call [] bT [] []),(7,.call [] (z_756_0 ds) [] []),(12,.op (.rwB false)),(7,.op (.rwB false)),(10,.stay)]) (next:=5) (l:=[]) (by kernel_rfl) (aI (wfzc 5 ds (by omega) hd h0 h1) (aI (so_pc 5 ds (by omega) hd h0) (aI (dF (p:=(((dstr ds).size:Nat):Int)>(400:Int)) (by omega)) (aI (dF (p:=(((dstr ds).size:Nat):Int)>(18:Int)) (by omega)) tt)))) (Gets.refl _)
theorem kizsc(n0:Nat)(ds:List Nat)(hG:5≤n0)(hd:Dig ds)(h0:0<ds.length)(h1:ds=[0])(hs:(dstr ds).size≤18):FT 145 #[(.string (dstr ds))] n0 [] (lI 2) [] []:=
 fsp_flat [] [] [] [] [] n0 (kizs ds hd h0 h1 hs) rfl rfl rfl (by simp) (by simp) hG rfl rfl rfl (by simp) (by simp) rfl rfl rfl
noncomputable def smp_h_f(ds:List Nat)(l p:Nat)(j:List Value):Frame:=⟨109,List.toArray [(.string (dstr ds)),uu,(lI 0),bF,(.string (dstr ds)),(nI l),uu,(J j 0),(J j 1),(J j 2),(J j 3),bF,(J j 4),(J j 5),(pt 5),(J j 6),(J j 7),(J j 8),(J j 9),(J j 10),(J j 11),(J j 12),(J j 13),(J j 14),uu,uu,uu,uu,uu],[.code (cd Tryz.f109 [1,1,1,0,1,0,0]),.inLoop (cd Tryz.f109 [1,1,1,0,1,0,0]),.inBlock 0,.code (cd Tryz.f109 [1,1,1,1])],[],.run,.normal,none⟩
noncomputable def smp_h_o(ds:List Nat)(l p:Nat):List (Nat×AObj):=[(5,(.iter (dstr ds) p))]
noncomputable def smp_h(ds:List Nat)(l p:Nat)(j:List Value):AS:=⟨smp_h_f ds l p j,[],mkH 6 (smp_h_o ds l p)⟩
theorem smp_in(ds:List Nat)(hd:Dig ds)(h0:0<ds.length):GT ⟨Frame.enter Tryz.prog 109 #[(.string (dstr ds))] .normal,[],mkH 5 []⟩ (smp_h ds 0 0 [undef,(.tuple #[bF,(.string (dstr ds))]),(.string (dstr ds)),(.tuple #[bF,(.string (dstr ds))]),(.string (dstr ds)),(.string (dstr ds)),undef,undef,undef,undef,undef,undef,undef,undef,undef]):=
 sR (sc:=[(7,.call [] (.tuple #[bF,(.string (dstr ds))]) [] []),(18,.stay)]) (fr1:=smp_h_f ds 0 0 [uu,(.tuple #[bF,(.string (dstr ds))]),(.string (dstr ds)),(.tuple #[bF,(.string (dstr ds))]),(.string (dstr ds)),(.string (dstr ds)),uu,uu,uu,uu,uu,uu,uu,uu,uu]) (next:=6) (l:=smp_h_o ds 0 0) (by kernel_rfl) (aI (so_pc 5 ds (by omega) hd h0) tt)
theorem smp_r(ds:List Nat)(l p q:Nat)(j:List Value)(hq:q<10)(hl:l<100000000000000000)(hp:p<(dstr ds).size)(he:Utf8.decode (dstr ds) p=(48+q,1)):GT (smp_h ds l p j) (smp_h ds ((l*10)+q) (p+1) [(nR (48+q)),(J j 1),(J j 2),(J j 3),(J j 4),(J j 5),(.tuple #[bT,(nI p),(nR (48+q))]),bT,(nR (48+q)),(nI l),(nI (l*10)),(nR (48+q)),(nR q),(nI q),(nI ((l*10)+q))]):=
 sR (sc:=[(2,.op (.nxtC (48+q) 1 (p+1))),(13,.op (.rwI (((l*10):Nat):Int))),(1,.op (.rwI (q:Int))),(0,.op (.rwI (q:Int))),(0,.op (.rwI ((((l*10)+q):Nat):Int))),(4,.stay)]) (fr1:=smp_h_f ds ((l*10)+q) (p+1) [(nR (48+q)),(J j 1),(J j 2),(J j 3),(J j 4),(J j 5),(.tuple #[bT,(nI p),(nR (48+q))]),bT,(nR (48+q)),(nI l),(nI (l*10)),(nR (48+q)),(nR q),(nI q),(nI ((l*10)+q))]) (next:=6) (l:=smp_h_o ds ((l*10)+q) (p+1)) (by kernel_rfl) (aI (show p<(dstr ds).size∧Utf8.decode (dstr ds) p=((48+q),1)∧p+1=(p+1) from⟨hp,he,rfl⟩) (aI (wI64 (a:=((l:Int)*(10:Int))) (r:=(((l*10):Nat):Int)) (by omega)) (aI (wI32 (a:=((((48+q):Nat):Int)-(48:Int))) (r:=(q:Int)) (by omega)) (aI (wI64 (a:=(q:Int)) (r:=(q:Int)) (by omega)) (aI (wI64 (a:=((((l*10):Nat):Int)+(q:Int))) (r:=((((l*10)+q):Nat):Int)) (by omega)) tt)))))
theorem smp_o(ds:List Nat)(l p:Nat)(j:List Value)(hl:l<1000000000000000000)(hp:(dstr ds).size≤p)(hr:GT ⟨Frame.enter Tryz.prog 109 #[(.string (dstr ds))] .normal,[],mkH 5 []⟩ (smp_h ds l p j)):CT 109 #[(.string (dstr ds))] (mkH 5 []) (nI l) (mkH 6 []):=
 sF (sc:=[(2,.op (.nxtE)),(30,.stay)]) (next:=6) (l:=[]) (by kernel_rfl) (aI (show ¬p<(dstr ds).size from (by omega)) tt) hr
theorem smp_loop{ds:List Nat}(hd:Dig ds)(hL:ds.length≤18): ∀(k p:Nat) (j:List Value),k=ds.length-p→p≤ds.length→
  GT ⟨Frame.enter Tryz.prog 109 #[(.string (dstr ds))] .normal,[],mkH 5 []⟩ (smp_h ds (dval (ds.take p)) p j)→CT 109 #[(.string (dstr ds))] (mkH 5 []) (nI (dval ds)) (mkH 6 []):=by
 intro k
 induction k with
 |zero=>
  intro p j hk hp hr
  have hlt:dval ds<1000000000000000000:=by
   have h2:=dval_lt _ hd
   have h3:10^ds.length≤10^18:=Nat.pow_le_pow_right (by decide) hL
   have h4:(10:Nat)^18=1000000000000000000:=by decide
   omega
  rw[List.take_of_length_le (by omega)]at hr
  exact smp_o ds (dval ds) p j hlt (by rw[dstr_size];omega) hr
 |succ k ih=>
  intro p j hk hp hr
  have hlt:dval (ds.take p)<100000000000000000:=by
   have h2:=dval_lt _ (hd.take p)
   have h3:10^(ds.take p).length≤10^17:=Nat.pow_le_pow_right (by decide) (by rw[List.length_take];omega)
   have h4:(10:Nat)^17=100000000000000000:=by decide
   omega
  have r:=smp_r ds _ p (ds.getD p 0) j (hd.get p) hlt (by rw[dstr_size];omega) (decode_dstr hd (by omega))
  rw[←dval_take_succ (by omega)]at r
  exact ih (p+1) _ (by omega) (by omega) (hr.trans r)
theorem smpc(n0:Nat)(ds:List Nat)(hG:5≤n0)(hd:Dig ds)(h0:0<ds.length)(hL:ds.length≤18):FT 109 #[(.string (dstr ds))] n0 [] (nI (dval ds)) [] []:=
 fsp_flat [] [] [] [] [] n0 (smp_loop hd hL _ _ _ rfl (Nat.zero_le _) (smp_in ds hd h0)) rfl rfl rfl (by simp) (by simp) hG rfl rfl rfl (by simp) (by simp) rfl rfl rfl
noncomputable def smm_h_f(ds:List Nat)(l p:Nat)(j:List Value):Frame:=⟨109,List.toArray [(.string (mstr ds)),uu,(lI 0),bT,(.string (dstr ds)),(nI l),uu,(J j 0),(J j 1),(J j 2),(J j 3),bT,(J j 4),(J j 5),(pt 5),(J j 6),(J j 7),(J j 8),(J j 9),(J j 10),(J j 11),(J j 12),(J j 13),(J j 14),uu,uu,uu,uu,uu],[.code (cd Tryz.f109 [1,1,1,0,1,0,0]),.inLoop (cd Tryz.f109 [1,1,1,0,1,0,0]),.inBlock 0,.code (cd Tryz.f109 [1,1,1,1])],[],.run,.normal,none⟩
noncomputable def smm_h_o(ds:List Nat)(l p:Nat):List (Nat×AObj):=[(5,(.iter (dstr ds) p))]
noncomputable def smm_h(ds:List Nat)(l p:Nat)(j:List Value):AS:=⟨smm_h_f ds l p j,[],mkH 6 (smm_h_o ds l p)⟩
theorem smm_in(ds:List Nat)(hd:Dig ds)(h0:0<ds.length):GT ⟨Frame.enter Tryz.prog 109 #[(.string (mstr ds))] .normal,[],mkH 5 []⟩ (smm_h ds 0 0 [undef,(.tuple #[bT,(.string (dstr ds))]),(.string (mstr ds)),(.tuple #[bT,(.string (dstr ds))]),(.string (dstr ds)),(.string (dstr ds)),undef,undef,undef,undef,undef,undef,undef,undef,undef]):=
 sR (sc:=[(7,.call [] (.tuple #[bT,(.string (dstr ds))]) [] []),(18,.stay)]) (fr1:=smm_h_f ds 0 0 [uu,(.tuple #[bT,(.string (dstr ds))]),(.string (mstr ds)),(.tuple #[bT,(.string (dstr ds))]),(.string (dstr ds)),(.string (dstr ds)),uu,uu,uu,uu,uu,uu,uu,uu,uu]) (next:=6) (l:=smm_h_o ds 0 0) (by kernel_rfl) (aI (so_mc 5 ds (by omega)) tt)
theorem smm_r(ds:List Nat)(l p q:Nat)(j:List Value)(hq:q<10)(hl:l<100000000000000000)(hp:p<(dstr ds).size)(he:Utf8.decode (dstr ds) p=(48+q,1)):GT (smm_h ds l p j) (smm_h ds ((l*10)+q) (p+1) [(nR (48+q)),(J j 1),(J j 2),(J j 3),(J j 4),(J j 5),(.tuple #[bT,(nI p),(nR (48+q))]),bT,(nR (48+q)),(nI l),(nI (l*10)),(nR (48+q)),(nR q),(nI q),(nI ((l*10)+q))]):=
 sR (sc:=[(2,.op (.nxtC (48+q) 1 (p+1))),(13,.op (.rwI (((l*10):Nat):Int))),(1,.op (.rwI (q:Int))),(0,.op (.rwI (q:Int))),(0,.op (.rwI ((((l*10)+q):Nat):Int))),(4,.stay)]) (fr1:=smm_h_f ds ((l*10)+q) (p+1) [(nR (48+q)),(J j 1),(J j 2),(J j 3),(J j 4),(J j 5),(.tuple #[bT,(nI p),(nR (48+q))]),bT,(nR (48+q)),(nI l),(nI (l*10)),(nR (48+q)),(nR q),(nI q),(nI ((l*10)+q))]) (next:=6) (l:=smm_h_o ds ((l*10)+q) (p+1)) (by kernel_rfl) (aI (show p<(dstr ds).size∧Utf8.decode (dstr ds) p=((48+q),1)∧p+1=(p+1) from⟨hp,he,rfl⟩) (aI (wI64 (a:=((l:Int)*(10:Int))) (r:=(((l*10):Nat):Int)) (by omega)) (aI (wI32 (a:=((((48+q):Nat):Int)-(48:Int))) (r:=(q:Int)) (by omega)) (aI (wI64 (a:=(q:Int)) (r:=(q:Int)) (by omega)) (aI (wI64 (a:=((((l*10):Nat):Int)+(q:Int))) (r:=((((l*10)+q):Nat):Int)) (by omega)) tt)))))
theorem smm_o(ds:List Nat)(l p:Nat)(j:List Value)(hl:l<1000000000000000000)(hp:(dstr ds).size≤p)(hr:GT ⟨Frame.enter Tryz.prog 109 #[(.string (mstr ds))] .normal,[],mkH 5 []⟩ (smm_h ds l p j)):CT 109 #[(.string (mstr ds))] (mkH 5 []) (.int .i64 (-(l:Int))) (mkH 6 []):=
 sF (sc:=[(2,.op (.nxtE)),(26,.op (.rwI (-(l:Int)))),(3,.stay)]) (next:=6) (l:=[]) (by kernel_rfl) (aI (show ¬p<(dstr ds).size from (by omega)) (aI (wI64 (a:=((0:Int)-(l:Int))) (r:=(-(l:Int))) (by omega)) tt)) hr
theorem smm_loop{ds:List Nat}(hd:Dig ds)(hL:ds.length≤18): ∀(k p:Nat) (j:List Value),k=ds.length-p→p≤ds.length→
  GT ⟨Frame.enter Tryz.prog 109 #[(.string (mstr ds))] .normal,[],mkH 5 []⟩ (smm_h ds (dval (ds.take p)) p j)→CT 109 #[(.string (mstr ds))] (mkH 5 []) (.int .i64 (-((dval ds:Nat):Int))) (mkH 6 []):=by
 intro k
 induction k with
 |zero=>
  intro p j hk hp hr
  have hlt:dval ds<1000000000000000000:=by
   have h2:=dval_lt _ hd
   have h3:10^ds.length≤10^18:=Nat.pow_le_pow_right (by decide) hL
   have h4:(10:Nat)^18=1000000000000000000:=by decide
   omega
  rw[List.take_of_length_le (by omega)]at hr
  exact smm_o ds (dval ds) p j hlt (by rw[dstr_size];omega) hr
 |succ k ih=>
  intro p j hk hp hr
  have hlt:dval (ds.take p)<100000000000000000:=by
   have h2:=dval_lt _ (hd.take p)
   have h3:10^(ds.take p).length≤10^17:=Nat.pow_le_pow_right (by decide) (by rw[List.length_take];omega)
   have h4:(10:Nat)^17=100000000000000000:=by decide
   omega
  have r:=smm_r ds _ p (ds.getD p 0) j (hd.get p) hlt (by rw[dstr_size];omega) (decode_dstr hd (by omega))
  rw[←dval_take_succ (by omega)]at r
  exact ih (p+1) _ (by omega) (by omega) (hr.trans r)
theorem smmc(n0:Nat)(ds:List Nat)(hG:5≤n0)(hd:Dig ds)(h0:0<ds.length)(hL:ds.length≤18):FT 109 #[(.string (mstr ds))] n0 [] (.int .i64 (-((dval ds:Nat):Int))) [] []:=
 fsp_flat [] [] [] [] [] n0 (smm_loop hd hL _ _ _ rfl (Nat.zero_le _) (smm_in ds hd h0)) rfl rfl rfl (by simp) (by simp) hG rfl rfl rfl (by simp) (by simp) rfl rfl rfl
theorem kis_i(n0:Nat)(a:Int)(hG:5≤n0)(hs:(digs a.natAbs).length≤18):FT 145 #[.string (istr a)] n0 [] (lI 2) [] []:=by
 rcases int_cases a with⟨m,rfl,hm⟩|⟨m,h0,rfl,hm⟩
 ·rw[istr_nn]
  rw[hm]at hs
  rcases Nat.eq_zero_or_pos m with q|q
  ·exact kizsc n0 _ hG (digs_dig m) (digs_len_pos m) (by rw[q,digs_zero]) (by rw[dstr_size];exact hs)
  ·exact kipsc n0 _ hG (digs_dig m) (digs_len_pos m) (digs_head m q) (by rw[dstr_size];exact hs)
 ·rw[istr_neg h0]
  rw[hm]at hs
  exact kimsc n0 _ hG (digs_dig m) (digs_len_pos m) (digs_head m h0) (by rw[dstr_size];exact hs)
theorem kil_i(n0:Nat)(a:Int)(hG:5≤n0)(hs:18<(digs a.natAbs).length)(hL:ndig a.natAbs≤400):FT 145 #[.string (istr a)] n0 [] (lI 3) [] []:=by
 have hL2:=digs_len_le hL (by decide)
 rcases int_cases a with⟨m,rfl,hm⟩|⟨m,h0,rfl,hm⟩
 ·rw[istr_nn]
  rw[hm]at hs hL2
  have q:0<m:=by
   rcases Nat.eq_zero_or_pos m with q|q
   ·rw[q,digs_zero]at hs
    exact absurd hs (by decide)
   ·exact q
  exact kiplc n0 _ hG (digs_dig m) (digs_len_pos m) (digs_head m q) (by rw[dstr_size];exact hs) (by rw[dstr_size];exact hL2)
 ·rw[istr_neg h0]
  rw[hm]at hs hL2
  exact kimlc n0 _ hG (digs_dig m) (digs_len_pos m) (digs_head m h0) (by rw[dstr_size];exact hs) (by rw[dstr_size];exact hL2)
theorem sm_i(n0:Nat)(a:Int)(hG:5≤n0)(hs:(digs a.natAbs).length≤18):FT 109 #[.string (istr a)] n0 [] (.int .i64 a) [] []:=by
 rcases int_cases a with⟨m,rfl,hm⟩|⟨m,h0,rfl,hm⟩
 ·rw[istr_nn]
  rw[hm]at hs
  have h:=smpc n0 _ hG (digs_dig m) (digs_len_pos m) hs
  rw[digs_val]at h
  exact h
 ·rw[istr_neg h0]
  rw[hm]at hs
  have h:=smmc n0 _ hG (digs_dig m) (digs_len_pos m) hs
  rw[digs_val]at h
  exact h
theorem nu_i(n0:Nat)(a:Int)(hG:5≤n0)(hL:ndig a.natAbs≤400):
  ∃sg zs t,Lim zs∧t≤zs.length∧(t≤45∧t≤((digs a.natAbs).length+8)/9)∧(0<t→zs.getD (t-1) 0≠0)∧(sg=true→0<t)∧iv sg (val (zs.take t))=a∧
   FT 111 #[.string (istr a)] n0 [] (.agg #[.bool sg,sl n0 t t]) [] [cU zs]:=by
 have hL2:=digs_len_le hL (by decide)
 rcases int_cases a with⟨m,rfl,hm⟩|⟨m,h0,rfl,hm⟩
 ·rw[istr_nn]
  rw[hm]at hL2
  obtain⟨zs,t,h1,h2,h3,h4,h5,h6⟩:=nu_pc n0 _ hG (digs_dig m) (digs_len_pos m) (by omega)
  rw[digs_val]at h5
  exact⟨false,zs,t,h1,h2,by rw[hm];omega,h4,(by intro q;cases q),by rw[iv_f,h5],h6⟩
 ·rw[istr_neg h0]
  rw[hm]at hL2
  obtain⟨zs,t,h1,h2,h3,h4,h5,h6⟩:=nu_mc n0 _ hG (digs_dig m) (by rw[digs_val];exact h0) (by omega)
  rw[digs_val]at h5
  exact⟨true,zs,t,h1,h2,by rw[hm];omega,h4,fun _=>len_pos (zs:=zs) (by omega),by rw[iv_t,h5],h6⟩
theorem nt_i(n0 b:Nat)(sg:Bool)(xs:List Nat)(n c:Nat)(hb:5≤b∧b<n0)(hlx:Lim xs)(hc:n≤xs.length)(hm:n<1099511627776)(hx:0<n→xs.getD (n-1) 0≠0)(hsg:sg=true→0<n)(hd:ndig (iv sg (val (xs.take n))).natAbs≤400):
  FT 112 #[.agg #[.bool sg,sl b n c]] n0 [(1,gob1),(b,cU xs)] (.string (istr (iv sg (val (xs.take n)))))
   [(1,some gob1),(b,some (cU xs))] []:=by
 cases sg with
 |false=>
  rw[iv_f]at hd ⊢
  rw[istr_nn]
  exact nt_pc n0 b xs n c hb hlx hc hm hx (by simpa using hd)
 |true=>
  rw[iv_t]at hd ⊢
  rw[istr_neg (val_pos (hsg rfl) hx)]
  exact nt_mc n0 b xs n c hb hlx hc hm hx (by simpa using hd)
end Go.Proofs.YtbjpjoodjbmicaaGreatDoor
