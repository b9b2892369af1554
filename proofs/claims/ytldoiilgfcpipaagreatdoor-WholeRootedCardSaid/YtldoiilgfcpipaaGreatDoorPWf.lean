import Derived.Test.YtldoiilgfcpipaaGreatDoorPText
import Derived.Test.YtldoiilgfcpipaaGreatDoorPPlusNil
import Derived.Test.YtldoiilgfcpipaaGreatDoorLF
import Derived.Test.YtldoiilgfcpipaaGreatDoorPNatFrom
import Derived.Test.YtldoiilgfcpipaaGreatDoorPCnt
import Derived.Test.YtldoiilgfcpipaaGreatDoorLE
import Derived.Test.YtldoiilgfcpipaaGreatDoorPLoseMany
import Derived.Test.YtldoiilgfcpipaaGreatDoorPNatOf
import Derived.Test.YtldoiilgfcpipaaGreatDoorK
set_option linter.unusedVariables false
set_option linter.unusedSimpArgs false
set_option maxRecDepth 100000
namespace Go.Proofs.YtldoiilgfcpipaaGreatDoor
open Go Go.AE Seg
noncomputable section
abbrev z_756_0(ds:List Nat):Value:=.tuple #[bF,(.string (dstr ds))]
abbrev z_756_1(ds:List Nat):AS:=⟨Frame.enter Tryz.prog 127 #[(.string (dstr ds)),(lI 10)] .normal,[],mkH 5 []⟩
abbrev z_756_2(ds:List Nat):Value:=.tuple #[bT,(.string (dstr ds))]
abbrev z_756_3(d:Nat):Value:=nB ((UInt8.ofNat (48+d)).toNat)
end
theorem do_(q:Nat)(hq:q<10):CT 167 #[(nR (48+q))] (mkH 5 []) (nI q) (mkH 5 []):=
 sF (sc:=[(15,.op (.rwB false)),(11,.op (.rwB true)),(2,.op (.rwB true)),(9,.op (.rwI (q:Int))),(0,.op (.rwI (q:Int))),(3,.stay)]) (by kernel_rfl) (aI (dF (p:=(97:Int)≤(((48+q):Nat):Int))) (aI (dT (p:=(48:Int)≤(((48+q):Nat):Int))) (aI (dT (p:=(((48+q):Nat):Int)≤(57:Int))) (aI (wI32 (a:=((((48+q):Nat):Int)-(48:Int))) (r:=(q:Int))) (aI (wI64 (a:=(q:Int)) (r:=(q:Int))) tt))))) (Gets.refl _)
theorem do_c(n0:Nat)(q:Nat)(hG:5≤n0)(hq:q<10):FT 167 #[(nR (48+q))] n0 [] (nI q) [] []:=
 fsp_flat [] [] [] [] [] n0 (do_ q hq) rfl rfl rfl (by simp) (by simp) hG rfl rfl rfl (by simp) (by simp) rfl rfl rfl
theorem ne_empty{ds:List Nat}(h:0<ds.length):((dstr ds).toList==(Seg.bts []).toList)=false:=by
 rw[ByteArray.toList_eq,ByteArray.toList_eq]
 cases ds with
 |nil=>simp at h
 |cons d ds=>rfl
theorem byte_zero{d:Nat}(h0:d=0):((((UInt8.ofNat (48+d)).toNat:Nat):Int)==(48:Int))=true:=by subst h0;rfl
theorem byte_ne{d:Nat}(h:d<10)(h0:d≠0):((((UInt8.ofNat (48+d)).toNat:Nat):Int)==(48:Int))=false:=by
 rw[byte_nat h,beq_eq_false_iff_ne];omega
noncomputable def wfp_h_f(ds:List Nat)(d p:Nat)(j:List Value):Frame:=⟨127,List.toArray [(.string (dstr ds)),(lI 10),uu,uu,(J j 0),bF,(.string (dstr ds)),uu,(J j 1),(J j 2),(J j 3),(J j 4),bF,(J j 5),(J j 6),bF,bF,(J j 7),(J j 8),bF,bF,uu,uu,uu,uu,uu,uu,bF,bF,(J j 9),(pt 5),(J j 10),(J j 11),(J j 12),(J j 13),(J j 14),(J j 15),(J j 16)],[.code (cd Tryz.f127 [1,1,1,0,1,0,0]),.inLoop (cd Tryz.f127 [1,1,1,0,1,0,0]),.inBlock 0,.code (cd Tryz.f127 [1,1,1,1])],[],.run,.normal,none⟩
noncomputable def wfp_h_o(ds:List Nat)(d p:Nat):List (Nat×AObj):=[(5,(.iter (dstr ds) p))]
noncomputable def wfp_h(ds:List Nat)(d p:Nat)(j:List Value):AS:=⟨wfp_h_f ds d p j,[],mkH 6 (wfp_h_o ds d p)⟩
theorem wfp_in(ds:List Nat)(d:Nat)(hd:Dig ds)(h0:0<ds.length)(h1:d<10)(h2:d≠0)(hx:(dstr ds)[0]? =some (UInt8.ofNat (48+d))):GT (z_756_1 ds) (wfp_h ds d 0 [bF,undef,(z_756_0 ds),(.string (dstr ds)),(z_756_0 ds),(.string (dstr ds)),(.string (dstr ds)),(.string (dstr ds)),(z_756_3 d),(.string (dstr ds)),undef,undef,undef,undef,undef,undef,undef]):=
 sR (sc:=[(7,.call [] (z_756_0 ds) [] []),(10,.op (.rwB false)),(2,.op (.sidx (UInt8.ofNat (48+d)))),(0,.op (.rwB false)),(20,.stay)]) (by kernel_rfl) (aI (so_pc 5 ds (by omega) hd h0) (aI (show ((dstr ds).toList==(bts []).toList)=false from (ne_empty h0)) (aI (show 0≤(0:Int)∧(dstr ds)[Int.toNat (0:Int)]? =some (UInt8.ofNat (48+d)) from⟨by omega,hx⟩) (aI (show ((((UInt8.ofNat (48+d)).toNat:Nat):Int)==(48:Int))=false from (byte_ne h1 h2)) tt))))
theorem wfp_r(ds:List Nat)(d p q:Nat)(j:List Value)(hq:q<10)(hp:p<(dstr ds).size)(he:Utf8.decode (dstr ds) p=(48+q,1)):GT (wfp_h ds d p j) (wfp_h ds d (p+1) [(J j 0),(nR (48+q)),(J j 2),(J j 3),(J j 4),(J j 5),(J j 6),(J j 7),(J j 8),(J j 9),(.tuple #[bT,(nI p),(nR (48+q))]),bT,(nR (48+q)),(nR (48+q)),(nI q),(lI 10),bF]):=
 sR (sc:=[(2,.op (.nxtC (48+q) 1 (p+1))),(14,.call [] (nI q) [] []),(1,.op (.rwB false)),(5,.stay)]) (by kernel_rfl) (aI (show p<(dstr ds).size∧Utf8.decode (dstr ds) p=((48+q),1)∧p+1=(p+1) from⟨hp,he,rfl⟩) (aI (do_c 6 q (by omega) hq) (aI (dF (p:=(q:Int)≥(10:Int))) tt)))
theorem wfp_o(ds:List Nat)(d p:Nat)(j:List Value)(hp:(dstr ds).size≤p)(hr:GT (z_756_1 ds) (wfp_h ds d p j)):CT 127 #[(.string (dstr ds)),(lI 10)] (mkH 5 []) bT (mkH 6 []):=
 sF (sc:=[(2,.op (.nxtE)),(10,.stay)]) (by kernel_rfl) (aI (show ¬p<(dstr ds).size from (by omega)) tt) hr
theorem wfp_loop{ds:List Nat}{d:Nat}(hd:Dig ds): ∀(k p:Nat) (j:List Value),k=ds.length-p→p≤ds.length→
  GT ⟨Frame.enter Tryz.prog 127 #[(.string (dstr ds)),(lI 10)] .normal,[],mkH 5 []⟩ (wfp_h ds d p j)→CT 127 #[(.string (dstr ds)),(lI 10)] (mkH 5 []) bT (mkH 6 []):=by
 intro k
 induction k with
 |zero=>
  intro p j hk hp hr
  exact wfp_o ds d p j (by rw[dstr_size];omega) hr
 |succ k ih=>
  intro p j hk hp hr
  have r:=wfp_r ds d p (ds.getD p 0) j (hd.get p) (by rw[dstr_size];omega) (decode_dstr hd (by omega))
  exact ih (p+1) _ (by omega) (by omega) (hr.trans r)
theorem wfpc(n0:Nat)(ds:List Nat)(hG:5≤n0)(hd:Dig ds)(h0:0<ds.length)(h1:ds.getD 0 0≠0):FT 127 #[(.string (dstr ds)),(lI 10)] n0 [] bT [] []:=
 fsp_flat [] [] [] [] [] n0 (wfp_loop hd _ _ _ rfl (Nat.zero_le _) (wfp_in ds _ hd h0 (hd.get 0) h1 (dstr_get h0))) rfl rfl rfl (by simp) (by simp) hG rfl rfl rfl (by simp) (by simp) rfl rfl rfl
noncomputable def wfm_h_f(ds:List Nat)(d p:Nat)(j:List Value):Frame:=⟨127,List.toArray [(.string (mstr ds)),(lI 10),uu,uu,(J j 0),bT,(.string (dstr ds)),uu,(J j 1),(J j 2),(J j 3),(J j 4),bT,(J j 5),(J j 6),bF,bF,(J j 7),(J j 8),bF,bF,uu,uu,uu,uu,uu,uu,bF,bF,(J j 9),(pt 5),(J j 10),(J j 11),(J j 12),(J j 13),(J j 14),(J j 15),(J j 16)],[.code (cd Tryz.f127 [1,1,1,0,1,0,0]),.inLoop (cd Tryz.f127 [1,1,1,0,1,0,0]),.inBlock 0,.code (cd Tryz.f127 [1,1,1,1])],[],.run,.normal,none⟩
noncomputable def wfm_h_o(ds:List Nat)(d p:Nat):List (Nat×AObj):=[(5,(.iter (dstr ds) p))]
noncomputable def wfm_h(ds:List Nat)(d p:Nat)(j:List Value):AS:=⟨wfm_h_f ds d p j,[],mkH 6 (wfm_h_o ds d p)⟩
theorem wfm_in(ds:List Nat)(d:Nat)(hd:Dig ds)(h0:0<ds.length)(h1:d<10)(h2:d≠0)(hx:(dstr ds)[0]? =some (UInt8.ofNat (48+d))):GT ⟨Frame.enter Tryz.prog 127 #[(.string (mstr ds)),(lI 10)] .normal,[],mkH 5 []⟩ (wfm_h ds d 0 [bF,undef,(z_756_2 ds),(.string (mstr ds)),(z_756_2 ds),(.string (dstr ds)),(.string (dstr ds)),(.string (dstr ds)),(z_756_3 d),(.string (dstr ds)),undef,undef,undef,undef,undef,undef,undef]):=
 sR (sc:=[(7,.call [] (z_756_2 ds) [] []),(10,.op (.rwB false)),(2,.op (.sidx (UInt8.ofNat (48+d)))),(0,.op (.rwB false)),(20,.stay)]) (by kernel_rfl) (aI (so_mc 5 ds (by omega)) (aI (show ((dstr ds).toList==(bts []).toList)=false from (ne_empty h0)) (aI (show 0≤(0:Int)∧(dstr ds)[Int.toNat (0:Int)]? =some (UInt8.ofNat (48+d)) from⟨by omega,hx⟩) (aI (show ((((UInt8.ofNat (48+d)).toNat:Nat):Int)==(48:Int))=false from (byte_ne h1 h2)) tt))))
theorem wfm_r(ds:List Nat)(d p q:Nat)(j:List Value)(hq:q<10)(hp:p<(dstr ds).size)(he:Utf8.decode (dstr ds) p=(48+q,1)):GT (wfm_h ds d p j) (wfm_h ds d (p+1) [(J j 0),(nR (48+q)),(J j 2),(J j 3),(J j 4),(J j 5),(J j 6),(J j 7),(J j 8),(J j 9),(.tuple #[bT,(nI p),(nR (48+q))]),bT,(nR (48+q)),(nR (48+q)),(nI q),(lI 10),bF]):=
 sR (sc:=[(2,.op (.nxtC (48+q) 1 (p+1))),(14,.call [] (nI q) [] []),(1,.op (.rwB false)),(5,.stay)]) (by kernel_rfl) (aI (show p<(dstr ds).size∧Utf8.decode (dstr ds) p=((48+q),1)∧p+1=(p+1) from⟨hp,he,rfl⟩) (aI (do_c 6 q (by omega) hq) (aI (dF (p:=(q:Int)≥(10:Int))) tt)))
theorem wfm_o(ds:List Nat)(d p:Nat)(j:List Value)(hp:(dstr ds).size≤p)(hr:GT ⟨Frame.enter Tryz.prog 127 #[(.string (mstr ds)),(lI 10)] .normal,[],mkH 5 []⟩ (wfm_h ds d p j)):CT 127 #[(.string (mstr ds)),(lI 10)] (mkH 5 []) bT (mkH 6 []):=
 sF (sc:=[(2,.op (.nxtE)),(10,.stay)]) (by kernel_rfl) (aI (show ¬p<(dstr ds).size from (by omega)) tt) hr
theorem wfm_loop{ds:List Nat}{d:Nat}(hd:Dig ds): ∀(k p:Nat) (j:List Value),k=ds.length-p→p≤ds.length→
  GT ⟨Frame.enter Tryz.prog 127 #[(.string (mstr ds)),(lI 10)] .normal,[],mkH 5 []⟩ (wfm_h ds d p j)→CT 127 #[(.string (mstr ds)),(lI 10)] (mkH 5 []) bT (mkH 6 []):=by
 intro k
 induction k with
 |zero=>
  intro p j hk hp hr
  exact wfm_o ds d p j (by rw[dstr_size];omega) hr
 |succ k ih=>
  intro p j hk hp hr
  have r:=wfm_r ds d p (ds.getD p 0) j (hd.get p) (by rw[dstr_size];omega) (decode_dstr hd (by omega))
  exact ih (p+1) _ (by omega) (by omega) (hr.trans r)
theorem wfmc(n0:Nat)(ds:List Nat)(hG:5≤n0)(hd:Dig ds)(h0:0<ds.length)(h1:ds.getD 0 0≠0):FT 127 #[(.string (mstr ds)),(lI 10)] n0 [] bT [] []:=
 fsp_flat [] [] [] [] [] n0 (wfm_loop hd _ _ _ rfl (Nat.zero_le _) (wfm_in ds _ hd h0 (hd.get 0) h1 (dstr_get h0))) rfl rfl rfl (by simp) (by simp) hG rfl rfl rfl (by simp) (by simp) rfl rfl rfl
noncomputable def wfz_h_f(ds:List Nat)(d p:Nat)(j:List Value):Frame:=⟨127,List.toArray [(.string (dstr ds)),(lI 10),uu,uu,(J j 0),bF,(.string (dstr ds)),uu,(J j 1),(J j 2),(J j 3),(J j 4),bF,(J j 5),(J j 6),bF,bF,(J j 7),(J j 8),bT,bT,bF,bF,bF,(J j 9),bF,bF,bF,bF,(J j 10),(pt 5),(J j 11),(J j 12),(J j 13),(J j 14),(J j 15),(J j 16),(J j 17)],[.code (cd Tryz.f127 [1,1,1,0,1,0,0]),.inLoop (cd Tryz.f127 [1,1,1,0,1,0,0]),.inBlock 0,.code (cd Tryz.f127 [1,1,1,1])],[],.run,.normal,none⟩
noncomputable def wfz_h_o(ds:List Nat)(d p:Nat):List (Nat×AObj):=[(5,(.iter (dstr ds) p))]
noncomputable def wfz_h(ds:List Nat)(d p:Nat)(j:List Value):AS:=⟨wfz_h_f ds d p j,[],mkH 6 (wfz_h_o ds d p)⟩
theorem wfz_in(ds:List Nat)(d:Nat)(hd:Dig ds)(h0:0<ds.length)(h1:d<10)(h2:d=0)(hz:(!((dstr ds).toList==(Seg.bts [48]).toList))=false)(hx:(dstr ds)[0]? =some (UInt8.ofNat (48+d))):GT (z_756_1 ds) (wfz_h ds d 0 [bF,undef,(z_756_0 ds),(.string (dstr ds)),(z_756_0 ds),(.string (dstr ds)),(.string (dstr ds)),(.string (dstr ds)),(z_756_3 d),(.string (dstr ds)),(.string (dstr ds)),undef,undef,undef,undef,undef,undef,undef]):=
 sR (sc:=[(7,.call [] (z_756_0 ds) [] []),(10,.op (.rwB false)),(2,.op (.sidx (UInt8.ofNat (48+d)))),(0,.op (.rwB true)),(16,.op (.rwB false)),(14,.stay)]) (by kernel_rfl) (aI (so_pc 5 ds (by omega) hd h0) (aI (show ((dstr ds).toList==(bts []).toList)=false from (ne_empty h0)) (aI (show 0≤(0:Int)∧(dstr ds)[Int.toNat (0:Int)]? =some (UInt8.ofNat (48+d)) from⟨by omega,hx⟩) (aI (show ((((UInt8.ofNat (48+d)).toNat:Nat):Int)==(48:Int))=true from (byte_zero h2)) (aI hz tt)))))
theorem wfz_r(ds:List Nat)(d p q:Nat)(j:List Value)(hq:q<10)(hp:p<(dstr ds).size)(he:Utf8.decode (dstr ds) p=(48+q,1)):GT (wfz_h ds d p j) (wfz_h ds d (p+1) [(J j 0),(nR (48+q)),(J j 2),(J j 3),(J j 4),(J j 5),(J j 6),(J j 7),(J j 8),(J j 9),(J j 10),(.tuple #[bT,(nI p),(nR (48+q))]),bT,(nR (48+q)),(nR (48+q)),(nI q),(lI 10),bF]):=
 sR (sc:=[(2,.op (.nxtC (48+q) 1 (p+1))),(14,.call [] (nI q) [] []),(1,.op (.rwB false)),(5,.stay)]) (by kernel_rfl) (aI (show p<(dstr ds).size∧Utf8.decode (dstr ds) p=((48+q),1)∧p+1=(p+1) from⟨hp,he,rfl⟩) (aI (do_c 6 q (by omega) hq) (aI (dF (p:=(q:Int)≥(10:Int))) tt)))
theorem wfz_o(ds:List Nat)(d p:Nat)(j:List Value)(hp:(dstr ds).size≤p)(hr:GT (z_756_1 ds) (wfz_h ds d p j)):CT 127 #[(.string (dstr ds)),(lI 10)] (mkH 5 []) bT (mkH 6 []):=
 sF (sc:=[(2,.op (.nxtE)),(10,.stay)]) (by kernel_rfl) (aI (show ¬p<(dstr ds).size from (by omega)) tt) hr
theorem wfz_loop{ds:List Nat}{d:Nat}(hd:Dig ds): ∀(k p:Nat) (j:List Value),k=ds.length-p→p≤ds.length→
  GT ⟨Frame.enter Tryz.prog 127 #[(.string (dstr ds)),(lI 10)] .normal,[],mkH 5 []⟩ (wfz_h ds d p j)→CT 127 #[(.string (dstr ds)),(lI 10)] (mkH 5 []) bT (mkH 6 []):=by
 intro k
 induction k with
 |zero=>
  intro p j hk hp hr
  exact wfz_o ds d p j (by rw[dstr_size];omega) hr
 |succ k ih=>
  intro p j hk hp hr
  have r:=wfz_r ds d p (ds.getD p 0) j (hd.get p) (by rw[dstr_size];omega) (decode_dstr hd (by omega))
  exact ih (p+1) _ (by omega) (by omega) (hr.trans r)
theorem wfzc(n0:Nat)(ds:List Nat)(hG:5≤n0)(hd:Dig ds)(h0:0<ds.length)(h1:ds=[0]):FT 127 #[(.string (dstr ds)),(lI 10)] n0 [] bT [] []:=
 fsp_flat [] [] [] [] [] n0 (wfz_loop hd _ _ _ rfl (Nat.zero_le _) (wfz_in ds _ hd h0 (hd.get 0) (by rw[h1];rfl) (by rw[h1];decide+kernel) (dstr_get h0))) rfl rfl rfl (by simp) (by simp) hG rfl rfl rfl (by simp) (by simp) rfl rfl rfl
theorem kips(ds:List Nat)(hd:Dig ds)(h0:0<ds.length)(h1:ds.getD 0 0≠0)(hs:(dstr ds).size≤18):CT 145 #[(.string (dstr ds))] (mkH 5 []) (lI 2) (mkH 5 []):=
 sF (sc:=[(8,.call [] bT [] []),(7,.call [] (z_756_0 ds) [] []),(12,.op (.rwB false)),(7,.op (.rwB false)),(10,.stay)]) (by kernel_rfl) (aI (wfpc 5 ds (by omega) hd h0 h1) (aI (so_pc 5 ds (by omega) hd h0) (aI (dF (p:=(((dstr ds).size:Nat):Int)>(400:Int))) (aI (dF (p:=(((dstr ds).size:Nat):Int)>(18:Int))) tt)))) (Gets.refl _)
theorem kipsc(n0:Nat)(ds:List Nat)(hG:5≤n0)(hd:Dig ds)(h0:0<ds.length)(h1:ds.getD 0 0≠0)(hs:(dstr ds).size≤18):FT 145 #[(.string (dstr ds))] n0 [] (lI 2) [] []:=
 fsp_flat [] [] [] [] [] n0 (kips ds hd h0 h1 hs) rfl rfl rfl (by simp) (by simp) hG rfl rfl rfl (by simp) (by simp) rfl rfl rfl
theorem kipl(ds:List Nat)(hd:Dig ds)(h0:0<ds.length)(h1:ds.getD 0 0≠0)(hs:18<(dstr ds).size)(hs2:(dstr ds).size≤400):CT 145 #[(.string (dstr ds))] (mkH 5 []) (lI 3) (mkH 5 []):=
 sF (sc:=[(8,.call [] bT [] []),(7,.call [] (z_756_0 ds) [] []),(12,.op (.rwB false)),(7,.op (.rwB true)),(8,.stay)]) (by kernel_rfl) (aI (wfpc 5 ds (by omega) hd h0 h1) (aI (so_pc 5 ds (by omega) hd h0) (aI (dF (p:=(((dstr ds).size:Nat):Int)>(400:Int))) (aI (dT (p:=(((dstr ds).size:Nat):Int)>(18:Int))) tt)))) (Gets.refl _)
theorem kiplc(n0:Nat)(ds:List Nat)(hG:5≤n0)(hd:Dig ds)(h0:0<ds.length)(h1:ds.getD 0 0≠0)(hs:18<(dstr ds).size)(hs2:(dstr ds).size≤400):FT 145 #[(.string (dstr ds))] n0 [] (lI 3) [] []:=
 fsp_flat [] [] [] [] [] n0 (kipl ds hd h0 h1 hs hs2) rfl rfl rfl (by simp) (by simp) hG rfl rfl rfl (by simp) (by simp) rfl rfl rfl
theorem kims(ds:List Nat)(hd:Dig ds)(h0:0<ds.length)(h1:ds.getD 0 0≠0)(hs:(dstr ds).size≤18):CT 145 #[(.string (mstr ds))] (mkH 5 []) (lI 2) (mkH 5 []):=
 sF (sc:=[(8,.call [] bT [] []),(7,.call [] (z_756_2 ds) [] []),(12,.op (.rwB false)),(7,.op (.rwB false)),(10,.stay)]) (by kernel_rfl) (aI (wfmc 5 ds (by omega) hd h0 h1) (aI (so_mc 5 ds (by omega)) (aI (dF (p:=(((dstr ds).size:Nat):Int)>(400:Int))) (aI (dF (p:=(((dstr ds).size:Nat):Int)>(18:Int))) tt)))) (Gets.refl _)
theorem kimsc(n0:Nat)(ds:List Nat)(hG:5≤n0)(hd:Dig ds)(h0:0<ds.length)(h1:ds.getD 0 0≠0)(hs:(dstr ds).size≤18):FT 145 #[(.string (mstr ds))] n0 [] (lI 2) [] []:=
 fsp_flat [] [] [] [] [] n0 (kims ds hd h0 h1 hs) rfl rfl rfl (by simp) (by simp) hG rfl rfl rfl (by simp) (by simp) rfl rfl rfl
theorem kiml(ds:List Nat)(hd:Dig ds)(h0:0<ds.length)(h1:ds.getD 0 0≠0)(hs:18<(dstr ds).size)(hs2:(dstr ds).size≤400):CT 145 #[(.string (mstr ds))] (mkH 5 []) (lI 3) (mkH 5 []):=
 sF (sc:=[(8,.call [] bT [] []),(7,.call [] (z_756_2 ds) [] []),(12,.op (.rwB false)),(7,.op (.rwB true)),(8,.stay)]) (by kernel_rfl) (aI (wfmc 5 ds (by omega) hd h0 h1) (aI (so_mc 5 ds (by omega)) (aI (dF (p:=(((dstr ds).size:Nat):Int)>(400:Int))) (aI (dT (p:=(((dstr ds).size:Nat):Int)>(18:Int))) tt)))) (Gets.refl _)
theorem kimlc(n0:Nat)(ds:List Nat)(hG:5≤n0)(hd:Dig ds)(h0:0<ds.length)(h1:ds.getD 0 0≠0)(hs:18<(dstr ds).size)(hs2:(dstr ds).size≤400):FT 145 #[(.string (mstr ds))] n0 [] (lI 3) [] []:=
 fsp_flat [] [] [] [] [] n0 (kiml ds hd h0 h1 hs hs2) rfl rfl rfl (by simp) (by simp) hG rfl rfl rfl (by simp) (by simp) rfl rfl rfl
theorem kizs(ds:List Nat)(hd:Dig ds)(h0:0<ds.length)(h1:ds=[0])(hs:(dstr ds).size≤18):CT 145 #[(.string (dstr ds))] (mkH 5 []) (lI 2) (mkH 5 []):=
 sF (sc:=[(8,.call [] bT [] []),(7,.call [] (z_756_0 ds) [] []),(12,.op (.rwB false)),(7,.op (.rwB false)),(10,.stay)]) (by kernel_rfl) (aI (wfzc 5 ds (by omega) hd h0 h1) (aI (so_pc 5 ds (by omega) hd h0) (aI (dF (p:=(((dstr ds).size:Nat):Int)>(400:Int))) (aI (dF (p:=(((dstr ds).size:Nat):Int)>(18:Int))) tt)))) (Gets.refl _)
theorem kizsc(n0:Nat)(ds:List Nat)(hG:5≤n0)(hd:Dig ds)(h0:0<ds.length)(h1:ds=[0])(hs:(dstr ds).size≤18):FT 145 #[(.string (dstr ds))] n0 [] (lI 2) [] []:=
 fsp_flat [] [] [] [] [] n0 (kizs ds hd h0 h1 hs) rfl rfl rfl (by simp) (by simp) hG rfl rfl rfl (by simp) (by simp) rfl rfl rfl
noncomputable def smp_h_f(ds:List Nat)(l p:Nat)(j:List Value):Frame:=⟨109,List.toArray [(.string (dstr ds)),uu,(lI 0),bF,(.string (dstr ds)),(nI l),uu,(J j 0),(J j 1),(J j 2),(J j 3),bF,(J j 4),(J j 5),(pt 5),(J j 6),(J j 7),(J j 8),(J j 9),(J j 10),(J j 11),(J j 12),(J j 13),(J j 14),uu,uu,uu,uu,uu],[.code (cd Tryz.f109 [1,1,1,0,1,0,0]),.inLoop (cd Tryz.f109 [1,1,1,0,1,0,0]),.inBlock 0,.code (cd Tryz.f109 [1,1,1,1])],[],.run,.normal,none⟩
noncomputable def smp_h_o(ds:List Nat)(l p:Nat):List (Nat×AObj):=[(5,(.iter (dstr ds) p))]
noncomputable def smp_h(ds:List Nat)(l p:Nat)(j:List Value):AS:=⟨smp_h_f ds l p j,[],mkH 6 (smp_h_o ds l p)⟩
theorem smp_in(ds:List Nat)(hd:Dig ds)(h0:0<ds.length):GT ⟨Frame.enter Tryz.prog 109 #[(.string (dstr ds))] .normal,[],mkH 5 []⟩ (smp_h ds 0 0 [undef,(.tuple #[bF,(.string (dstr ds))]),(.string (dstr ds)),(.tuple #[bF,(.string (dstr ds))]),(.string (dstr ds)),(.string (dstr ds)),undef,undef,undef,undef,undef,undef,undef,undef,undef]):=
 sR (sc:=[(7,.call [] (.tuple #[bF,(.string (dstr ds))]) [] []),(18,.stay)]) (by kernel_rfl) (aI (so_pc 5 ds (by omega) hd h0) tt)
theorem smp_r(ds:List Nat)(l p q:Nat)(j:List Value)(hq:q<10)(hl:l<100000000000000000)(hp:p<(dstr ds).size)(he:Utf8.decode (dstr ds) p=(48+q,1)):GT (smp_h ds l p j) (smp_h ds ((l*10)+q) (p+1) [(nR (48+q)),(J j 1),(J j 2),(J j 3),(J j 4),(J j 5),(.tuple #[bT,(nI p),(nR (48+q))]),bT,(nR (48+q)),(nI l),(nI (l*10)),(nR (48+q)),(nR q),(nI q),(nI ((l*10)+q))]):=
 sR (sc:=[(2,.op (.nxtC (48+q) 1 (p+1))),(13,.op (.rwI (((l*10):Nat):Int))),(1,.op (.rwI (q:Int))),(0,.op (.rwI (q:Int))),(0,.op (.rwI ((((l*10)+q):Nat):Int))),(4,.stay)]) (by kernel_rfl) (aI (show p<(dstr ds).size∧Utf8.decode (dstr ds) p=((48+q),1)∧p+1=(p+1) from⟨hp,he,rfl⟩) (aI (wI64 (a:=((l:Int)*(10:Int))) (r:=(((l*10):Nat):Int))) (aI (wI32 (a:=((((48+q):Nat):Int)-(48:Int))) (r:=(q:Int))) (aI (wI64 (a:=(q:Int)) (r:=(q:Int))) (aI (wI64 (a:=((((l*10):Nat):Int)+(q:Int))) (r:=((((l*10)+q):Nat):Int))) tt)))))
theorem smp_o(ds:List Nat)(l p:Nat)(j:List Value)(hl:l<1000000000000000000)(hp:(dstr ds).size≤p)(hr:GT ⟨Frame.enter Tryz.prog 109 #[(.string (dstr ds))] .normal,[],mkH 5 []⟩ (smp_h ds l p j)):CT 109 #[(.string (dstr ds))] (mkH 5 []) (nI l) (mkH 6 []):=
 sF (sc:=[(2,.op (.nxtE)),(30,.stay)]) (by kernel_rfl) (aI (show ¬p<(dstr ds).size from (by omega)) tt) hr
theorem smp_loop{ds:List Nat}(hd:Dig ds)(hL:ds.length≤18): ∀(k p:Nat) (j:List Value),k=ds.length-p→p≤ds.length→
  GT ⟨Frame.enter Tryz.prog 109 #[(.string (dstr ds))] .normal,[],mkH 5 []⟩ (smp_h ds (dval (ds.take p)) p j)→CT 109 #[(.string (dstr ds))] (mkH 5 []) (nI (dval ds)) (mkH 6 []):=by
 intro k
 induction k with
 |zero=>
  intro p j hk hp hr
  have hlt:dval ds<1000000000000000000:=by
   have h2:=dval_lt _ hd
   have h3:10^ds.length≤10^18:=Nat.pow_le_pow_right (by decide) hL
   have h4:(10:Nat)^18=1000000000000000000:=by decide
   omega
  rw[List.take_of_length_le (by omega)]at hr
  exact smp_o ds (dval ds) p j hlt (by rw[dstr_size];omega) hr
 |succ k ih=>
  intro p j hk hp hr
  have hlt:dval (ds.take p)<100000000000000000:=by
   have h2:=dval_lt _ (hd.take p)
   have h3:10^(ds.take p).length≤10^17:=Nat.pow_le_pow_right (by decide) (by rw[List.length_take];omega)
   have h4:(10:Nat)^17=100000000000000000:=by decide
   omega
  have r:=smp_r ds _ p (ds.getD p 0) j (hd.get p) hlt (by rw[dstr_size];omega) (decode_dstr hd (by omega))
  rw[←dval_take_succ (by omega)]at r
  exact ih (p+1) _ (by omega) (by omega) (hr.trans r)
theorem smpc(n0:Nat)(ds:List Nat)(hG:5≤n0)(hd:Dig ds)(h0:0<ds.length)(hL:ds.length≤18):FT 109 #[(.string (dstr ds))] n0 [] (nI (dval ds)) [] []:=
 fsp_flat [] [] [] [] [] n0 (smp_loop hd hL _ _ _ rfl (Nat.zero_le _) (smp_in ds hd h0)) rfl rfl rfl (by simp) (by simp) hG rfl rfl rfl (by simp) (by simp) rfl rfl rfl
noncomputable def smm_h_f(ds:List Nat)(l p:Nat)(j:List Value):Frame:=⟨109,List.toArray [(.string (mstr ds)),uu,(lI 0),bT,(.string (dstr ds)),(nI l),uu,(J j 0),(J j 1),(J j 2),(J j 3),bT,(J j 4),(J j 5),(pt 5),(J j 6),(J j 7),(J j 8),(J j 9),(J j 10),(J j 11),(J j 12),(J j 13),(J j 14),uu,uu,uu,uu,uu],[.code (cd Tryz.f109 [1,1,1,0,1,0,0]),.inLoop (cd Tryz.f109 [1,1,1,0,1,0,0]),.inBlock 0,.code (cd Tryz.f109 [1,1,1,1])],[],.run,.normal,none⟩
noncomputable def smm_h_o(ds:List Nat)(l p:Nat):List (Nat×AObj):=[(5,(.iter (dstr ds) p))]
noncomputable def smm_h(ds:List Nat)(l p:Nat)(j:List Value):AS:=⟨smm_h_f ds l p j,[],mkH 6 (smm_h_o ds l p)⟩
theorem smm_in(ds:List Nat)(hd:Dig ds)(h0:0<ds.length):GT ⟨Frame.enter Tryz.prog 109 #[(.string (mstr ds))] .normal,[],mkH 5 []⟩ (smm_h ds 0 0 [undef,(.tuple #[bT,(.string (dstr ds))]),(.string (mstr ds)),(.tuple #[bT,(.string (dstr ds))]),(.string (dstr ds)),(.string (dstr ds)),undef,undef,undef,undef,undef,undef,undef,undef,undef]):=
 sR (sc:=[(7,.call [] (.tuple #[bT,(.string (dstr ds))]) [] []),(18,.stay)]) (by kernel_rfl) (aI (so_mc 5 ds (by omega)) tt)
theorem smm_r(ds:List Nat)(l p q:Nat)(j:List Value)(hq:q<10)(hl:l<100000000000000000)(hp:p<(dstr ds).size)(he:Utf8.decode (dstr ds) p=(48+q,1)):GT (smm_h ds l p j) (smm_h ds ((l*10)+q) (p+1) [(nR (48+q)),(J j 1),(J j 2),(J j 3),(J j 4),(J j 5),(.tuple #[bT,(nI p),(nR (48+q))]),bT,(nR (48+q)),(nI l),(nI (l*10)),(nR (48+q)),(nR q),(nI q),(nI ((l*10)+q))]):=
 sR (sc:=[(2,.op (.nxtC (48+q) 1 (p+1))),(13,.op (.rwI (((l*10):Nat):Int))),(1,.op (.rwI (q:Int))),(0,.op (.rwI (q:Int))),(0,.op (.rwI ((((l*10)+q):Nat):Int))),(4,.stay)]) (by kernel_rfl) (aI (show p<(dstr ds).size∧Utf8.decode (dstr ds) p=((48+q),1)∧p+1=(p+1) from⟨hp,he,rfl⟩) (aI (wI64 (a:=((l:Int)*(10:Int))) (r:=(((l*10):Nat):Int))) (aI (wI32 (a:=((((48+q):Nat):Int)-(48:Int))) (r:=(q:Int))) (aI (wI64 (a:=(q:Int)) (r:=(q:Int))) (aI (wI64 (a:=((((l*10):Nat):Int)+(q:Int))) (r:=((((l*10)+q):Nat):Int))) tt)))))
theorem smm_o(ds:List Nat)(l p:Nat)(j:List Value)(hl:l<1000000000000000000)(hp:(dstr ds).size≤p)(hr:GT ⟨Frame.enter Tryz.prog 109 #[(.string (mstr ds))] .normal,[],mkH 5 []⟩ (smm_h ds l p j)):CT 109 #[(.string (mstr ds))] (mkH 5 []) (.int .i64 (-(l:Int))) (mkH 6 []):=
 sF (sc:=[(2,.op (.nxtE)),(26,.op (.rwI (-(l:Int)))),(3,.stay)]) (by kernel_rfl) (aI (show ¬p<(dstr ds).size from (by omega)) (aI (wI64 (a:=((0:Int)-(l:Int))) (r:=(-(l:Int)))) tt)) hr
theorem smm_loop{ds:List Nat}(hd:Dig ds)(hL:ds.length≤18): ∀(k p:Nat) (j:List Value),k=ds.length-p→p≤ds.length→
  GT ⟨Frame.enter Tryz.prog 109 #[(.string (mstr ds))] .normal,[],mkH 5 []⟩ (smm_h ds (dval (ds.take p)) p j)→CT 109 #[(.string (mstr ds))] (mkH 5 []) (.int .i64 (-((dval ds:Nat):Int))) (mkH 6 []):=by
 intro k
 induction k with
 |zero=>
  intro p j hk hp hr
  have hlt:dval ds<1000000000000000000:=by
   have h2:=dval_lt _ hd
   have h3:10^ds.length≤10^18:=Nat.pow_le_pow_right (by decide) hL
   have h4:(10:Nat)^18=1000000000000000000:=by decide
   omega
  rw[List.take_of_length_le (by omega)]at hr
  exact smm_o ds (dval ds) p j hlt (by rw[dstr_size];omega) hr
 |succ k ih=>
  intro p j hk hp hr
  have hlt:dval (ds.take p)<100000000000000000:=by
   have h2:=dval_lt _ (hd.take p)
   have h3:10^(ds.take p).length≤10^17:=Nat.pow_le_pow_right (by decide) (by rw[List.length_take];omega)
   have h4:(10:Nat)^17=100000000000000000:=by decide
   omega
  have r:=smm_r ds _ p (ds.getD p 0) j (hd.get p) hlt (by rw[dstr_size];omega) (decode_dstr hd (by omega))
  rw[←dval_take_succ (by omega)]at r
  exact ih (p+1) _ (by omega) (by omega) (hr.trans r)
theorem smmc(n0:Nat)(ds:List Nat)(hG:5≤n0)(hd:Dig ds)(h0:0<ds.length)(hL:ds.length≤18):FT 109 #[(.string (mstr ds))] n0 [] (.int .i64 (-((dval ds:Nat):Int))) [] []:=
 fsp_flat [] [] [] [] [] n0 (smm_loop hd hL _ _ _ rfl (Nat.zero_le _) (smm_in ds hd h0)) rfl rfl rfl (by simp) (by simp) hG rfl rfl rfl (by simp) (by simp) rfl rfl rfl
theorem kis_i(n0:Nat)(a:Int)(hG:5≤n0)(hs:(digs a.natAbs).length≤18):FT 145 #[.string (istr a)] n0 [] (lI 2) [] []:=by
 rcases int_cases a with⟨m,rfl,hm⟩|⟨m,h0,rfl,hm⟩
 ·rw[istr_nn]
  rw[hm]at hs
  rcases Nat.eq_zero_or_pos m with q|q
  ·exact kizsc n0 _ hG (digs_dig m) (digs_len_pos m) (by rw[q,digs_zero]) (by rw[dstr_size];exact hs)
  ·exact kipsc n0 _ hG (digs_dig m) (digs_len_pos m) (digs_head m q) (by rw[dstr_size];exact hs)
 ·rw[istr_neg h0]
  rw[hm]at hs
  exact kimsc n0 _ hG (digs_dig m) (digs_len_pos m) (digs_head m h0) (by rw[dstr_size];exact hs)
theorem kil_i(n0:Nat)(a:Int)(hG:5≤n0)(hs:18<(digs a.natAbs).length)(hL:ndig a.natAbs≤400):FT 145 #[.string (istr a)] n0 [] (lI 3) [] []:=by
 have hL2:=digs_len_le hL (by decide)
 rcases int_cases a with⟨m,rfl,hm⟩|⟨m,h0,rfl,hm⟩
 ·rw[istr_nn]
  rw[hm]at hs hL2
  have q:0<m:=by
   rcases Nat.eq_zero_or_pos m with q|q
   ·rw[q,digs_zero]at hs
    exact absurd hs (by decide)
   ·exact q
  exact kiplc n0 _ hG (digs_dig m) (digs_len_pos m) (digs_head m q) (by rw[dstr_size];exact hs) (by rw[dstr_size];exact hL2)
 ·rw[istr_neg h0]
  rw[hm]at hs hL2
  exact kimlc n0 _ hG (digs_dig m) (digs_len_pos m) (digs_head m h0) (by rw[dstr_size];exact hs) (by rw[dstr_size];exact hL2)
theorem sm_i(n0:Nat)(a:Int)(hG:5≤n0)(hs:(digs a.natAbs).length≤18):FT 109 #[.string (istr a)] n0 [] (.int .i64 a) [] []:=by
 rcases int_cases a with⟨m,rfl,hm⟩|⟨m,h0,rfl,hm⟩
 ·rw[istr_nn]
  rw[hm]at hs
  have h:=smpc n0 _ hG (digs_dig m) (digs_len_pos m) hs
  rw[digs_val]at h
  exact h
 ·rw[istr_neg h0]
  rw[hm]at hs
  have h:=smmc n0 _ hG (digs_dig m) (digs_len_pos m) hs
  rw[digs_val]at h
  exact h
theorem nu_i(n0:Nat)(a:Int)(hG:5≤n0)(hL:ndig a.natAbs≤400):
  ∃sg zs t,Lim zs∧t≤zs.length∧(t≤45∧t≤((digs a.natAbs).length+8)/9)∧(0<t→zs.getD (t-1) 0≠0)∧(sg=true→0<t)∧iv sg (val (zs.take t))=a∧
   FT 111 #[.string (istr a)] n0 [] (.agg #[.bool sg,sl n0 t t]) [] [cU zs]:=by
 have hL2:=digs_len_le hL (by decide)
 rcases int_cases a with⟨m,rfl,hm⟩|⟨m,h0,rfl,hm⟩
 ·rw[istr_nn]
  rw[hm]at hL2
  obtain⟨zs,t,h1,h2,h3,h4,h5,h6⟩:=nu_pc n0 _ hG (digs_dig m) (digs_len_pos m) (by omega)
  rw[digs_val]at h5
  exact⟨false,zs,t,h1,h2,by rw[hm];omega,h4,(by intro q;cases q),by rw[iv_f,h5],h6⟩
 ·rw[istr_neg h0]
  rw[hm]at hL2
  obtain⟨zs,t,h1,h2,h3,h4,h5,h6⟩:=nu_mc n0 _ hG (digs_dig m) (by rw[digs_val];exact h0) (by omega)
  rw[digs_val]at h5
  exact⟨true,zs,t,h1,h2,by rw[hm];omega,h4,fun _=>len_pos (zs:=zs) (by omega),by rw[iv_t,h5],h6⟩
theorem nt_i(n0 b:Nat)(sg:Bool)(xs:List Nat)(n c:Nat)(hb:5≤b∧b<n0)(hlx:Lim xs)(hc:n≤xs.length)(hm:n<1099511627776)(hx:0<n→xs.getD (n-1) 0≠0)(hsg:sg=true→0<n)(hd:ndig (iv sg (val (xs.take n))).natAbs≤400):
  FT 112 #[.agg #[.bool sg,sl b n c]] n0 [(1,gob1),(b,cU xs)] (.string (istr (iv sg (val (xs.take n)))))
   [(1,some gob1),(b,some (cU xs))] []:=by
 cases sg with
 |false=>
  rw[iv_f]at hd ⊢
  rw[istr_nn]
  exact nt_pc n0 b xs n c hb hlx hc hm hx (by simpa using hd)
 |true=>
  rw[iv_t]at hd ⊢
  rw[istr_neg (val_pos (hsg rfl) hx)]
  exact nt_mc n0 b xs n c hb hlx hc hm hx (by simpa using hd)
noncomputable section
abbrev z_d5d_7:Value:=.agg #[bF,(.slice none 0 0)]
end
theorem nt_nil:CT 112 #[z_d5d_7] (mkH 5 []) (.string (bts [48])) (mkH 6 []):=
 sF (sc:=[(79,.stay)]) (by kernel_rfl) tt (Gets.refl _)
theorem nt_nilc(n0:Nat)(hG:5≤n0):FT 112 #[(.agg #[bF,(.slice none 0 0)])] n0 [] (.string (bts [48])) [] []:=
 fsp_flat [] [] [] [] [] n0 (nt_nil) rfl rfl rfl (by simp) (by simp) hG rfl rfl rfl (by simp) (by simp) rfl rfl rfl
theorem istr_zero:istr 0=bts [48]:=by
 rw[show (0:Int)=((0:Nat):Int) from rfl,istr_nn,digs_small (by decide)]
 rfl
theorem rn_o(xs:List Nat)(e n:Nat):CT 142 #[(sl 5 0 e),(nI n)] (mkH 6 [(5,(cU xs))]) (.slice none 0 0) (mkH 6 [(5,(cU xs))]):=
 sF (sc:=[(18,.stay)]) (by kernel_rfl) tt (Gets.refl _)
theorem rn_c(n0 bx:Nat)(hbx:5≤bx∧bx<n0)(xs:List Nat)(e n:Nat):FT 142 #[sl bx 0 e,.int .i64 ((n:Nat):Int)] n0 [(bx,cU xs)] (.slice none 0 0) [(bx,some (cU xs))] []:=
 fsp_flat [bx] [cU xs] [cU xs] [] [] n0 (rn_o xs e n) rfl rfl rfl (by simp) (by simp;omega) (by omega) (by simp[flat,ns_closed]) (by simp[flat,ns_closed]) rfl (by simp) (by simp) rfl rfl rfl
theorem wr_2z(a:Int)(n:Nat)(hn:1≤n∧n≤20)(hka: ∀n0,5≤n0→FT 145 #[.string (istr a)] n0 [] (lI 2) [] [])(xs:List Nat)(hc1:FT 111 #[(.string (istr a))] 9 [] (.agg #[bF,(sl 9 0 0)]) [] [(cU xs)]):CT 51 #[(.string (istr a)),(nI n)] (mkH 5 [(1,gob1)]) (.tuple #[(.string (bts [48])),(lI 0)]) (mkH 11 [(1,gob1)]):=
 sF (sc:=[(78,.call [] (lI 2) [] []),(52,.call [] (.agg #[bF,(sl 9 0 0)]) [] [(cU xs)]),(7,.op (.rwB false)),(2,.op (.rwB false)),(25,.call [9] (.slice none 0 0) [(9,some (cU xs))] []),(1,.call [] (.string (bts [48])) [] []),(34,.stay)]) (by kernel_rfl) (aI (hka 9 (by omega)) (aI hc1 (aI (show decide ((n:Int)<(1:Int))=false from (by rw[decide_eq_false_iff_not];omega)) (aI (show decide ((n:Int)>(20:Int))=false from (by rw[decide_eq_false_iff_not];omega)) (aI (rn_c 11 9 (by omega) xs 0 n) (aI (nt_nilc 11 (by omega)) tt)))))) (Gets.refl _)
theorem wr_2(a:Int)(n:Nat)(hn:1≤n∧n≤20)(hka: ∀n0,5≤n0→FT 145 #[.string (istr a)] n0 [] (lI 2) [] [])(xs:List Nat)(k:Nat)(hc1:FT 111 #[(.string (istr a))] 9 [] (.agg #[bF,(sl 9 k k)]) [] [(cU xs)])(zs:List Nat)(t:Nat)(hc3:FT 142 #[(sl 9 k k),(nI n)] 11 [(9,(cU xs))] (sl 11 t t) [(9,some (cU xs))] [(cU zs)])(tt0:ByteArray)(hc5:FT 112 #[(.agg #[bF,(sl 11 t t)])] 12 [(1,gob1),(11,(cU zs))] (.string tt0) [(1,some gob1),(11,some (cU zs))] []):CT 51 #[(.string (istr a)),(nI n)] (mkH 5 [(1,gob1)]) (.tuple #[(.string tt0),(lI 0)]) (mkH 12 [(1,gob1)]):=
 sF (sc:=[(78,.call [] (lI 2) [] []),(52,.call [] (.agg #[bF,(sl 9 k k)]) [] [(cU xs)]),(7,.op (.rwB false)),(2,.op (.rwB false)),(25,.call [9] (sl 11 t t) [(9,some (cU xs))] [(cU zs)]),(1,.call [1,11] (.string tt0) [(1,some gob1),(11,some (cU zs))] []),(34,.stay)]) (by kernel_rfl) (aI (hka 9 (by omega)) (aI hc1 (aI (show decide ((n:Int)<(1:Int))=false from (by rw[decide_eq_false_iff_not];omega)) (aI (show decide ((n:Int)>(20:Int))=false from (by rw[decide_eq_false_iff_not];omega)) (aI hc3 (aI hc5 tt)))))) (Gets.refl _)
theorem wr_3z(a:Int)(n:Nat)(hn:1≤n∧n≤20)(hka: ∀n0,5≤n0→FT 145 #[.string (istr a)] n0 [] (lI 3) [] [])(xs:List Nat)(hc1:FT 111 #[(.string (istr a))] 9 [] (.agg #[bF,(sl 9 0 0)]) [] [(cU xs)]):CT 51 #[(.string (istr a)),(nI n)] (mkH 5 [(1,gob1)]) (.tuple #[(.string (bts [48])),(lI 0)]) (mkH 11 [(1,gob1)]):=
 sF (sc:=[(78,.call [] (lI 3) [] []),(52,.call [] (.agg #[bF,(sl 9 0 0)]) [] [(cU xs)]),(7,.op (.rwB false)),(2,.op (.rwB false)),(25,.call [9] (.slice none 0 0) [(9,some (cU xs))] []),(1,.call [] (.string (bts [48])) [] []),(34,.stay)]) (by kernel_rfl) (aI (hka 9 (by omega)) (aI hc1 (aI (show decide ((n:Int)<(1:Int))=false from (by rw[decide_eq_false_iff_not];omega)) (aI (show decide ((n:Int)>(20:Int))=false from (by rw[decide_eq_false_iff_not];omega)) (aI (rn_c 11 9 (by omega) xs 0 n) (aI (nt_nilc 11 (by omega)) tt)))))) (Gets.refl _)
theorem wr_3(a:Int)(n:Nat)(hn:1≤n∧n≤20)(hka: ∀n0,5≤n0→FT 145 #[.string (istr a)] n0 [] (lI 3) [] [])(xs:List Nat)(k:Nat)(hc1:FT 111 #[(.string (istr a))] 9 [] (.agg #[bF,(sl 9 k k)]) [] [(cU xs)])(zs:List Nat)(t:Nat)(hc3:FT 142 #[(sl 9 k k),(nI n)] 11 [(9,(cU xs))] (sl 11 t t) [(9,some (cU xs))] [(cU zs)])(tt0:ByteArray)(hc5:FT 112 #[(.agg #[bF,(sl 11 t t)])] 12 [(1,gob1),(11,(cU zs))] (.string tt0) [(1,some gob1),(11,some (cU zs))] []):CT 51 #[(.string (istr a)),(nI n)] (mkH 5 [(1,gob1)]) (.tuple #[(.string tt0),(lI 0)]) (mkH 12 [(1,gob1)]):=
 sF (sc:=[(78,.call [] (lI 3) [] []),(52,.call [] (.agg #[bF,(sl 9 k k)]) [] [(cU xs)]),(7,.op (.rwB false)),(2,.op (.rwB false)),(25,.call [9] (sl 11 t t) [(9,some (cU xs))] [(cU zs)]),(1,.call [1,11] (.string tt0) [(1,some gob1),(11,some (cU zs))] []),(34,.stay)]) (by kernel_rfl) (aI (hka 9 (by omega)) (aI hc1 (aI (show decide ((n:Int)<(1:Int))=false from (by rw[decide_eq_false_iff_not];omega)) (aI (show decide ((n:Int)>(20:Int))=false from (by rw[decide_eq_false_iff_not];omega)) (aI hc3 (aI hc5 tt)))))) (Gets.refl _)
theorem Root_i(n0 A n:Nat)(hG:5≤n0)(hA:ndig A≤100)(hn:1≤n∧n≤20):
  ∃y:Nat,y^n≤A∧A<(y+1)^n∧FT 51 #[.string (istr ((A:Nat):Int)),.int .i64 ((n:Nat):Int)] n0 [(1,gob1)] (.tuple #[.string (istr ((y:Nat):Int)),.int .i64 (.ofNat 0)]) [(1,some gob1)] []:=by
 have hA4:ndig (((A:Nat):Int)).natAbs≤400:=by rw[Int.natAbs_natCast];omega
 have key: ∃y:Nat,y^n≤A∧A<(y+1)^n∧ ∃nx,CT 51 #[.string (istr ((A:Nat):Int)),.int .i64 ((n:Nat):Int)] (mkH 5 [(1,gob1)]) (.tuple #[.string (istr ((y:Nat):Int)),.int .i64 (.ofNat 0)]) (mkH nx [(1,gob1)]):=by
  obtain⟨sx,xs,k,e1,e2,e3,e4,e5,e6,e7⟩:=nu_i 9 ((A:Nat):Int) (by omega) hA4
  have hsx:sx=false:=by
   cases sx with
   |false=>rfl
   |true=>
    have hp:=e5 rfl
    rw[iv_t]at e6
    have h0:val (xs.take k)=0:=by omega
    exact absurd (len_mono (ys:=[]) (k:=0) e1 e2 e4 (Nat.le_refl _) (by intro z hz;cases hz) (by rw[h0];exact Nat.zero_le _)) (by omega)
  subst hsx
  rw[iv_f]at e6
  have hv:val (xs.take k)=A:=by omega
  rcases Nat.eq_zero_or_pos A with h0|h0
  ·have hk:k=0:=by
    have:=len_mono (ys:=[]) (k:=0) e1 e2 e4 (Nat.le_refl _) (by intro z hz;cases hz) (by rw[hv,h0];exact Nat.zero_le _)
    omega
   subst hk
   refine⟨0,by rw[Nat.zero_pow (by omega)];omega,by rw[h0,Nat.one_pow];decide,?_⟩
   rw[show ((0:Nat):Int)=0 from rfl,istr_zero]
   by_cases h1:(digs (((A:Nat):Int)).natAbs).length≤18
   ·exact⟨_,wr_2z _ n hn (fun n0 h=>kis_i n0 _ h h1) xs e7⟩
   ·exact⟨_,wr_3z _ n hn (fun n0 h=>kil_i n0 _ h (by omega) hA4) xs e7⟩
  ·obtain⟨zs,t,t1,t2,t3,t4,t5,t6,T⟩:=root_c 11 9 (by omega) (k:=k) (e:=k) (n:=n) e1 e2 (by omega) e4 (by omega) (by omega) (by rw[hv];exact h0) (by rw[hv];exact hA)
   rw[hv]at t5 t6
   have hy:val (zs.take t)≤A:=Nat.le_trans (Nat.le_self_pow (by omega) _) t5
   have hyd:ndig (val (zs.take t))≤400:=by
    rcases Nat.lt_or_ge 400 (ndig (val (zs.take t))) with h|h
    ·exfalso
     have h2:A<10^100:=by
      rcases Nat.lt_or_ge A (10^100) with q|q
      ·exact q
      ·have:=ndig_gt q
       omega
     have:=ndig_lt 100 _ (Nat.lt_of_le_of_lt hy h2)
     omega
    ·exact h
   have T2:=nt_i 12 11 false zs t t (by omega) t1 t2 (by omega) t4 (by intro h;cases h) (by rw[iv_f,Int.natAbs_natCast];exact hyd)
   rw[iv_f]at T2
   refine⟨val (zs.take t),t5,t6,?_⟩
   by_cases h1:(digs (((A:Nat):Int)).natAbs).length≤18
   ·exact⟨_,wr_2 _ n hn (fun n0 h=>kis_i n0 _ h h1) xs k e7 zs t T _ T2⟩
   ·exact⟨_,wr_3 _ n hn (fun n0 h=>kil_i n0 _ h (by omega) hA4) xs k e7 zs t T _ T2⟩
 obtain⟨y,h1,h2,nx,S⟩:=key
 exact⟨y,h1,h2,fsp_glob [(1,gob1)] [] [] [] [] [] n0 S (by decide+kernel) (by rfl) rfl (by rfl) rfl (by simp) (by simp) hG rfl rfl rfl (by simp) (by simp) rfl rfl rfl⟩
theorem tn_n(i u:Nat)(hm:i<9223372036854775000)(a1:Nat)(ha1:IntKind.wrap .u64 ((((i+1):Nat):Int)*(13503953896175478587:Int))=(a1:Int))(b1:Nat)(hb1:IntKind.wrap .u64 (((BitVec.ofInt 64 (u:Int)^^^BitVec.ofInt 64 (a1:Int)).toNat:Nat):Int)=(b1:Int))(b2:Nat)(hb2:IntKind.wrap .u64 ((b1:Int)*(11912009170470909681:Int))=(b2:Int))(b3:Nat)(hb3:(Int.fdiv (b2:Int) (2^31))=(b3:Int))(b4:Nat)(hb4:IntKind.wrap .u64 (((BitVec.ofInt 64 (b2:Int)^^^BitVec.ofInt 64 (b3:Int)).toNat:Nat):Int)=(b4:Int))(b5:Nat)(hb5:IntKind.wrap .u64 ((b4:Int)*(5840696475078001361:Int))=(b5:Int))(b6:Nat)(hb6:(Int.fdiv (b5:Int) (2^29))=(b6:Int))(b7:Nat)(hb7:IntKind.wrap .u64 (((BitVec.ofInt 64 (b5:Int)^^^BitVec.ofInt 64 (b6:Int)).toNat:Nat):Int)=(b7:Int))(b8:Nat)(hb8:(Int.fdiv (b7:Int) (2^11))=(b8:Int)):CT 97 #[(pt 5)] (mkH 6 [(5,(.cells [(.slice none 0 0),(nI i),(nU u)] 62 none false))]) (nU b8) (mkH 6 [(5,(.cells [(.slice none 0 0),(nI (i+1)),(nU b4)] 62 none false))]):=
 sF (sc:=[(10,.op (.rwI (((i+1):Nat):Int))),(0,.op (.rwI (((i+1):Nat):Int))),(0,.op (.rwI (a1:Int))),(4,.drw [(9,.rwB false)]),(8,.op (.rwI (((i+1):Nat):Int))),(12,.op (.rwI (b1:Int))),(0,.op (.rwI (b2:Int))),(5,.drwM [(9,.rwI (b3:Int)),(10,.rwI (b4:Int))] []),(6,.op (.rwI (b5:Int))),(6,.op (.rwI (b6:Int))),(0,.op (.rwI (b7:Int))),(0,.op (.rwI (b8:Int))),(3,.stay)]) (by kernel_rfl) (aI (wI64 (a:=((i:Int)+(1:Int))) (r:=(((i+1):Nat):Int))) (aI (wU64 (a:=(((i+1):Nat):Int)) (r:=(((i+1):Nat):Int))) (aI ha1 (aI (aI tt (aI tt (aI tt (aI tt (aI tt (aI tt (aI tt (aI tt (aI tt (aI (dF (p:=(i:Int)<(0:Int))) tt)))))))))) (aI (wI64 (a:=((i:Int)+(1:Int))) (r:=(((i+1):Nat):Int))) (aI hb1 (aI hb2 (aI (aI tt (aI tt (aI tt (aI tt (aI tt (aI tt (aI tt (aI tt (aI tt (aI hb3 (aI hb4 (aI tt (aI tt (aI tt tt)))))))))))))) (aI hb5 (aI hb6 (aI hb7 (aI hb8 tt)))))))))))) (Gets.refl _)
theorem turnn_c(n0 b:Nat)(i u:Nat)(hb:5≤b∧b<n0)(hm:i<9223372036854775000):
  ∃u' x,FT 97 #[pt b] n0 [(b,.cells [.slice none 0 0,.int .i64 ((i:Nat):Int),.int .u64 ((u:Nat):Int)] 62 none false)] (nU x) [(b,some (.cells [.slice none 0 0,.int .i64 ((i+1:Nat):Int),.int .u64 ((u':Nat):Int)] 62 none false))] []:=by
 obtain⟨a1,ha1⟩: ∃v:Nat,IntKind.wrap .u64 ((((i+1):Nat):Int)*(13503953896175478587:Int))=((v:Nat):Int):=ex_u64 _
 obtain⟨b1,hb1⟩: ∃v:Nat,IntKind.wrap .u64 (((BitVec.ofInt 64 ((u:Nat):Int)^^^BitVec.ofInt 64 ((a1:Nat):Int)).toNat:Nat):Int)=((v:Nat):Int):=ex_u64 _
 obtain⟨b2,hb2⟩: ∃v:Nat,IntKind.wrap .u64 (((b1:Nat):Int)*(11912009170470909681:Int))=((v:Nat):Int):=ex_u64 _
 obtain⟨b3,hb3⟩: ∃v:Nat,(Int.fdiv ((b2:Nat):Int) (2^31))=((v:Nat):Int):=ex_shr _ _
 obtain⟨b4,hb4⟩: ∃v:Nat,IntKind.wrap .u64 (((BitVec.ofInt 64 ((b2:Nat):Int)^^^BitVec.ofInt 64 ((b3:Nat):Int)).toNat:Nat):Int)=((v:Nat):Int):=ex_u64 _
 obtain⟨b5,hb5⟩: ∃v:Nat,IntKind.wrap .u64 (((b4:Nat):Int)*(5840696475078001361:Int))=((v:Nat):Int):=ex_u64 _
 obtain⟨b6,hb6⟩: ∃v:Nat,(Int.fdiv ((b5:Nat):Int) (2^29))=((v:Nat):Int):=ex_shr _ _
 obtain⟨b7,hb7⟩: ∃v:Nat,IntKind.wrap .u64 (((BitVec.ofInt 64 ((b5:Nat):Int)^^^BitVec.ofInt 64 ((b6:Nat):Int)).toNat:Nat):Int)=((v:Nat):Int):=ex_u64 _
 obtain⟨b8,hb8⟩: ∃v:Nat,(Int.fdiv ((b7:Nat):Int) (2^11))=((v:Nat):Int):=ex_shr _ _
 exact⟨b4,b8,fsp_flat [b] [.cells [.slice none 0 0,.int .i64 ((i:Nat):Int),.int .u64 ((u:Nat):Int)] 62 none false] [.cells [.slice none 0 0,.int .i64 ((i+1:Nat):Int),.int .u64 ((b4:Nat):Int)] 62 none false] [] [] n0 (tn_n i u hm a1 ha1 b1 hb1 b2 hb2 b3 hb3 b4 hb4 b5 hb5 b6 hb6 b7 hb7 b8 hb8) rfl rfl rfl (by simp) (by simp;omega) (by omega) (by simp[flat,closedL,closed]) (by simp[flat,closedL,closed]) rfl (by simp) (by simp) rfl rfl rfl⟩
noncomputable section
abbrev z_6b1_0(o n c i b4:Nat)(zs:List Int):List (Nat×AObj):=[(5,(.cells [(.slice (some ⟨6,o,none⟩) n c),(nI (i+1)),(nU b4)] 62 none false)),(6,(.win o (zs.map (Value.int .i64))))]
end
theorem tn_a(zs:List Int)(o n c i u:Nat)(z:Int)(hx:(zs.map (Value.int .i64))[i]? =some (.int .i64 z))(hi:i<n)(hm:i<9223372036854775000)(a1:Nat)(ha1:IntKind.wrap .u64 ((((i+1):Nat):Int)*(13503953896175478587:Int))=(a1:Int))(a2:Nat)(ha2:IntKind.wrap .u64 z=(a2:Int))(a3:Nat)(ha3:IntKind.wrap .u64 ((a2:Int)*(4354685564936845355:Int))=(a3:Int))(a4:Nat)(ha4:IntKind.wrap .u64 ((a1:Int)+(a3:Int))=(a4:Int))(b1:Nat)(hb1:IntKind.wrap .u64 (((BitVec.ofInt 64 (u:Int)^^^BitVec.ofInt 64 (a4:Int)).toNat:Nat):Int)=(b1:Int))(b2:Nat)(hb2:IntKind.wrap .u64 ((b1:Int)*(11912009170470909681:Int))=(b2:Int))(b3:Nat)(hb3:(Int.fdiv (b2:Int) (2^31))=(b3:Int))(b4:Nat)(hb4:IntKind.wrap .u64 (((BitVec.ofInt 64 (b2:Int)^^^BitVec.ofInt 64 (b3:Int)).toNat:Nat):Int)=(b4:Int))(b5:Nat)(hb5:IntKind.wrap .u64 ((b4:Int)*(5840696475078001361:Int))=(b5:Int))(b6:Nat)(hb6:(Int.fdiv (b5:Int) (2^29))=(b6:Int))(b7:Nat)(hb7:IntKind.wrap .u64 (((BitVec.ofInt 64 (b5:Int)^^^BitVec.ofInt 64 (b6:Int)).toNat:Nat):Int)=(b7:Int))(b8:Nat)(hb8:(Int.fdiv (b7:Int) (2^11))=(b8:Int)):CT 97 #[(pt 5)] (mkH 7 [(5,(.cells [(.slice (some ⟨6,o,none⟩) n c),(nI i),(nU u)] 62 none false)),(6,(.win o (zs.map (Value.int .i64))))]) (nU b8) (mkH 7 (z_6b1_0 o n c i b4 zs)):=
 sF (sc:=[(10,.op (.rwI (((i+1):Nat):Int))),(0,.op (.rwI (((i+1):Nat):Int))),(0,.op (.rwI (a1:Int))),(4,.drw [(9,.rwB true)]),(1,.drw [(9,.idx (o+i)),(10,.ld (.int .i64 z)),(11,.rwI (a2:Int)),(12,.rwI (a3:Int)),(13,.rwI (a4:Int))]),(6,.op (.rwI (((i+1):Nat):Int))),(12,.op (.rwI (b1:Int))),(0,.op (.rwI (b2:Int))),(5,.drwM [(9,.rwI (b3:Int)),(10,.rwI (b4:Int))] []),(6,.op (.rwI (b5:Int))),(6,.op (.rwI (b6:Int))),(0,.op (.rwI (b7:Int))),(0,.op (.rwI (b8:Int))),(3,.stay)]) (by kernel_rfl) (aI (wI64 (a:=((i:Int)+(1:Int))) (r:=(((i+1):Nat):Int))) (aI (wU64 (a:=(((i+1):Nat):Int)) (r:=(((i+1):Nat):Int))) (aI ha1 (aI (aI tt (aI tt (aI tt (aI tt (aI tt (aI tt (aI tt (aI tt (aI tt (aI (dT (p:=(i:Int)<(n:Int))) tt)))))))))) (aI (aI tt (aI tt (aI tt (aI tt (aI tt (aI tt (aI tt (aI tt (aI tt (aI (ix (i:Int) (n:Int) o 1 (o+i)) (aI (show o≤(o+i)∧((zs.map (Value.int .i64)):List Value)[(o+i)-o]? =some (.int .i64 z) from⟨Nat.le_add_right _ _,by rw[Nat.add_sub_cancel_left];exact hx⟩) (aI ha2 (aI ha3 (aI ha4 (aI tt tt))))))))))))))) (aI (wI64 (a:=((i:Int)+(1:Int))) (r:=(((i+1):Nat):Int))) (aI hb1 (aI hb2 (aI (aI tt (aI tt (aI tt (aI tt (aI tt (aI tt (aI tt (aI tt (aI tt (aI hb3 (aI hb4 (aI tt (aI tt (aI tt tt)))))))))))))) (aI hb5 (aI hb6 (aI hb7 (aI hb8 tt))))))))))))) (Gets.refl _)
theorem turn_a(n0 b L:Nat)(zs:List Int)(o n c i u:Nat)(hb:5≤b∧b<n0∧5≤L∧L<n0∧b≠L)(hn:n≤zs.length)(hi:i<n)(hm:i<9223372036854775000):
  ∃u' x,FT 97 #[pt b] n0 [(b,.cells [.slice (some ⟨L,o,none⟩) n c,.int .i64 ((i:Nat):Int),.int .u64 ((u:Nat):Int)] 62 none false),(L,.win o (zs.map (Value.int .i64)))] (nU x) [(b,some (.cells [.slice (some ⟨L,o,none⟩) n c,.int .i64 ((i+1:Nat):Int),.int .u64 ((u':Nat):Int)] 62 none false)),(L,some (.win o (zs.map (Value.int .i64))))] []:=by
 obtain⟨a1,ha1⟩: ∃v:Nat,IntKind.wrap .u64 ((((i+1):Nat):Int)*(13503953896175478587:Int))=((v:Nat):Int):=ex_u64 _
 obtain⟨a2,ha2⟩: ∃v:Nat,IntKind.wrap .u64 (zs.getD i 0)=((v:Nat):Int):=ex_u64 _
 obtain⟨a3,ha3⟩: ∃v:Nat,IntKind.wrap .u64 (((a2:Nat):Int)*(4354685564936845355:Int))=((v:Nat):Int):=ex_u64 _
 obtain⟨a4,ha4⟩: ∃v:Nat,IntKind.wrap .u64 (((a1:Nat):Int)+((a3:Nat):Int))=((v:Nat):Int):=ex_u64 _
 obtain⟨b1,hb1⟩: ∃v:Nat,IntKind.wrap .u64 (((BitVec.ofInt 64 ((u:Nat):Int)^^^BitVec.ofInt 64 ((a4:Nat):Int)).toNat:Nat):Int)=((v:Nat):Int):=ex_u64 _
 obtain⟨b2,hb2⟩: ∃v:Nat,IntKind.wrap .u64 (((b1:Nat):Int)*(11912009170470909681:Int))=((v:Nat):Int):=ex_u64 _
 obtain⟨b3,hb3⟩: ∃v:Nat,(Int.fdiv ((b2:Nat):Int) (2^31))=((v:Nat):Int):=ex_shr _ _
 obtain⟨b4,hb4⟩: ∃v:Nat,IntKind.wrap .u64 (((BitVec.ofInt 64 ((b2:Nat):Int)^^^BitVec.ofInt 64 ((b3:Nat):Int)).toNat:Nat):Int)=((v:Nat):Int):=ex_u64 _
 obtain⟨b5,hb5⟩: ∃v:Nat,IntKind.wrap .u64 (((b4:Nat):Int)*(5840696475078001361:Int))=((v:Nat):Int):=ex_u64 _
 obtain⟨b6,hb6⟩: ∃v:Nat,(Int.fdiv ((b5:Nat):Int) (2^29))=((v:Nat):Int):=ex_shr _ _
 obtain⟨b7,hb7⟩: ∃v:Nat,IntKind.wrap .u64 (((BitVec.ofInt 64 ((b5:Nat):Int)^^^BitVec.ofInt 64 ((b6:Nat):Int)).toNat:Nat):Int)=((v:Nat):Int):=ex_u64 _
 obtain⟨b8,hb8⟩: ∃v:Nat,(Int.fdiv ((b7:Nat):Int) (2^11))=((v:Nat):Int):=ex_shr _ _
 refine⟨b4,b8,fsp_move (os':=[.cells [.slice (some ⟨L,o,none⟩) n c,.int .i64 ((i:Nat):Int),.int .u64 ((u:Nat):Int)] 62 none false,.win o (zs.map (Value.int .i64))]) (ps':=[.cells [.slice (some ⟨L,o,none⟩) n c,.int .i64 ((i+1:Nat):Int),.int .u64 ((b4:Nat):Int)] 62 none false,.win o (zs.map (Value.int .i64))]) (qs':=[]) [b,L] [.cells [.slice (some ⟨6,o,none⟩) n c,.int .i64 ((i:Nat):Int),.int .u64 ((u:Nat):Int)] 62 none false,.win o (zs.map (Value.int .i64))] [.cells [.slice (some ⟨6,o,none⟩) n c,.int .i64 ((i+1:Nat):Int),.int .u64 ((b4:Nat):Int)] 62 none false,.win o (zs.map (Value.int .i64))] [] [] n0 (tn_a zs o n c i u (zs.getD i 0) (ints_get (by omega)) hi hm a1 ha1 a2 ha2 a3 ha3 a4 ha4 b1 hb1 b2 hb2 b3 hb3 b4 hb4 b5 hb5 b6 hb6 b7 hb7 b8 hb8) rfl rfl rfl (by simp[hb.2.2.2.2]) (by simp;omega) (by omega) rfl
  (by simp[goodO,goodL,good,okI,closedL_good _ _ (ints_closed zs)]) rfl (by simp only[List.map_cons,List.map_nil,mvO,closedL_mv _ _ (ints_closed zs)];rfl) (by simp only[List.map_cons,List.map_nil,mvO,closedL_mv _ _ (ints_closed zs)];rfl) rfl (by simp) (by simp) rfl rfl rfl⟩
theorem tn_b(zs:List Int)(o n c i u:Nat)(hi:n≤i)(hm:i<9223372036854775000)(a1:Nat)(ha1:IntKind.wrap .u64 ((((i+1):Nat):Int)*(13503953896175478587:Int))=(a1:Int))(b1:Nat)(hb1:IntKind.wrap .u64 (((BitVec.ofInt 64 (u:Int)^^^BitVec.ofInt 64 (a1:Int)).toNat:Nat):Int)=(b1:Int))(b2:Nat)(hb2:IntKind.wrap .u64 ((b1:Int)*(11912009170470909681:Int))=(b2:Int))(b3:Nat)(hb3:(Int.fdiv (b2:Int) (2^31))=(b3:Int))(b4:Nat)(hb4:IntKind.wrap .u64 (((BitVec.ofInt 64 (b2:Int)^^^BitVec.ofInt 64 (b3:Int)).toNat:Nat):Int)=(b4:Int))(b5:Nat)(hb5:IntKind.wrap .u64 ((b4:Int)*(5840696475078001361:Int))=(b5:Int))(b6:Nat)(hb6:(Int.fdiv (b5:Int) (2^29))=(b6:Int))(b7:Nat)(hb7:IntKind.wrap .u64 (((BitVec.ofInt 64 (b5:Int)^^^BitVec.ofInt 64 (b6:Int)).toNat:Nat):Int)=(b7:Int))(b8:Nat)(hb8:(Int.fdiv (b7:Int) (2^11))=(b8:Int)):CT 97 #[(pt 5)] (mkH 7 [(5,(.cells [(.slice (some ⟨6,o,none⟩) n c),(nI i),(nU u)] 62 none false)),(6,(.win o (zs.map (Value.int .i64))))]) (nU b8) (mkH 7 (z_6b1_0 o n c i b4 zs)):=
 sF (sc:=[(10,.op (.rwI (((i+1):Nat):Int))),(0,.op (.rwI (((i+1):Nat):Int))),(0,.op (.rwI (a1:Int))),(4,.drw [(9,.rwB false)]),(8,.op (.rwI (((i+1):Nat):Int))),(12,.op (.rwI (b1:Int))),(0,.op (.rwI (b2:Int))),(5,.drwM [(9,.rwI (b3:Int)),(10,.rwI (b4:Int))] []),(6,.op (.rwI (b5:Int))),(6,.op (.rwI (b6:Int))),(0,.op (.rwI (b7:Int))),(0,.op (.rwI (b8:Int))),(3,.stay)]) (by kernel_rfl) (aI (wI64 (a:=((i:Int)+(1:Int))) (r:=(((i+1):Nat):Int))) (aI (wU64 (a:=(((i+1):Nat):Int)) (r:=(((i+1):Nat):Int))) (aI ha1 (aI (aI tt (aI tt (aI tt (aI tt (aI tt (aI tt (aI tt (aI tt (aI tt (aI (dF (p:=(i:Int)<(n:Int))) tt)))))))))) (aI (wI64 (a:=((i:Int)+(1:Int))) (r:=(((i+1):Nat):Int))) (aI hb1 (aI hb2 (aI (aI tt (aI tt (aI tt (aI tt (aI tt (aI tt (aI tt (aI tt (aI tt (aI hb3 (aI hb4 (aI tt (aI tt (aI tt tt)))))))))))))) (aI hb5 (aI hb6 (aI hb7 (aI hb8 tt)))))))))))) (Gets.refl _)
theorem turn_b(n0 b L:Nat)(zs:List Int)(o n c i u:Nat)(hb:5≤b∧b<n0∧5≤L∧L<n0∧b≠L)(hn:n≤zs.length)(hi:n≤i)(hm:i<9223372036854775000):
  ∃u' x,FT 97 #[pt b] n0 [(b,.cells [.slice (some ⟨L,o,none⟩) n c,.int .i64 ((i:Nat):Int),.int .u64 ((u:Nat):Int)] 62 none false),(L,.win o (zs.map (Value.int .i64)))] (nU x) [(b,some (.cells [.slice (some ⟨L,o,none⟩) n c,.int .i64 ((i+1:Nat):Int),.int .u64 ((u':Nat):Int)] 62 none false)),(L,some (.win o (zs.map (Value.int .i64))))] []:=by
 obtain⟨a1,ha1⟩: ∃v:Nat,IntKind.wrap .u64 ((((i+1):Nat):Int)*(13503953896175478587:Int))=((v:Nat):Int):=ex_u64 _
 obtain⟨b1,hb1⟩: ∃v:Nat,IntKind.wrap .u64 (((BitVec.ofInt 64 ((u:Nat):Int)^^^BitVec.ofInt 64 ((a1:Nat):Int)).toNat:Nat):Int)=((v:Nat):Int):=ex_u64 _
 obtain⟨b2,hb2⟩: ∃v:Nat,IntKind.wrap .u64 (((b1:Nat):Int)*(11912009170470909681:Int))=((v:Nat):Int):=ex_u64 _
 obtain⟨b3,hb3⟩: ∃v:Nat,(Int.fdiv ((b2:Nat):Int) (2^31))=((v:Nat):Int):=ex_shr _ _
 obtain⟨b4,hb4⟩: ∃v:Nat,IntKind.wrap .u64 (((BitVec.ofInt 64 ((b2:Nat):Int)^^^BitVec.ofInt 64 ((b3:Nat):Int)).toNat:Nat):Int)=((v:Nat):Int):=ex_u64 _
 obtain⟨b5,hb5⟩: ∃v:Nat,IntKind.wrap .u64 (((b4:Nat):Int)*(5840696475078001361:Int))=((v:Nat):Int):=ex_u64 _
 obtain⟨b6,hb6⟩: ∃v:Nat,(Int.fdiv ((b5:Nat):Int) (2^29))=((v:Nat):Int):=ex_shr _ _
 obtain⟨b7,hb7⟩: ∃v:Nat,IntKind.wrap .u64 (((BitVec.ofInt 64 ((b5:Nat):Int)^^^BitVec.ofInt 64 ((b6:Nat):Int)).toNat:Nat):Int)=((v:Nat):Int):=ex_u64 _
 obtain⟨b8,hb8⟩: ∃v:Nat,(Int.fdiv ((b7:Nat):Int) (2^11))=((v:Nat):Int):=ex_shr _ _
 refine⟨b4,b8,fsp_move (os':=[.cells [.slice (some ⟨L,o,none⟩) n c,.int .i64 ((i:Nat):Int),.int .u64 ((u:Nat):Int)] 62 none false,.win o (zs.map (Value.int .i64))]) (ps':=[.cells [.slice (some ⟨L,o,none⟩) n c,.int .i64 ((i+1:Nat):Int),.int .u64 ((b4:Nat):Int)] 62 none false,.win o (zs.map (Value.int .i64))]) (qs':=[]) [b,L] [.cells [.slice (some ⟨6,o,none⟩) n c,.int .i64 ((i:Nat):Int),.int .u64 ((u:Nat):Int)] 62 none false,.win o (zs.map (Value.int .i64))] [.cells [.slice (some ⟨6,o,none⟩) n c,.int .i64 ((i+1:Nat):Int),.int .u64 ((b4:Nat):Int)] 62 none false,.win o (zs.map (Value.int .i64))] [] [] n0 (tn_b zs o n c i u hi hm a1 ha1 b1 hb1 b2 hb2 b3 hb3 b4 hb4 b5 hb5 b6 hb6 b7 hb7 b8 hb8) rfl rfl rfl (by simp[hb.2.2.2.2]) (by simp;omega) (by omega) rfl
  (by simp[goodO,goodL,good,okI,closedL_good _ _ (ints_closed zs)]) rfl (by simp only[List.map_cons,List.map_nil,mvO,closedL_mv _ _ (ints_closed zs)];rfl) (by simp only[List.map_cons,List.map_nil,mvO,closedL_mv _ _ (ints_closed zs)];rfl) rfl (by simp) (by simp) rfl rfl rfl⟩
theorem turn_c(n0 b L:Nat)(zs:List Int)(o n c i u:Nat)(hb:5≤b∧b<n0∧5≤L∧L<n0∧b≠L)(hn:n≤zs.length)(hm:i<9223372036854775000):
  ∃u' x,FT 97 #[pt b] n0 [(b,.cells [.slice (some ⟨L,o,none⟩) n c,.int .i64 ((i:Nat):Int),.int .u64 ((u:Nat):Int)] 62 none false),(L,.win o (zs.map (Value.int .i64)))] (nU x) [(b,some (.cells [.slice (some ⟨L,o,none⟩) n c,.int .i64 ((i+1:Nat):Int),.int .u64 ((u':Nat):Int)] 62 none false)),(L,some (.win o (zs.map (Value.int .i64))))] []:=by
 rcases Nat.lt_or_ge i n with h|h
 ·exact turn_a n0 b L zs o n c i u hb hn h hm
 ·exact turn_b n0 b L zs o n c i u hb hn h hm
end Go.Proofs.YtldoiilgfcpipaaGreatDoor
