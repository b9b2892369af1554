import Derived.Test.YtdgbfelbfhgglaaGreatDoorK
import Derived.Test.YtdgbfelbfhgglaaGreatDoorLF
import Derived.Test.YtdgbfelbfhgglaaGreatDoorLE
set_option linter.unusedVariables false
set_option linter.unusedSimpArgs false
set_option maxRecDepth 100000
namespace Go.Proofs.YtdgbfelbfhgglaaGreatDoor
open Go Go.AE Seg
theorem digit_ne: ∀d,d<10→((dstr [d]).toList==(Seg.bts [45]).toList)=false:=by decide+kernel
theorem mstr_size(ds:List Nat):(mstr ds).size=ds.length+1:=by simp[mstr,ByteArray.size]
theorem mstr_cut(ds:List Nat):(mstr ds).extract 0 1=Seg.bts [45]:=by
 apply ByteArray.ext
 simp only[ByteArray.data_extract,mstr,Seg.bts]
 apply Array.ext'
 rw[Array.toList_extract,List.extract_eq_take_drop]
 simp
theorem mstr_rest(ds:List Nat)(n:Nat)(hn:n=ds.length+1):(mstr ds).extract 1 n=dstr ds:=by
 apply ByteArray.ext
 simp only[ByteArray.data_extract,mstr,dstr]
 apply Array.ext'
 rw[Array.toList_extract,List.extract_eq_take_drop,hn,List.drop_succ_cons,List.drop_zero,Nat.add_sub_cancel]
 exact List.take_of_length_le (by rw[List.length_map];exact Nat.le_refl _)
theorem mstr_cat(ds:List Nat):Seg.bts [45]++dstr ds=mstr ds:=by
 apply ByteArray.ext
 simp[ByteArray.data_append,mstr,dstr,Seg.bts]
theorem dstr_cut{ds:List Nat}(h:0<ds.length):(dstr ds).extract 0 1=dstr [ds.getD 0 0]:=by
 rw[dstr_extract]
 cases ds with
 |nil=>simp at h
 |cons d ds=>rfl
theorem so_p(ds:List Nat)(d:Nat)(hd:d<10)(h0:0<(dstr ds).size)(hx:(dstr ds).extract 0 1=dstr [d]):CT 255 #[(.string (dstr ds))] (mkH 10 []) (.tuple #[bF,(.string (dstr ds))]) (mkH 10 []):=
 sF (sc:=[(40,.op (.rwB true)),(4,.op (.sslc (dstr [d]))),(1,.op (.rwB false)),(37,.stay)]) (by kernel_rfl) (aI (show decide ((((dstr ds).size:Nat):Int)≥(1:Int))=true from (by rw[decide_eq_true_eq];omega)) (aI (show 0≤(0:Int)∧(0:Int)≤(1:Int)∧(1:Int)≤(((dstr ds).size:Nat):Int)∧(dstr ds).extract (Int.toNat (0:Int)) (Int.toNat (1:Int))=(dstr [d]) from⟨by omega,by omega,by omega,hx⟩) (aI (show ((dstr [d]).toList==(bts [45]).toList)=false from (digit_ne d hd)) tt))) (Gets.refl _)
theorem so_m(ds:List Nat)(hs:(mstr ds).size=ds.length+1):CT 255 #[(.string (mstr ds))] (mkH 10 []) (.tuple #[bT,(.string (dstr ds))]) (mkH 10 []):=
 sF (sc:=[(40,.op (.rwB true)),(4,.op (.sslc (bts [45]))),(1,.op (.rwB true)),(14,.op (.sslc (dstr ds))),(26,.stay)]) (by kernel_rfl) (aI (show decide ((((mstr ds).size:Nat):Int)≥(1:Int))=true from (by rw[decide_eq_true_eq];omega)) (aI (show 0≤(0:Int)∧(0:Int)≤(1:Int)∧(1:Int)≤(((mstr ds).size:Nat):Int)∧(mstr ds).extract (Int.toNat (0:Int)) (Int.toNat (1:Int))=(bts [45]) from⟨by omega,by omega,by omega,mstr_cut ds⟩) (aI (show ((bts [45]).toList==(bts [45]).toList)=true from (by decide+kernel)) (aI (show 0≤(1:Int)∧(1:Int)≤(((mstr ds).size:Nat):Int)∧(((mstr ds).size:Nat):Int)≤(((mstr ds).size:Nat):Int)∧(mstr ds).extract (Int.toNat (1:Int)) (Int.toNat (((mstr ds).size:Nat):Int))=(dstr ds) from⟨by omega,by omega,by omega,mstr_rest ds _ hs⟩) tt)))) (Gets.refl _)
theorem so_pc(n0:Nat)(ds:List Nat)(hG:10≤n0)(hd:Dig ds)(h0:0<ds.length):FT 255 #[.string (dstr ds)] n0 [] (.tuple #[.bool false,.string (dstr ds)]) [] []:=
 fsp_flat [] [] [] [] [] n0 (so_p ds _ (hd.get 0) (by rw[dstr_size];exact h0) (dstr_cut h0)) rfl rfl rfl (by simp) (by simp) hG rfl rfl rfl (by simp) (by simp) rfl rfl rfl
theorem so_mc(n0:Nat)(ds:List Nat)(hG:10≤n0):FT 255 #[.string (mstr ds)] n0 [] (.tuple #[.bool true,.string (dstr ds)]) [] []:=
 fsp_flat [] [] [] [] [] n0 (so_m ds (mstr_size ds)) rfl rfl rfl (by simp) (by simp) hG rfl rfl rfl (by simp) (by simp) rfl rfl rfl
noncomputable section
abbrev z_756_0(ds:List Nat):Value:=.tuple #[bF,(.string (dstr ds))]
abbrev z_756_1(ds:List Nat):AS:=⟨Frame.enter Tryz.prog 254 #[(.string (dstr ds)),(lI 10)] .normal,[],mkH 10 []⟩
abbrev z_756_2(ds:List Nat):Value:=.tuple #[bT,(.string (dstr ds))]
abbrev z_756_3(d:Nat):Value:=nB ((UInt8.ofNat (48+d)).toNat)
end
theorem do_(q:Nat)(hq:q<10):CT 300 #[(nR (48+q))] (mkH 10 []) (nI q) (mkH 10 []):=
 sF (sc:=[(15,.op (.rwB false)),(11,.op (.rwB true)),(2,.op (.rwB true)),(9,.op (.rwI (q:Int))),(0,.op (.rwI (q:Int))),(3,.stay)]) (by kernel_rfl) (aI (dF (p:=(97:Int)≤(((48+q):Nat):Int)) (by omega)) (aI (dT (p:=(48:Int)≤(((48+q):Nat):Int)) (by omega)) (aI (dT (p:=(((48+q):Nat):Int)≤(57:Int)) (by omega)) (aI (wI32 (a:=((((48+q):Nat):Int)-(48:Int))) (r:=(q:Int)) (by omega)) (aI (wI64 (a:=(q:Int)) (r:=(q:Int)) (by omega)) tt))))) (Gets.refl _)
theorem do_c(n0:Nat)(q:Nat)(hG:10≤n0)(hq:q<10):FT 300 #[(nR (48+q))] n0 [] (nI q) [] []:=
 fsp_flat [] [] [] [] [] n0 (do_ q hq) rfl rfl rfl (by simp) (by simp) hG rfl rfl rfl (by simp) (by simp) rfl rfl rfl
theorem ne_empty{ds:List Nat}(h:0<ds.length):((dstr ds).toList==(Seg.bts []).toList)=false:=by
 rw[ByteArray.toList_eq,ByteArray.toList_eq]
 cases ds with
 |nil=>simp at h
 |cons d ds=>rfl
theorem byte_zero{d:Nat}(h0:d=0):((((UInt8.ofNat (48+d)).toNat:Nat):Int)==(48:Int))=true:=by subst h0;rfl
theorem byte_ne{d:Nat}(h:d<10)(h0:d≠0):((((UInt8.ofNat (48+d)).toNat:Nat):Int)==(48:Int))=false:=by
 rw[byte_nat h,beq_eq_false_iff_ne];omega
noncomputable def wfp_h_f(ds:List Nat)(d p:Nat)(j:List Value):Frame:=⟨254,List.toArray [(.string (dstr ds)),(lI 10),uu,uu,(J j 0),bF,(.string (dstr ds)),uu,(J j 1),(J j 2),(J j 3),(J j 4),bF,(J j 5),(J j 6),bF,bF,(J j 7),(J j 8),bF,bF,uu,uu,uu,uu,uu,uu,bF,bF,(J j 9),(pt 10),(J j 10),(J j 11),(J j 12),(J j 13),(J j 14),(J j 15),(J j 16)],[.code (cd Tryz.f254 [1,1,1,0,1,0,0]),.inLoop (cd Tryz.f254 [1,1,1,0,1,0,0]),.inBlock 0,.code (cd Tryz.f254 [1,1,1,1])],[],.run,.normal,none⟩
noncomputable def wfp_h_o(ds:List Nat)(d p:Nat):List (Nat×AObj):=[(10,(.iter (dstr ds) p))]
noncomputable def wfp_h(ds:List Nat)(d p:Nat)(j:List Value):AS:=⟨wfp_h_f ds d p j,[],mkH 11 (wfp_h_o ds d p)⟩
theorem wfp_in(ds:List Nat)(d:Nat)(hd:Dig ds)(h0:0<ds.length)(h1:d<10)(h2:d≠0)(hx:(dstr ds)[0]? =some (UInt8.ofNat (48+d))):GT (z_756_1 ds) (wfp_h ds d 0 [bF,undef,(z_756_0 ds),(.string (dstr ds)),(z_756_0 ds),(.string (dstr ds)),(.string (dstr ds)),(.string (dstr ds)),(z_756_3 d),(.string (dstr ds)),undef,undef,undef,undef,undef,undef,undef]):=
 sR (sc:=[(7,.call [] (z_756_0 ds) [] []),(10,.op (.rwB false)),(2,.op (.sidx (UInt8.ofNat (48+d)))),(0,.op (.rwB false)),(20,.stay)]) (by kernel_rfl) (aI (so_pc 10 ds (by omega) hd h0) (aI (show ((dstr ds).toList==(bts []).toList)=false from (ne_empty h0)) (aI (show 0≤(0:Int)∧(dstr ds)[Int.toNat (0:Int)]? =some (UInt8.ofNat (48+d)) from⟨by omega,hx⟩) (aI (show ((((UInt8.ofNat (48+d)).toNat:Nat):Int)==(48:Int))=false from (byte_ne h1 h2)) tt))))
theorem wfp_r(ds:List Nat)(d p q:Nat)(j:List Value)(hq:q<10)(hp:p<(dstr ds).size)(he:Utf8.decode (dstr ds) p=(48+q,1)):GT (wfp_h ds d p j) (wfp_h ds d (p+1) [(J j 0),(nR (48+q)),(J j 2),(J j 3),(J j 4),(J j 5),(J j 6),(J j 7),(J j 8),(J j 9),(.tuple #[bT,(nI p),(nR (48+q))]),bT,(nR (48+q)),(nR (48+q)),(nI q),(lI 10),bF]):=
 sR (sc:=[(2,.op (.nxtC (48+q) 1 (p+1))),(14,.call [] (nI q) [] []),(1,.op (.rwB false)),(5,.stay)]) (by kernel_rfl) (aI (show p<(dstr ds).size∧Utf8.decode (dstr ds) p=((48+q),1)∧p+1=(p+1) from⟨hp,he,rfl⟩) (aI (do_c 11 q (by omega) hq) (aI (dF (p:=(q:Int)≥(10:Int)) (by omega)) tt)))
theorem wfp_o(ds:List Nat)(d p:Nat)(j:List Value)(hp:(dstr ds).size≤p)(hr:GT (z_756_1 ds) (wfp_h ds d p j)):CT 254 #[(.string (dstr ds)),(lI 10)] (mkH 10 []) bT (mkH 11 []):=
 sF (sc:=[(2,.op (.nxtE)),(10,.stay)]) (by kernel_rfl) (aI (show ¬p<(dstr ds).size from (by omega)) tt) hr
theorem wfp_loop{ds:List Nat}{d:Nat}(hd:Dig ds): ∀(k p:Nat) (j:List Value),k=ds.length-p→p≤ds.length→
  GT ⟨Frame.enter Tryz.prog 254 #[(.string (dstr ds)),(lI 10)] .normal,[],mkH 10 []⟩ (wfp_h ds d p j)→CT 254 #[(.string (dstr ds)),(lI 10)] (mkH 10 []) bT (mkH 11 []):=by
 intro k
 induction k with
 |zero=>
  intro p j hk hp hr
  exact wfp_o ds d p j (by rw[dstr_size];omega) hr
 |succ k ih=>
  intro p j hk hp hr
  have r:=wfp_r ds d p (ds.getD p 0) j (hd.get p) (by rw[dstr_size];omega) (decode_dstr hd (by omega))
  exact ih (p+1) _ (by omega) (by omega) (hr.trans r)
theorem wfpc(n0:Nat)(ds:List Nat)(hG:10≤n0)(hd:Dig ds)(h0:0<ds.length)(h1:ds.getD 0 0≠0):FT 254 #[(.string (dstr ds)),(lI 10)] n0 [] bT [] []:=
 fsp_flat [] [] [] [] [] n0 (wfp_loop hd _ _ _ rfl (Nat.zero_le _) (wfp_in ds _ hd h0 (hd.get 0) h1 (dstr_get h0))) rfl rfl rfl (by simp) (by simp) hG rfl rfl rfl (by simp) (by simp) rfl rfl rfl
noncomputable def wfm_h_f(ds:List Nat)(d p:Nat)(j:List Value):Frame:=⟨254,List.toArray [(.string (mstr ds)),(lI 10),uu,uu,(J j 0),bT,(.string (dstr ds)),uu,(J j 1),(J j 2),(J j 3),(J j 4),bT,(J j 5),(J j 6),bF,bF,(J j 7),(J j 8),bF,bF,uu,uu,uu,uu,uu,uu,bF,bF,(J j 9),(pt 10),(J j 10),(J j 11),(J j 12),(J j 13),(J j 14),(J j 15),(J j 16)],[.code (cd Tryz.f254 [1,1,1,0,1,0,0]),.inLoop (cd Tryz.f254 [1,1,1,0,1,0,0]),.inBlock 0,.code (cd Tryz.f254 [1,1,1,1])],[],.run,.normal,none⟩
noncomputable def wfm_h_o(ds:List Nat)(d p:Nat):List (Nat×AObj):=[(10,(.iter (dstr ds) p))]
noncomputable def wfm_h(ds:List Nat)(d p:Nat)(j:List Value):AS:=⟨wfm_h_f ds d p j,[],mkH 11 (wfm_h_o ds d p)⟩
theorem wfm_in(ds:List Nat)(d:Nat)(hd:Dig ds)(h0:0<ds.length)(h1:d<10)(h2:d≠0)(hx:(dstr ds)[0]? =some (UInt8.ofNat (48+d))):GT ⟨Frame.enter Tryz.prog 254 #[(.string (mstr ds)),(lI 10)] .normal,[],mkH 10 []⟩ (wfm_h ds d 0 [bF,undef,(z_756_2 ds),(.string (mstr ds)),(z_756_2 ds),(.string (dstr ds)),(.string (dstr ds)),(.string (dstr ds)),(z_756_3 d),(.string (dstr ds)),undef,undef,undef,undef,undef,undef,undef]):=
 sR (sc:=[(7,.call [] (z_756_2 ds) [] []),(10,.op (.rwB false)),(2,.op (.sidx (UInt8.ofNat (48+d)))),(0,.op (.rwB false)),(20,.stay)]) (by kernel_rfl) (aI (so_mc 10 ds (by omega)) (aI (show ((dstr ds).toList==(bts []).toList)=false from (ne_empty h0)) (aI (show 0≤(0:Int)∧(dstr ds)[Int.toNat (0:Int)]? =some (UInt8.ofNat (48+d)) from⟨by omega,hx⟩) (aI (show ((((UInt8.ofNat (48+d)).toNat:Nat):Int)==(48:Int))=false from (byte_ne h1 h2)) tt))))
theorem wfm_r(ds:List Nat)(d p q:Nat)(j:List Value)(hq:q<10)(hp:p<(dstr ds).size)(he:Utf8.decode (dstr ds) p=(48+q,1)):GT (wfm_h ds d p j) (wfm_h ds d (p+1) [(J j 0),(nR (48+q)),(J j 2),(J j 3),(J j 4),(J j 5),(J j 6),(J j 7),(J j 8),(J j 9),(.tuple #[bT,(nI p),(nR (48+q))]),bT,(nR (48+q)),(nR (48+q)),(nI q),(lI 10),bF]):=
 sR (sc:=[(2,.op (.nxtC (48+q) 1 (p+1))),(14,.call [] (nI q) [] []),(1,.op (.rwB false)),(5,.stay)]) (by kernel_rfl) (aI (show p<(dstr ds).size∧Utf8.decode (dstr ds) p=((48+q),1)∧p+1=(p+1) from⟨hp,he,rfl⟩) (aI (do_c 11 q (by omega) hq) (aI (dF (p:=(q:Int)≥(10:Int)) (by omega)) tt)))
theorem wfm_o(ds:List Nat)(d p:Nat)(j:List Value)(hp:(dstr ds).size≤p)(hr:GT ⟨Frame.enter Tryz.prog 254 #[(.string (mstr ds)),(lI 10)] .normal,[],mkH 10 []⟩ (wfm_h ds d p j)):CT 254 #[(.string (mstr ds)),(lI 10)] (mkH 10 []) bT (mkH 11 []):=
 sF (sc:=[(2,.op (.nxtE)),(10,.stay)]) (by kernel_rfl) (aI (show ¬p<(dstr ds).size from (by omega)) tt) hr
theorem wfm_loop{ds:List Nat}{d:Nat}(hd:Dig ds): ∀(k p:Nat) (j:List Value),k=ds.length-p→p≤ds.length→
  GT ⟨Frame.enter Tryz.prog 254 #[(.string (mstr ds)),(lI 10)] .normal,[],mkH 10 []⟩ (wfm_h ds d p j)→CT 254 #[(.string (mstr ds)),(lI 10)] (mkH 10 []) bT (mkH 11 []):=by
 intro k
 induction k with
 |zero=>
  intro p j hk hp hr
  exact wfm_o ds d p j (by rw[dstr_size];omega) hr
 |succ k ih=>
  intro p j hk hp hr
  have r:=wfm_r ds d p (ds.getD p 0) j (hd.get p) (by rw[dstr_size];omega) (decode_dstr hd (by omega))
  exact ih (p+1) _ (by omega) (by omega) (hr.trans r)
theorem wfmc(n0:Nat)(ds:List Nat)(hG:10≤n0)(hd:Dig ds)(h0:0<ds.length)(h1:ds.getD 0 0≠0):FT 254 #[(.string (mstr ds)),(lI 10)] n0 [] bT [] []:=
 fsp_flat [] [] [] [] [] n0 (wfm_loop hd _ _ _ rfl (Nat.zero_le _) (wfm_in ds _ hd h0 (hd.get 0) h1 (dstr_get h0))) rfl rfl rfl (by simp) (by simp) hG rfl rfl rfl (by simp) (by simp) rfl rfl rfl
noncomputable def wfz_h_f(ds:List Nat)(d p:Nat)(j:List Value):Frame:=⟨254,List.toArray [(.string (dstr ds)),(lI 10),uu,uu,(J j 0),bF,(.string (dstr ds)),uu,(J j 1),(J j 2),(J j 3),(J j 4),bF,(J j 5),(J j 6),bF,bF,(J j 7),(J j 8),bT,bT,bF,bF,bF,(J j 9),bF,bF,bF,bF,(J j 10),(pt 10),(J j 11),(J j 12),(J j 13),(J j 14),(J j 15),(J j 16),(J j 17)],[.code (cd Tryz.f254 [1,1,1,0,1,0,0]),.inLoop (cd Tryz.f254 [1,1,1,0,1,0,0]),.inBlock 0,.code (cd Tryz.f254 [1,1,1,1])],[],.run,.normal,none⟩
noncomputable def wfz_h_o(ds:List Nat)(d p:Nat):List (Nat×AObj):=[(10,(.iter (dstr ds) p))]
noncomputable def wfz_h(ds:List Nat)(d p:Nat)(j:List Value):AS:=⟨wfz_h_f ds d p j,[],mkH 11 (wfz_h_o ds d p)⟩
theorem wfz_in(ds:List Nat)(d:Nat)(hd:Dig ds)(h0:0<ds.length)(h1:d<10)(h2:d=0)(hz:(!((dstr ds).toList==(Seg.bts [48]).toList))=false)(hx:(dstr ds)[0]? =some (UInt8.ofNat (48+d))):GT (z_756_1 ds) (wfz_h ds d 0 [bF,undef,(z_756_0 ds),(.string (dstr ds)),(z_756_0 ds),(.string (dstr ds)),(.string (dstr ds)),(.string (dstr ds)),(z_756_3 d),(.string (dstr ds)),(.string (dstr ds)),undef,undef,undef,undef,undef,undef,undef]):=
 sR (sc:=[(7,.call [] (z_756_0 ds) [] []),(10,.op (.rwB false)),(2,.op (.sidx (UInt8.ofNat (48+d)))),(0,.op (.rwB true)),(16,.op (.rwB false)),(14,.stay)]) (by kernel_rfl) (aI (so_pc 10 ds (by omega) hd h0) (aI (show ((dstr ds).toList==(bts []).toList)=false from (ne_empty h0)) (aI (show 0≤(0:Int)∧(dstr ds)[Int.toNat (0:Int)]? =some (UInt8.ofNat (48+d)) from⟨by omega,hx⟩) (aI (show ((((UInt8.ofNat (48+d)).toNat:Nat):Int)==(48:Int))=true from (byte_zero h2)) (aI hz tt)))))
theorem wfz_r(ds:List Nat)(d p q:Nat)(j:List Value)(hq:q<10)(hp:p<(dstr ds).size)(he:Utf8.decode (dstr ds) p=(48+q,1)):GT (wfz_h ds d p j) (wfz_h ds d (p+1) [(J j 0),(nR (48+q)),(J j 2),(J j 3),(J j 4),(J j 5),(J j 6),(J j 7),(J j 8),(J j 9),(J j 10),(.tuple #[bT,(nI p),(nR (48+q))]),bT,(nR (48+q)),(nR (48+q)),(nI q),(lI 10),bF]):=
 sR (sc:=[(2,.op (.nxtC (48+q) 1 (p+1))),(14,.call [] (nI q) [] []),(1,.op (.rwB false)),(5,.stay)]) (by kernel_rfl) (aI (show p<(dstr ds).size∧Utf8.decode (dstr ds) p=((48+q),1)∧p+1=(p+1) from⟨hp,he,rfl⟩) (aI (do_c 11 q (by omega) hq) (aI (dF (p:=(q:Int)≥(10:Int)) (by omega)) tt)))
theorem wfz_o(ds:List Nat)(d p:Nat)(j:List Value)(hp:(dstr ds).size≤p)(hr:GT (z_756_1 ds) (wfz_h ds d p j)):CT 254 #[(.string (dstr ds)),(lI 10)] (mkH 10 []) bT (mkH 11 []):=
 sF (sc:=[(2,.op (.nxtE)),(10,.stay)]) (by kernel_rfl) (aI (show ¬p<(dstr ds).size from (by omega)) tt) hr
theorem wfz_loop{ds:List Nat}{d:Nat}(hd:Dig ds): ∀(k p:Nat) (j:List Value),k=ds.length-p→p≤ds.length→
  GT ⟨Frame.enter Tryz.prog 254 #[(.string (dstr ds)),(lI 10)] .normal,[],mkH 10 []⟩ (wfz_h ds d p j)→CT 254 #[(.string (dstr ds)),(lI 10)] (mkH 10 []) bT (mkH 11 []):=by
 intro k
 induction k with
 |zero=>
  intro p j hk hp hr
  exact wfz_o ds d p j (by rw[dstr_size];omega) hr
 |succ k ih=>
  intro p j hk hp hr
  have r:=wfz_r ds d p (ds.getD p 0) j (hd.get p) (by rw[dstr_size];omega) (decode_dstr hd (by omega))
  exact ih (p+1) _ (by omega) (by omega) (hr.trans r)
theorem wfzc(n0:Nat)(ds:List Nat)(hG:10≤n0)(hd:Dig ds)(h0:0<ds.length)(h1:ds=[0]):FT 254 #[(.string (dstr ds)),(lI 10)] n0 [] bT [] []:=
 fsp_flat [] [] [] [] [] n0 (wfz_loop hd _ _ _ rfl (Nat.zero_le _) (wfz_in ds _ hd h0 (hd.get 0) (by rw[h1];rfl) (by rw[h1];decide+kernel) (dstr_get h0))) rfl rfl rfl (by simp) (by simp) hG rfl rfl rfl (by simp) (by simp) rfl rfl rfl
theorem kips(ds:List Nat)(hd:Dig ds)(h0:0<ds.length)(h1:ds.getD 0 0≠0)(hs:(dstr ds).size≤18):CT 208 #[(.string (dstr ds))] (mkH 10 []) (lI 2) (mkH 10 []):=
 sF (sc:=[(8,.call [] bT [] []),(7,.call [] (z_756_0 ds) [] []),(12,.op (.rwB false)),(7,.op (.rwB false)),(10,.stay)]) (by kernel_rfl) (aI (wfpc 10 ds (by omega) hd h0 h1) (aI (so_pc 10 ds (by omega) hd h0) (aI (dF (p:=(((dstr ds).size:Nat):Int)>(400:Int)) (by omega)) (aI (dF (p:=(((dstr ds).size:Nat):Int)>(18:Int)) (by omega)) tt)))) (Gets.refl _)
theorem kipsc(n0:Nat)(ds:List Nat)(hG:10≤n0)(hd:Dig ds)(h0:0<ds.length)(h1:ds.getD 0 0≠0)(hs:(dstr ds).size≤18):FT 208 #[(.string (dstr ds))] n0 [] (lI 2) [] []:=
 fsp_flat [] [] [] [] [] n0 (kips ds hd h0 h1 hs) rfl rfl rfl (by simp) (by simp) hG rfl rfl rfl (by simp) (by simp) rfl rfl rfl
theorem kims(ds:List Nat)(hd:Dig ds)(h0:0<ds.length)(h1:ds.getD 0 0≠0)(hs:(dstr ds).size≤18):CT 208 #[(.string (mstr ds))] (mkH 10 []) (lI 2) (mkH 10 []):=
 sF (sc:=[(8,.call [] bT [] []),(7,.call [] (z_756_2 ds) [] []),(12,.op (.rwB false)),(7,.op (.rwB false)),(10,.stay)]) (by kernel_rfl) (aI (wfmc 10 ds (by omega) hd h0 h1) (aI (so_mc 10 ds (by omega)) (aI (dF (p:=(((dstr ds).size:Nat):Int)>(400:Int)) (by omega)) (aI (dF (p:=(((dstr ds).size:Nat):Int)>(18:Int)) (by omega)) tt)))) (Gets.refl _)
theorem kimsc(n0:Nat)(ds:List Nat)(hG:10≤n0)(hd:Dig ds)(h0:0<ds.length)(h1:ds.getD 0 0≠0)(hs:(dstr ds).size≤18):FT 208 #[(.string (mstr ds))] n0 [] (lI 2) [] []:=
 fsp_flat [] [] [] [] [] n0 (kims ds hd h0 h1 hs) rfl rfl rfl (by simp) (by simp) hG rfl rfl rfl (by simp) (by simp) rfl rfl rfl
theorem kizs(ds:List Nat)(hd:Dig ds)(h0:0<ds.length)(h1:ds=[0])(hs:(dstr ds).size≤18):CT 208 #[(.string (dstr ds))] (mkH 10 []) (lI 2) (mkH 10 []):=
 sF (sc:=[(8,.call [] bT [] []),(7,.call [] (z_756_0 ds) [] []),(12,.op (.rwB false)),(7,.op (.rwB false)),(10,.stay)]) (by kernel_rfl) (aI (wfzc 10 ds (by omega) hd h0 h1) (aI (so_pc 10 ds (by omega) hd h0) (aI (dF (p:=(((dstr ds).size:Nat):Int)>(400:Int)) (by omega)) (aI (dF (p:=(((dstr ds).size:Nat):Int)>(18:Int)) (by omega)) tt)))) (Gets.refl _)
theorem kizsc(n0:Nat)(ds:List Nat)(hG:10≤n0)(hd:Dig ds)(h0:0<ds.length)(h1:ds=[0])(hs:(dstr ds).size≤18):FT 208 #[(.string (dstr ds))] n0 [] (lI 2) [] []:=
 fsp_flat [] [] [] [] [] n0 (kizs ds hd h0 h1 hs) rfl rfl rfl (by simp) (by simp) hG rfl rfl rfl (by simp) (by simp) rfl rfl rfl
noncomputable def smp_h_f(ds:List Nat)(l p:Nat)(j:List Value):Frame:=⟨211,List.toArray [(.string (dstr ds)),uu,(lI 0),bF,(.string (dstr ds)),(nI l),uu,(J j 0),(J j 1),(J j 2),(J j 3),bF,(J j 4),(J j 5),(pt 10),(J j 6),(J j 7),(J j 8),(J j 9),(J j 10),(J j 11),(J j 12),(J j 13),(J j 14),uu,uu,uu,uu,uu],[.code (cd Tryz.f211 [1,1,1,0,1,0,0]),.inLoop (cd Tryz.f211 [1,1,1,0,1,0,0]),.inBlock 0,.code (cd Tryz.f211 [1,1,1,1])],[],.run,.normal,none⟩
noncomputable def smp_h_o(ds:List Nat)(l p:Nat):List (Nat×AObj):=[(10,(.iter (dstr ds) p))]
noncomputable def smp_h(ds:List Nat)(l p:Nat)(j:List Value):AS:=⟨smp_h_f ds l p j,[],mkH 11 (smp_h_o ds l p)⟩
theorem smp_in(ds:List Nat)(hd:Dig ds)(h0:0<ds.length):GT ⟨Frame.enter Tryz.prog 211 #[(.string (dstr ds))] .normal,[],mkH 10 []⟩ (smp_h ds 0 0 [undef,(.tuple #[bF,(.string (dstr ds))]),(.string (dstr ds)),(.tuple #[bF,(.string (dstr ds))]),(.string (dstr ds)),(.string (dstr ds)),undef,undef,undef,undef,undef,undef,undef,undef,undef]):=
 sR (sc:=[(7,.call [] (.tuple #[bF,(.string (dstr ds))]) [] []),(18,.stay)]) (by kernel_rfl) (aI (so_pc 10 ds (by omega) hd h0) tt)
theorem smp_r(ds:List Nat)(l p q:Nat)(j:List Value)(hq:q<10)(hl:l<100000000000000000)(hp:p<(dstr ds).size)(he:Utf8.decode (dstr ds) p=(48+q,1)):GT (smp_h ds l p j) (smp_h ds ((l*10)+q) (p+1) [(nR (48+q)),(J j 1),(J j 2),(J j 3),(J j 4),(J j 5),(.tuple #[bT,(nI p),(nR (48+q))]),bT,(nR (48+q)),(nI l),(nI (l*10)),(nR (48+q)),(nR q),(nI q),(nI ((l*10)+q))]):=
 sR (sc:=[(2,.op (.nxtC (48+q) 1 (p+1))),(13,.op (.rwI (((l*10):Nat):Int))),(1,.op (.rwI (q:Int))),(0,.op (.rwI (q:Int))),(0,.op (.rwI ((((l*10)+q):Nat):Int))),(4,.stay)]) (by kernel_rfl) (aI (show p<(dstr ds).size∧Utf8.decode (dstr ds) p=((48+q),1)∧p+1=(p+1) from⟨hp,he,rfl⟩) (aI (wI64 (a:=((l:Int)*(10:Int))) (r:=(((l*10):Nat):Int)) (by omega)) (aI (wI32 (a:=((((48+q):Nat):Int)-(48:Int))) (r:=(q:Int)) (by omega)) (aI (wI64 (a:=(q:Int)) (r:=(q:Int)) (by omega)) (aI (wI64 (a:=((((l*10):Nat):Int)+(q:Int))) (r:=((((l*10)+q):Nat):Int)) (by omega)) tt)))))
theorem smp_o(ds:List Nat)(l p:Nat)(j:List Value)(hl:l<1000000000000000000)(hp:(dstr ds).size≤p)(hr:GT ⟨Frame.enter Tryz.prog 211 #[(.string (dstr ds))] .normal,[],mkH 10 []⟩ (smp_h ds l p j)):CT 211 #[(.string (dstr ds))] (mkH 10 []) (nI l) (mkH 11 []):=
 sF (sc:=[(2,.op (.nxtE)),(30,.stay)]) (by kernel_rfl) (aI (show ¬p<(dstr ds).size from (by omega)) tt) hr
theorem smp_loop{ds:List Nat}(hd:Dig ds)(hL:ds.length≤18): ∀(k p:Nat) (j:List Value),k=ds.length-p→p≤ds.length→
  GT ⟨Frame.enter Tryz.prog 211 #[(.string (dstr ds))] .normal,[],mkH 10 []⟩ (smp_h ds (dval (ds.take p)) p j)→CT 211 #[(.string (dstr ds))] (mkH 10 []) (nI (dval ds)) (mkH 11 []):=by
 intro k
 induction k with
 |zero=>
  intro p j hk hp hr
  have hlt:dval ds<1000000000000000000:=by
   have h2:=dval_lt _ hd
   have h3:10^ds.length≤10^18:=Nat.pow_le_pow_right (by decide) hL
   have h4:(10:Nat)^18=1000000000000000000:=by decide
   omega
  rw[List.take_of_length_le (by omega)]at hr
  exact smp_o ds (dval ds) p j hlt (by rw[dstr_size];omega) hr
 |succ k ih=>
  intro p j hk hp hr
  have hlt:dval (ds.take p)<100000000000000000:=by
   have h2:=dval_lt _ (hd.take p)
   have h3:10^(ds.take p).length≤10^17:=Nat.pow_le_pow_right (by decide) (by rw[List.length_take];omega)
   have h4:(10:Nat)^17=100000000000000000:=by decide
   omega
  have r:=smp_r ds _ p (ds.getD p 0) j (hd.get p) hlt (by rw[dstr_size];omega) (decode_dstr hd (by omega))
  rw[←dval_take_succ (by omega)]at r
  exact ih (p+1) _ (by omega) (by omega) (hr.trans r)
theorem smpc(n0:Nat)(ds:List Nat)(hG:10≤n0)(hd:Dig ds)(h0:0<ds.length)(hL:ds.length≤18):FT 211 #[(.string (dstr ds))] n0 [] (nI (dval ds)) [] []:=
 fsp_flat [] [] [] [] [] n0 (smp_loop hd hL _ _ _ rfl (Nat.zero_le _) (smp_in ds hd h0)) rfl rfl rfl (by simp) (by simp) hG rfl rfl rfl (by simp) (by simp) rfl rfl rfl
noncomputable def smm_h_f(ds:List Nat)(l p:Nat)(j:List Value):Frame:=⟨211,List.toArray [(.string (mstr ds)),uu,(lI 0),bT,(.string (dstr ds)),(nI l),uu,(J j 0),(J j 1),(J j 2),(J j 3),bT,(J j 4),(J j 5),(pt 10),(J j 6),(J j 7),(J j 8),(J j 9),(J j 10),(J j 11),(J j 12),(J j 13),(J j 14),uu,uu,uu,uu,uu],[.code (cd Tryz.f211 [1,1,1,0,1,0,0]),.inLoop (cd Tryz.f211 [1,1,1,0,1,0,0]),.inBlock 0,.code (cd Tryz.f211 [1,1,1,1])],[],.run,.normal,none⟩
noncomputable def smm_h_o(ds:List Nat)(l p:Nat):List (Nat×AObj):=[(10,(.iter (dstr ds) p))]
noncomputable def smm_h(ds:List Nat)(l p:Nat)(j:List Value):AS:=⟨smm_h_f ds l p j,[],mkH 11 (smm_h_o ds l p)⟩
theorem smm_in(ds:List Nat)(hd:Dig ds)(h0:0<ds.length):GT ⟨Frame.enter Tryz.prog 211 #[(.string (mstr ds))] .normal,[],mkH 10 []⟩ (smm_h ds 0 0 [undef,(.tuple #[bT,(.string (dstr ds))]),(.string (mstr ds)),(.tuple #[bT,(.string (dstr ds))]),(.string (dstr ds)),(.string (dstr ds)),undef,undef,undef,undef,undef,undef,undef,undef,undef]):=
 sR (sc:=[(7,.call [] (.tuple #[bT,(.string (dstr ds))]) [] []),(18,.stay)]) (by kernel_rfl) (aI (so_mc 10 ds (by omega)) tt)
theorem smm_r(ds:List Nat)(l p q:Nat)(j:List Value)(hq:q<10)(hl:l<100000000000000000)(hp:p<(dstr ds).size)(he:Utf8.decode (dstr ds) p=(48+q,1)):GT (smm_h ds l p j) (smm_h ds ((l*10)+q) (p+1) [(nR (48+q)),(J j 1),(J j 2),(J j 3),(J j 4),(J j 5),(.tuple #[bT,(nI p),(nR (48+q))]),bT,(nR (48+q)),(nI l),(nI (l*10)),(nR (48+q)),(nR q),(nI q),(nI ((l*10)+q))]):=
 sR (sc:=[(2,.op (.nxtC (48+q) 1 (p+1))),(13,.op (.rwI (((l*10):Nat):Int))),(1,.op (.rwI (q:Int))),(0,.op (.rwI (q:Int))),(0,.op (.rwI ((((l*10)+q):Nat):Int))),(4,.stay)]) (by kernel_rfl) (aI (show p<(dstr ds).size∧Utf8.decode (dstr ds) p=((48+q),1)∧p+1=(p+1) from⟨hp,he,rfl⟩) (aI (wI64 (a:=((l:Int)*(10:Int))) (r:=(((l*10):Nat):Int)) (by omega)) (aI (wI32 (a:=((((48+q):Nat):Int)-(48:Int))) (r:=(q:Int)) (by omega)) (aI (wI64 (a:=(q:Int)) (r:=(q:Int)) (by omega)) (aI (wI64 (a:=((((l*10):Nat):Int)+(q:Int))) (r:=((((l*10)+q):Nat):Int)) (by omega)) tt)))))
theorem smm_o(ds:List Nat)(l p:Nat)(j:List Value)(hl:l<1000000000000000000)(hp:(dstr ds).size≤p)(hr:GT ⟨Frame.enter Tryz.prog 211 #[(.string (mstr ds))] .normal,[],mkH 10 []⟩ (smm_h ds l p j)):CT 211 #[(.string (mstr ds))] (mkH 10 []) (.int .i64 (-(l:Int))) (mkH 11 []):=
 sF (sc:=[(2,.op (.nxtE)),(26,.op (.rwI (-(l:Int)))),(3,.stay)]) (by kernel_rfl) (aI (show ¬p<(dstr ds).size from (by omega)) (aI (wI64 (a:=((0:Int)-(l:Int))) (r:=(-(l:Int))) (by omega)) tt)) hr
theorem smm_loop{ds:List Nat}(hd:Dig ds)(hL:ds.length≤18): ∀(k p:Nat) (j:List Value),k=ds.length-p→p≤ds.length→
  GT ⟨Frame.enter Tryz.prog 211 #[(.string (mstr ds))] .normal,[],mkH 10 []⟩ (smm_h ds (dval (ds.take p)) p j)→CT 211 #[(.string (mstr ds))] (mkH 10 []) (.int .i64 (-((dval ds:Nat):Int))) (mkH 11 []):=by
 intro k
 induction k with
 |zero=>
  intro p j hk hp hr
  have hlt:dval ds<1000000000000000000:=by
   have h2:=dval_lt _ hd
   have h3:10^ds.length≤10^18:=Nat.pow_le_pow_right (by decide) hL
   have h4:(10:Nat)^18=1000000000000000000:=by decide
   omega
  rw[List.take_of_length_le (by omega)]at hr
  exact smm_o ds (dval ds) p j hlt (by rw[dstr_size];omega) hr
 |succ k ih=>
  intro p j hk hp hr
  have hlt:dval (ds.take p)<100000000000000000:=by
   have h2:=dval_lt _ (hd.take p)
   have h3:10^(ds.take p).length≤10^17:=Nat.pow_le_pow_right (by decide) (by rw[List.length_take];omega)
   have h4:(10:Nat)^17=100000000000000000:=by decide
   omega
  have r:=smm_r ds _ p (ds.getD p 0) j (hd.get p) hlt (by rw[dstr_size];omega) (decode_dstr hd (by omega))
  rw[←dval_take_succ (by omega)]at r
  exact ih (p+1) _ (by omega) (by omega) (hr.trans r)
theorem smmc(n0:Nat)(ds:List Nat)(hG:10≤n0)(hd:Dig ds)(h0:0<ds.length)(hL:ds.length≤18):FT 211 #[(.string (mstr ds))] n0 [] (.int .i64 (-((dval ds:Nat):Int))) [] []:=
 fsp_flat [] [] [] [] [] n0 (smm_loop hd hL _ _ _ rfl (Nat.zero_le _) (smm_in ds hd h0)) rfl rfl rfl (by simp) (by simp) hG rfl rfl rfl (by simp) (by simp) rfl rfl rfl
theorem kis_i(n0:Nat)(a:Int)(hG:10≤n0)(hs:(digs a.natAbs).length≤18):FT 208 #[.string (istr a)] n0 [] (lI 2) [] []:=by
 rcases int_cases a with⟨m,rfl,hm⟩|⟨m,h0,rfl,hm⟩
 ·rw[istr_nn]
  rw[hm]at hs
  rcases Nat.eq_zero_or_pos m with q|q
  ·exact kizsc n0 _ hG (digs_dig m) (digs_len_pos m) (by rw[q,digs_zero]) (by rw[dstr_size];exact hs)
  ·exact kipsc n0 _ hG (digs_dig m) (digs_len_pos m) (digs_head m q) (by rw[dstr_size];exact hs)
 ·rw[istr_neg h0]
  rw[hm]at hs
  exact kimsc n0 _ hG (digs_dig m) (digs_len_pos m) (digs_head m h0) (by rw[dstr_size];exact hs)
theorem sm_i(n0:Nat)(a:Int)(hG:10≤n0)(hs:(digs a.natAbs).length≤18):FT 211 #[.string (istr a)] n0 [] (.int .i64 a) [] []:=by
 rcases int_cases a with⟨m,rfl,hm⟩|⟨m,h0,rfl,hm⟩
 ·rw[istr_nn]
  rw[hm]at hs
  have h:=smpc n0 _ hG (digs_dig m) (digs_len_pos m) hs
  rw[digs_val]at h
  exact h
 ·rw[istr_neg h0]
  rw[hm]at hs
  have h:=smmc n0 _ hG (digs_dig m) (digs_len_pos m) hs
  rw[digs_val]at h
  exact h
theorem sh18{z:Int}(h:z.natAbs<1000000000000000000):(digs z.natAbs).length≤18:=digs_len_le (ndig_lt 18 _ h) (by decide)
theorem tab_is{ρ:Rho}{H:AH}{w:World}(hw:WR 10 ρ H w)(hr:H.get 3=some gob1):Lib.TabIs Tryz.prog w "internal/strconv.uint64pow10" .u64 Lib.pow10Tab:=
 tab_of_WR hw (g:=3) (by decide) (by kernel_rfl) hr
theorem fmt_c(n0:Nat)(n:Int)(h0: -9223372036854775808≤n)(h1:n≤9223372036854775807):FT 260 #[.int .i64 n,.int .i64 (.ofNat 10)] n0 [(3,gob1)] (.string (istr n)) [] []:=by
 intro H _ hr
 exact csp_of_calls rfl rfl fun ρ w hw=>(Tryz.strconv_FormatInt_10 n h0 h1 w (tab_is hw (hr _ (List.mem_cons_self ..)))).mono fun e w' ⟨h3,k,os,h4⟩=>⟨by rw[h3,istr_itoa],k,os,h4⟩
noncomputable section
abbrev z_429_0(a b:Int):Array Value:= #[(.string (istr a)),(.string (istr b))]
abbrev z_429_1(a b:Int):Value:=.tuple #[(.string (istr (Int.tdiv a b))),(.string (istr (Int.tmod a b))),(lI 0)]
end
theorem istr_zero:istr 0=bts [48]:=by kernel_rfl
theorem istr_one:istr 1=bts [49]:=by kernel_rfl
theorem txt0F{b:Int}(h:b≠0):((istr b).toList==(bts [48]).toList)=false:=by rw[←istr_zero];exact txt_eqF h
theorem flB1{a b:Int}(q: ¬adj a b):flQ a b=Int.tdiv a b:=by unfold flQ;rw[if_neg q]
theorem flB2{a b:Int}(q: ¬adj a b):flR a b=Int.tmod a b:=by unfold flR;rw[if_neg q]
theorem flC1{a b:Int}(q:adj a b):flQ a b=Int.tdiv a b-1:=by unfold flQ;rw[if_pos q]
theorem flC2{a b:Int}(q:adj a b):flR a b=Int.tmod a b+b:=by unfold flR;rw[if_pos q]
theorem Add_o(a b:Int)(hka: ∀n0,10≤n0→FT 208 #[.string (istr a)] n0 [] (lI 2) [] [])(hkb: ∀n0,10≤n0→FT 208 #[.string (istr b)] n0 [] (lI 2) [] [])(hsa: ∀n0,10≤n0→FT 211 #[.string (istr a)] n0 [] (.int .i64 a) [] [])(hsb: ∀n0,10≤n0→FT 211 #[.string (istr b)] n0 [] (.int .i64 b) [] [])(ha:a.natAbs<1000000000000000000)(hb:b.natAbs<1000000000000000000):CT 112 (z_429_0 a b) (mkH 10 [(3,gob1)]) (.tuple #[(.string (istr (a+b))),(lI 0)]) (mkH 14 [(3,gob1)]):=
 sF (sc:=[(82,.call [] (lI 2) [] []),(52,.call [] (lI 2) [] []),(79,.call [] (.int .i64 a) [] []),(1,.call [] (.int .i64 b) [] []),(10,.op (.rwI (a+b))),(27,.call [3] (.string (istr (a+b))) [] []),(38,.stay)]) (by kernel_rfl) (aI (hka 14 (by omega)) (aI (hkb 14 (by omega)) (aI (hsa 14 (by omega)) (aI (hsb 14 (by omega)) (aI (show IntKind.wrap .i64 (a+b)=(a+b) from (by rw[wrap_i64 (by omega) (by omega)];try omega)) (aI (fmt_c 14 (a+b) (by omega) (by omega)) tt)))))) (Gets.refl _)
theorem Add_s(n0:Nat)(a b:Int)(hG:10≤n0)(ha:a.natAbs<1000000000000000000)(hb:b.natAbs<1000000000000000000):FT 112 #[(.string (istr a)),(.string (istr b))] n0 [(3,gob1)] (.tuple #[.string (istr (a+b)),.int .i64 (.ofNat 0)]) [] []:=by
 have S:=Add_o a b (fun n0 h=>kis_i n0 a h (sh18 ha)) (fun n0 h=>kis_i n0 b h (sh18 hb)) (fun n0 h=>sm_i n0 a h (sh18 ha)) (fun n0 h=>sm_i n0 b h (sh18 hb)) ha hb
 exact fsp_keep (L:=[(3,gob1)]) (fsp_glob [(3,gob1)] [] [] [] [] [] n0 S (by decide+kernel) (by rfl) rfl (by rfl) rfl (by simp) (by simp) hG rfl rfl rfl (by simp) (by simp) rfl rfl rfl)
theorem Mul_z(a b:Int)(hka: ∀n0,10≤n0→FT 208 #[.string (istr a)] n0 [] (lI 2) [] [])(hkb: ∀n0,10≤n0→FT 208 #[.string (istr b)] n0 [] (lI 2) [] [])(hsa: ∀n0,10≤n0→FT 211 #[.string (istr a)] n0 [] (.int .i64 a) [] [])(hsb: ∀n0,10≤n0→FT 211 #[.string (istr b)] n0 [] (.int .i64 b) [] [])(ha:a.natAbs<1000000000000000000)(hb:b.natAbs<1000000000000000000)(hp:(a*b).natAbs<9000000000000000000)(h0:a=0):CT 113 (z_429_0 a b) (mkH 10 [(3,gob1)]) (.tuple #[(.string (istr (a*b))),(lI 0)]) (mkH 14 [(3,gob1)]):=
 sF (sc:=[(82,.call [] (lI 2) [] []),(52,.call [] (lI 2) [] []),(88,.call [] (.int .i64 a) [] []),(1,.call [] (.int .i64 b) [] []),(10,.op (.rwI (a*b))),(3,.drw [(2,.rwB true)]),(24,.call [3] (.string (istr (a*b))) [] []),(38,.stay)]) (by kernel_rfl) (aI (hka 14 (by omega)) (aI (hkb 14 (by omega)) (aI (hsa 14 (by omega)) (aI (hsb 14 (by omega)) (aI (show IntKind.wrap .i64 (a*b)=(a*b) from (wrap_i64 (by omega) (by omega))) (aI (aI tt (aI tt (aI (show (a==(0:Int))=true from (by first|exact beq_iff_eq.2 h0|exact beq_eq_false_iff_ne.2 h0)) (aI tt (aI tt (aI tt (aI tt (aI tt (aI tt (aI tt (aI tt (aI tt tt)))))))))))) (aI (fmt_c 14 (a*b) (by omega) (by omega)) tt))))))) (Gets.refl _)
theorem Mul_o(a b:Int)(hka: ∀n0,10≤n0→FT 208 #[.string (istr a)] n0 [] (lI 2) [] [])(hkb: ∀n0,10≤n0→FT 208 #[.string (istr b)] n0 [] (lI 2) [] [])(hsa: ∀n0,10≤n0→FT 211 #[.string (istr a)] n0 [] (.int .i64 a) [] [])(hsb: ∀n0,10≤n0→FT 211 #[.string (istr b)] n0 [] (.int .i64 b) [] [])(ha:a.natAbs<1000000000000000000)(hb:b.natAbs<1000000000000000000)(hp:(a*b).natAbs<9000000000000000000)(h0:a≠0):CT 113 (z_429_0 a b) (mkH 10 [(3,gob1)]) (.tuple #[(.string (istr (a*b))),(lI 0)]) (mkH 14 [(3,gob1)]):=
 sF (sc:=[(82,.call [] (lI 2) [] []),(52,.call [] (lI 2) [] []),(88,.call [] (.int .i64 a) [] []),(1,.call [] (.int .i64 b) [] []),(10,.op (.rwI (a*b))),(3,.drw [(2,.rwB false),(6,.div b),(8,.rwB true)]),(24,.call [3] (.string (istr (a*b))) [] []),(38,.stay)]) (by kernel_rfl) (aI (hka 14 (by omega)) (aI (hkb 14 (by omega)) (aI (hsa 14 (by omega)) (aI (hsb 14 (by omega)) (aI (show IntKind.wrap .i64 (a*b)=(a*b) from (wrap_i64 (by omega) (by omega))) (aI (aI tt (aI tt (aI (show (a==(0:Int))=false from (by first|exact beq_iff_eq.2 h0|exact beq_eq_false_iff_ne.2 h0)) (aI tt (aI tt (aI tt (aI (show a≠0∧IntKind.wrap .i64 (Int.tdiv (a*b) a)=b from⟨h0,(by rw[Int.mul_tdiv_cancel_left _ h0];exact wrap_i64 (by omega) (by omega))⟩) (aI tt (aI (show (b==b)=true from (beq_self_eq_true _)) (aI tt (aI tt (aI tt tt)))))))))))) (aI (fmt_c 14 (a*b) (by omega) (by omega)) tt))))))) (Gets.refl _)
theorem Mul_s(n0:Nat)(a b:Int)(hG:10≤n0)(ha:a.natAbs<1000000000000000000)(hb:b.natAbs<1000000000000000000)(hp:(a*b).natAbs<9000000000000000000):FT 113 #[(.string (istr a)),(.string (istr b))] n0 [(3,gob1)] (.tuple #[.string (istr (a*b)),.int .i64 (.ofNat 0)]) [] []:=by
 have key: ∃nx,CT 113 #[(.string (istr a)),(.string (istr b))] (mkH 10 [(3,gob1)]) (.tuple #[.string (istr (a*b)),.int .i64 (.ofNat 0)]) (mkH nx [(3,gob1)]):=by
  by_cases h0:a=0
  ·exact⟨_,Mul_z a b (fun n0 h=>kis_i n0 a h (sh18 ha)) (fun n0 h=>kis_i n0 b h (sh18 hb)) (fun n0 h=>sm_i n0 a h (sh18 ha)) (fun n0 h=>sm_i n0 b h (sh18 hb)) ha hb hp h0⟩
  ·exact⟨_,Mul_o a b (fun n0 h=>kis_i n0 a h (sh18 ha)) (fun n0 h=>kis_i n0 b h (sh18 hb)) (fun n0 h=>sm_i n0 a h (sh18 ha)) (fun n0 h=>sm_i n0 b h (sh18 hb)) ha hb hp h0⟩
 obtain⟨nx,S⟩:=key
 exact fsp_keep (L:=[(3,gob1)]) (fsp_glob [(3,gob1)] [] [] [] [] [] n0 S (by decide+kernel) (by rfl) rfl (by rfl) rfl (by simp) (by simp) hG rfl rfl rfl (by simp) (by simp) rfl rfl rfl)
theorem fs_z(a b:Int)(hka: ∀n0,10≤n0→FT 208 #[.string (istr a)] n0 [] (lI 2) [] [])(hkb: ∀n0,10≤n0→FT 208 #[.string (istr b)] n0 [] (lI 2) [] [])(hsa: ∀n0,10≤n0→FT 211 #[.string (istr a)] n0 [] (.int .i64 a) [] [])(hsb: ∀n0,10≤n0→FT 211 #[.string (istr b)] n0 [] (.int .i64 b) [] [])(ha:a.natAbs<1000000000000000000)(hb:b.natAbs<1000000000000000000)(hb0:b≠0)(hq:(Int.tdiv a b).natAbs<1000000000000000000)(hr:(Int.tmod a b).natAbs<1000000000000000000)(hz:Int.tmod a b=0):CT 156 (z_429_0 a b) (mkH 10 [(3,gob1)]) (z_429_1 a b) (mkH 18 [(3,gob1)]):=
 sF (sc:=[(80,.call [] (lI 2) [] []),(52,.call [] (lI 2) [] []),(54,.op (.rwB false)),(14,.call [] (.int .i64 a) [] []),(1,.call [] (.int .i64 b) [] []),(17,.drw [(2,.div (Int.tdiv a b)),(5,.div (Int.tmod a b))]),(12,.op (.rwB false)),(36,.call [3] (.string (istr (Int.tdiv a b))) [] []),(13,.call [3] (.string (istr (Int.tmod a b))) [] []),(41,.drw []),(1,.stay)]) (by kernel_rfl) (aI (hka 17 (by omega)) (aI (hkb 17 (by omega)) (aI (show ((istr b).toList==(bts [48]).toList)=false from (txt0F hb0)) (aI (hsa 17 (by omega)) (aI (hsb 17 (by omega)) (aI (aI tt (aI tt (aI (show b≠0∧IntKind.wrap .i64 (Int.tdiv a b)=(Int.tdiv a b) from⟨hb0,wI64 ⟨rfl,by omega,by omega⟩⟩) (aI tt (aI tt (aI (show b≠0∧(Int.tmod a b)=(Int.tmod a b) from⟨hb0,rfl⟩) (aI tt (aI tt tt)))))))) (aI (nF (a:=(Int.tmod a b)) (b:=(0:Int)) (by omega)) (aI (fmt_c 17 (Int.tdiv a b) (by omega) (by omega)) (aI (fmt_c 17 (Int.tmod a b) (by omega) (by omega)) (aI (aI tt (aI tt (aI tt (aI tt (aI tt (aI tt (aI tt (aI tt tt)))))))) tt)))))))))) (Gets.refl _)
theorem fs_ff(a b:Int)(hka: ∀n0,10≤n0→FT 208 #[.string (istr a)] n0 [] (lI 2) [] [])(hkb: ∀n0,10≤n0→FT 208 #[.string (istr b)] n0 [] (lI 2) [] [])(hsa: ∀n0,10≤n0→FT 211 #[.string (istr a)] n0 [] (.int .i64 a) [] [])(hsb: ∀n0,10≤n0→FT 211 #[.string (istr b)] n0 [] (.int .i64 b) [] [])(ha:a.natAbs<1000000000000000000)(hb:b.natAbs<1000000000000000000)(hb0:b≠0)(hq:(Int.tdiv a b).natAbs<1000000000000000000)(hr:(Int.tmod a b).natAbs<1000000000000000000)(hz:Int.tmod a b≠0)(h1: ¬Int.tmod a b<0)(h2: ¬b<0):CT 156 (z_429_0 a b) (mkH 10 [(3,gob1)]) (z_429_1 a b) (mkH 18 [(3,gob1)]):=
 sF (sc:=[(80,.call [] (lI 2) [] []),(52,.call [] (lI 2) [] []),(54,.op (.rwB false)),(14,.call [] (.int .i64 a) [] []),(1,.call [] (.int .i64 b) [] []),(17,.drw [(2,.div (Int.tdiv a b)),(5,.div (Int.tmod a b))]),(12,.op (.rwB true)),(2,.op (.rwB false)),(1,.op (.rwB false)),(31,.call [3] (.string (istr (Int.tdiv a b))) [] []),(13,.call [3] (.string (istr (Int.tmod a b))) [] []),(41,.drw []),(1,.stay)]) (by kernel_rfl) (aI (hka 17 (by omega)) (aI (hkb 17 (by omega)) (aI (show ((istr b).toList==(bts [48]).toList)=false from (txt0F hb0)) (aI (hsa 17 (by omega)) (aI (hsb 17 (by omega)) (aI (aI tt (aI tt (aI (show b≠0∧IntKind.wrap .i64 (Int.tdiv a b)=(Int.tdiv a b) from⟨hb0,wI64 ⟨rfl,by omega,by omega⟩⟩) (aI tt (aI tt (aI (show b≠0∧(Int.tmod a b)=(Int.tmod a b) from⟨hb0,rfl⟩) (aI tt (aI tt tt)))))))) (aI (nT (a:=(Int.tmod a b)) (b:=(0:Int)) (by omega)) (aI (dF (p:=(Int.tmod a b)<(0:Int)) (by omega)) (aI (dF (p:=b<(0:Int)) (by omega)) (aI (fmt_c 17 (Int.tdiv a b) (by omega) (by omega)) (aI (fmt_c 17 (Int.tmod a b) (by omega) (by omega)) (aI (aI tt (aI tt (aI tt (aI tt (aI tt (aI tt (aI tt (aI tt tt)))))))) tt)))))))))))) (Gets.refl _)
theorem fs_ft(a b:Int)(hka: ∀n0,10≤n0→FT 208 #[.string (istr a)] n0 [] (lI 2) [] [])(hkb: ∀n0,10≤n0→FT 208 #[.string (istr b)] n0 [] (lI 2) [] [])(hsa: ∀n0,10≤n0→FT 211 #[.string (istr a)] n0 [] (.int .i64 a) [] [])(hsb: ∀n0,10≤n0→FT 211 #[.string (istr b)] n0 [] (.int .i64 b) [] [])(ha:a.natAbs<1000000000000000000)(hb:b.natAbs<1000000000000000000)(hb0:b≠0)(hq:(Int.tdiv a b).natAbs<1000000000000000000)(hr:(Int.tmod a b).natAbs<1000000000000000000)(hz:Int.tmod a b≠0)(h1: ¬Int.tmod a b<0)(h2:b<0):CT 156 (z_429_0 a b) (mkH 10 [(3,gob1)]) (.tuple #[(.string (istr ((Int.tdiv a b)-(1:Int)))),(.string (istr ((Int.tmod a b)+b))),(lI 0)]) (mkH 18 [(3,gob1)]):=
 sF (sc:=[(80,.call [] (lI 2) [] []),(52,.call [] (lI 2) [] []),(54,.op (.rwB false)),(14,.call [] (.int .i64 a) [] []),(1,.call [] (.int .i64 b) [] []),(17,.drw [(2,.div (Int.tdiv a b)),(5,.div (Int.tmod a b))]),(12,.op (.rwB true)),(2,.op (.rwB false)),(1,.op (.rwB true)),(7,.op (.rwI ((Int.tdiv a b)-(1:Int)))),(2,.op (.rwI ((Int.tmod a b)+b))),(22,.call [3] (.string (istr ((Int.tdiv a b)-(1:Int)))) [] []),(13,.call [3] (.string (istr ((Int.tmod a b)+b))) [] []),(41,.drw []),(1,.stay)]) (by kernel_rfl) (aI (hka 17 (by omega)) (aI (hkb 17 (by omega)) (aI (show ((istr b).toList==(bts [48]).toList)=false from (txt0F hb0)) (aI (hsa 17 (by omega)) (aI (hsb 17 (by omega)) (aI (aI tt (aI tt (aI (show b≠0∧IntKind.wrap .i64 (Int.tdiv a b)=(Int.tdiv a b) from⟨hb0,wI64 ⟨rfl,by omega,by omega⟩⟩) (aI tt (aI tt (aI (show b≠0∧(Int.tmod a b)=(Int.tmod a b) from⟨hb0,rfl⟩) (aI tt (aI tt tt)))))))) (aI (nT (a:=(Int.tmod a b)) (b:=(0:Int)) (by omega)) (aI (dF (p:=(Int.tmod a b)<(0:Int)) (by omega)) (aI (dT (p:=b<(0:Int)) (by omega)) (aI (show IntKind.wrap .i64 ((Int.tdiv a b)-(1:Int))=((Int.tdiv a b)-(1:Int)) from (by rw[wrap_i64 (by omega) (by omega)];try omega)) (aI (show IntKind.wrap .i64 ((Int.tmod a b)+b)=((Int.tmod a b)+b) from (by rw[wrap_i64 (by omega) (by omega)];try omega)) (aI (fmt_c 17 ((Int.tdiv a b)-(1:Int)) (by omega) (by omega)) (aI (fmt_c 17 ((Int.tmod a b)+b) (by omega) (by omega)) (aI (aI tt (aI tt (aI tt (aI tt (aI tt (aI tt (aI tt (aI tt tt)))))))) tt)))))))))))))) (Gets.refl _)
theorem fs_tf(a b:Int)(hka: ∀n0,10≤n0→FT 208 #[.string (istr a)] n0 [] (lI 2) [] [])(hkb: ∀n0,10≤n0→FT 208 #[.string (istr b)] n0 [] (lI 2) [] [])(hsa: ∀n0,10≤n0→FT 211 #[.string (istr a)] n0 [] (.int .i64 a) [] [])(hsb: ∀n0,10≤n0→FT 211 #[.string (istr b)] n0 [] (.int .i64 b) [] [])(ha:a.natAbs<1000000000000000000)(hb:b.natAbs<1000000000000000000)(hb0:b≠0)(hq:(Int.tdiv a b).natAbs<1000000000000000000)(hr:(Int.tmod a b).natAbs<1000000000000000000)(hz:Int.tmod a b≠0)(h1:Int.tmod a b<0)(h2: ¬b<0):CT 156 (z_429_0 a b) (mkH 10 [(3,gob1)]) (.tuple #[(.string (istr ((Int.tdiv a b)-(1:Int)))),(.string (istr ((Int.tmod a b)+b))),(lI 0)]) (mkH 18 [(3,gob1)]):=
 sF (sc:=[(80,.call [] (lI 2) [] []),(52,.call [] (lI 2) [] []),(54,.op (.rwB false)),(14,.call [] (.int .i64 a) [] []),(1,.call [] (.int .i64 b) [] []),(17,.drw [(2,.div (Int.tdiv a b)),(5,.div (Int.tmod a b))]),(12,.op (.rwB true)),(2,.op (.rwB true)),(1,.op (.rwB false)),(7,.op (.rwI ((Int.tdiv a b)-(1:Int)))),(2,.op (.rwI ((Int.tmod a b)+b))),(22,.call [3] (.string (istr ((Int.tdiv a b)-(1:Int)))) [] []),(13,.call [3] (.string (istr ((Int.tmod a b)+b))) [] []),(41,.drw []),(1,.stay)]) (by kernel_rfl) (aI (hka 17 (by omega)) (aI (hkb 17 (by omega)) (aI (show ((istr b).toList==(bts [48]).toList)=false from (txt0F hb0)) (aI (hsa 17 (by omega)) (aI (hsb 17 (by omega)) (aI (aI tt (aI tt (aI (show b≠0∧IntKind.wrap .i64 (Int.tdiv a b)=(Int.tdiv a b) from⟨hb0,wI64 ⟨rfl,by omega,by omega⟩⟩) (aI tt (aI tt (aI (show b≠0∧(Int.tmod a b)=(Int.tmod a b) from⟨hb0,rfl⟩) (aI tt (aI tt tt)))))))) (aI (nT (a:=(Int.tmod a b)) (b:=(0:Int)) (by omega)) (aI (dT (p:=(Int.tmod a b)<(0:Int)) (by omega)) (aI (dF (p:=b<(0:Int)) (by omega)) (aI (show IntKind.wrap .i64 ((Int.tdiv a b)-(1:Int))=((Int.tdiv a b)-(1:Int)) from (by rw[wrap_i64 (by omega) (by omega)];try omega)) (aI (show IntKind.wrap .i64 ((Int.tmod a b)+b)=((Int.tmod a b)+b) from (by rw[wrap_i64 (by omega) (by omega)];try omega)) (aI (fmt_c 17 ((Int.tdiv a b)-(1:Int)) (by omega) (by omega)) (aI (fmt_c 17 ((Int.tmod a b)+b) (by omega) (by omega)) (aI (aI tt (aI tt (aI tt (aI tt (aI tt (aI tt (aI tt (aI tt tt)))))))) tt)))))))))))))) (Gets.refl _)
theorem fs_tt(a b:Int)(hka: ∀n0,10≤n0→FT 208 #[.string (istr a)] n0 [] (lI 2) [] [])(hkb: ∀n0,10≤n0→FT 208 #[.string (istr b)] n0 [] (lI 2) [] [])(hsa: ∀n0,10≤n0→FT 211 #[.string (istr a)] n0 [] (.int .i64 a) [] [])(hsb: ∀n0,10≤n0→FT 211 #[.string (istr b)] n0 [] (.int .i64 b) [] [])(ha:a.natAbs<1000000000000000000)(hb:b.natAbs<1000000000000000000)(hb0:b≠0)(hq:(Int.tdiv a b).natAbs<1000000000000000000)(hr:(Int.tmod a b).natAbs<1000000000000000000)(hz:Int.tmod a b≠0)(h1:Int.tmod a b<0)(h2:b<0):CT 156 (z_429_0 a b) (mkH 10 [(3,gob1)]) (z_429_1 a b) (mkH 18 [(3,gob1)]):=
 sF (sc:=[(80,.call [] (lI 2) [] []),(52,.call [] (lI 2) [] []),(54,.op (.rwB false)),(14,.call [] (.int .i64 a) [] []),(1,.call [] (.int .i64 b) [] []),(17,.drw [(2,.div (Int.tdiv a b)),(5,.div (Int.tmod a b))]),(12,.op (.rwB true)),(2,.op (.rwB true)),(1,.op (.rwB true)),(31,.call [3] (.string (istr (Int.tdiv a b))) [] []),(13,.call [3] (.string (istr (Int.tmod a b))) [] []),(41,.drw []),(1,.stay)]) (by kernel_rfl) (aI (hka 17 (by omega)) (aI (hkb 17 (by omega)) (aI (show ((istr b).toList==(bts [48]).toList)=false from (txt0F hb0)) (aI (hsa 17 (by omega)) (aI (hsb 17 (by omega)) (aI (aI tt (aI tt (aI (show b≠0∧IntKind.wrap .i64 (Int.tdiv a b)=(Int.tdiv a b) from⟨hb0,wI64 ⟨rfl,by omega,by omega⟩⟩) (aI tt (aI tt (aI (show b≠0∧(Int.tmod a b)=(Int.tmod a b) from⟨hb0,rfl⟩) (aI tt (aI tt tt)))))))) (aI (nT (a:=(Int.tmod a b)) (b:=(0:Int)) (by omega)) (aI (dT (p:=(Int.tmod a b)<(0:Int)) (by omega)) (aI (dT (p:=b<(0:Int)) (by omega)) (aI (fmt_c 17 (Int.tdiv a b) (by omega) (by omega)) (aI (fmt_c 17 (Int.tmod a b) (by omega) (by omega)) (aI (aI tt (aI tt (aI tt (aI tt (aI tt (aI tt (aI tt (aI tt tt)))))))) tt)))))))))))) (Gets.refl _)
theorem Floor_s(n0:Nat)(a b:Int)(hG:10≤n0)(ha:a.natAbs<1000000000000000000)(hb:b.natAbs<1000000000000000000)(hb0:b≠0):FT 156 #[(.string (istr a)),(.string (istr b))] n0 [(3,gob1)] (.tuple #[.string (istr (flQ a b)),.string (istr (flR a b)),.int .i64 (.ofNat 0)]) [] []:=by
 have key: ∃nx,CT 156 #[(.string (istr a)),(.string (istr b))] (mkH 10 [(3,gob1)]) (.tuple #[.string (istr (flQ a b)),.string (istr (flR a b)),.int .i64 (.ofNat 0)]) (mkH nx [(3,gob1)]):=by
  have g1:=tdiv_le a b
  have g2:=tmod_le a b
  have hq:(Int.tdiv a b).natAbs<1000000000000000000:=by omega
  have hr:(Int.tmod a b).natAbs<1000000000000000000:=by omega
  by_cases hz:Int.tmod a b=0
  ·have hna: ¬adj a b:=fun q=>q.1 hz
   rw[flB1 hna,flB2 hna]
   exact⟨_,fs_z a b (fun n0 h=>kis_i n0 a h (sh18 ha)) (fun n0 h=>kis_i n0 b h (sh18 hb)) (fun n0 h=>sm_i n0 a h (sh18 ha)) (fun n0 h=>sm_i n0 b h (sh18 hb)) ha hb hb0 hq hr hz⟩
  ·by_cases h1:Int.tmod a b<0<;>by_cases h2:b<0
   ·have hna: ¬adj a b:=by unfold adj;omega
    rw[flB1 hna,flB2 hna]
    exact⟨_,fs_tt a b (fun n0 h=>kis_i n0 a h (sh18 ha)) (fun n0 h=>kis_i n0 b h (sh18 hb)) (fun n0 h=>sm_i n0 a h (sh18 ha)) (fun n0 h=>sm_i n0 b h (sh18 hb)) ha hb hb0 hq hr hz h1 h2⟩
   ·have hna:adj a b:=by unfold adj;omega
    rw[flC1 hna,flC2 hna]
    exact⟨_,fs_tf a b (fun n0 h=>kis_i n0 a h (sh18 ha)) (fun n0 h=>kis_i n0 b h (sh18 hb)) (fun n0 h=>sm_i n0 a h (sh18 ha)) (fun n0 h=>sm_i n0 b h (sh18 hb)) ha hb hb0 hq hr hz h1 h2⟩
   ·have hna:adj a b:=by unfold adj;omega
    rw[flC1 hna,flC2 hna]
    exact⟨_,fs_ft a b (fun n0 h=>kis_i n0 a h (sh18 ha)) (fun n0 h=>kis_i n0 b h (sh18 hb)) (fun n0 h=>sm_i n0 a h (sh18 ha)) (fun n0 h=>sm_i n0 b h (sh18 hb)) ha hb hb0 hq hr hz h1 h2⟩
   ·have hna: ¬adj a b:=by unfold adj;omega
    rw[flB1 hna,flB2 hna]
    exact⟨_,fs_ff a b (fun n0 h=>kis_i n0 a h (sh18 ha)) (fun n0 h=>kis_i n0 b h (sh18 hb)) (fun n0 h=>sm_i n0 a h (sh18 ha)) (fun n0 h=>sm_i n0 b h (sh18 hb)) ha hb hb0 hq hr hz h1 h2⟩
 obtain⟨nx,S⟩:=key
 exact fsp_keep (L:=[(3,gob1)]) (fsp_glob [(3,gob1)] [] [] [] [] [] n0 S (by decide+kernel) (by rfl) rfl (by rfl) rfl (by simp) (by simp) hG rfl rfl rfl (by simp) (by simp) rfl rfl rfl)
theorem Cmp_l(a b:Int)(hka: ∀n0,10≤n0→FT 208 #[.string (istr a)] n0 [] (lI 2) [] [])(hkb: ∀n0,10≤n0→FT 208 #[.string (istr b)] n0 [] (lI 2) [] [])(hsa: ∀n0,10≤n0→FT 211 #[.string (istr a)] n0 [] (.int .i64 a) [] [])(hsb: ∀n0,10≤n0→FT 211 #[.string (istr b)] n0 [] (.int .i64 b) [] [])(hc:a<b):CT 144 (z_429_0 a b) (mkH 10 [(3,gob1)]) (.tuple #[(.int .i64 (.negSucc 0)),(lI 0)]) (mkH 14 [(3,gob1)]):=
 sF (sc:=[(80,.call [] (lI 2) [] []),(52,.call [] (lI 2) [] []),(54,.call [] (.int .i64 a) [] []),(1,.call [] (.int .i64 b) [] []),(17,.op (.rwB false)),(18,.op (.rwB false)),(25,.op (.rwB true)),(42,.stay)]) (by kernel_rfl) (aI (hka 14 (by omega)) (aI (hkb 14 (by omega)) (aI (hsa 14 (by omega)) (aI (hsb 14 (by omega)) (aI (nF (a:=a) (b:=a) (by omega)) (aI (nF (a:=b) (b:=b) (by omega)) (aI (dT (p:=a<b) (by omega)) tt))))))) (Gets.refl _)
theorem Cmp_g(a b:Int)(hka: ∀n0,10≤n0→FT 208 #[.string (istr a)] n0 [] (lI 2) [] [])(hkb: ∀n0,10≤n0→FT 208 #[.string (istr b)] n0 [] (lI 2) [] [])(hsa: ∀n0,10≤n0→FT 211 #[.string (istr a)] n0 [] (.int .i64 a) [] [])(hsb: ∀n0,10≤n0→FT 211 #[.string (istr b)] n0 [] (.int .i64 b) [] [])(hc:b<a):CT 144 (z_429_0 a b) (mkH 10 [(3,gob1)]) (.tuple #[(lI 1),(lI 0)]) (mkH 14 [(3,gob1)]):=
 sF (sc:=[(80,.call [] (lI 2) [] []),(52,.call [] (lI 2) [] []),(54,.call [] (.int .i64 a) [] []),(1,.call [] (.int .i64 b) [] []),(17,.op (.rwB false)),(18,.op (.rwB false)),(25,.op (.rwB false)),(8,.op (.rwB true)),(42,.stay)]) (by kernel_rfl) (aI (hka 14 (by omega)) (aI (hkb 14 (by omega)) (aI (hsa 14 (by omega)) (aI (hsb 14 (by omega)) (aI (nF (a:=a) (b:=a) (by omega)) (aI (nF (a:=b) (b:=b) (by omega)) (aI (dF (p:=a<b) (by omega)) (aI (dT (p:=a>b) (by omega)) tt)))))))) (Gets.refl _)
theorem Cmp_e(a b:Int)(hka: ∀n0,10≤n0→FT 208 #[.string (istr a)] n0 [] (lI 2) [] [])(hkb: ∀n0,10≤n0→FT 208 #[.string (istr b)] n0 [] (lI 2) [] [])(hsa: ∀n0,10≤n0→FT 211 #[.string (istr a)] n0 [] (.int .i64 a) [] [])(hsb: ∀n0,10≤n0→FT 211 #[.string (istr b)] n0 [] (.int .i64 b) [] [])(hc:a=b):CT 144 (z_429_0 a b) (mkH 10 [(3,gob1)]) (.tuple #[(lI 0),(lI 0)]) (mkH 14 [(3,gob1)]):=
 sF (sc:=[(80,.call [] (lI 2) [] []),(52,.call [] (lI 2) [] []),(54,.call [] (.int .i64 a) [] []),(1,.call [] (.int .i64 b) [] []),(17,.op (.rwB false)),(18,.op (.rwB false)),(25,.op (.rwB false)),(8,.op (.rwB false)),(43,.stay)]) (by kernel_rfl) (aI (hka 14 (by omega)) (aI (hkb 14 (by omega)) (aI (hsa 14 (by omega)) (aI (hsb 14 (by omega)) (aI (nF (a:=a) (b:=a) (by omega)) (aI (nF (a:=b) (b:=b) (by omega)) (aI (dF (p:=a<b) (by omega)) (aI (dF (p:=a>b) (by omega)) tt)))))))) (Gets.refl _)
def cmpZ(a b:Int):Int:=if a<b then -1 else if b<a then 1 else 0
theorem Cmp_s(n0:Nat)(a b:Int)(hG:10≤n0)(ha:a.natAbs<1000000000000000000)(hb:b.natAbs<1000000000000000000):FT 144 #[(.string (istr a)),(.string (istr b))] n0 [(3,gob1)] (.tuple #[.int .i64 (cmpZ a b),.int .i64 (.ofNat 0)]) [] []:=by
 have key: ∃nx,CT 144 #[(.string (istr a)),(.string (istr b))] (mkH 10 [(3,gob1)]) (.tuple #[.int .i64 (cmpZ a b),.int .i64 (.ofNat 0)]) (mkH nx [(3,gob1)]):=by
  by_cases h1:a<b
  ·rw[show cmpZ a b= -1 by unfold cmpZ;rw[if_pos h1]]
   exact⟨_,Cmp_l a b (fun n0 h=>kis_i n0 a h (sh18 ha)) (fun n0 h=>kis_i n0 b h (sh18 hb)) (fun n0 h=>sm_i n0 a h (sh18 ha)) (fun n0 h=>sm_i n0 b h (sh18 hb)) h1⟩
  ·by_cases h2:b<a
   ·rw[show cmpZ a b=1 by unfold cmpZ;rw[if_neg h1,if_pos h2]]
    exact⟨_,Cmp_g a b (fun n0 h=>kis_i n0 a h (sh18 ha)) (fun n0 h=>kis_i n0 b h (sh18 hb)) (fun n0 h=>sm_i n0 a h (sh18 ha)) (fun n0 h=>sm_i n0 b h (sh18 hb)) h2⟩
   ·rw[show cmpZ a b=0 by unfold cmpZ;rw[if_neg h1,if_neg h2]]
    exact⟨_,Cmp_e a b (fun n0 h=>kis_i n0 a h (sh18 ha)) (fun n0 h=>kis_i n0 b h (sh18 hb)) (fun n0 h=>sm_i n0 a h (sh18 ha)) (fun n0 h=>sm_i n0 b h (sh18 hb)) (by omega)⟩
 obtain⟨nx,S⟩:=key
 exact fsp_keep (L:=[(3,gob1)]) (fsp_glob [(3,gob1)] [] [] [] [] [] n0 S (by decide+kernel) (by rfl) rfl (by rfl) rfl (by simp) (by simp) hG rfl rfl rfl (by simp) (by simp) rfl rfl rfl)
theorem Chk_o(a:Int)(hka: ∀n0,10≤n0→FT 208 #[.string (istr a)] n0 [] (lI 2) [] []):CT 100 #[(.string (istr a))] (mkH 10 []) (lI 0) (mkH 13 []):=
 sF (sc:=[(67,.call [] (lI 2) [] []),(84,.stay)]) (by kernel_rfl) (aI (hka 13 (by omega)) tt) (Gets.refl _)
theorem Chk_s(n0:Nat)(a:Int)(hG:10≤n0)(ha:a.natAbs<1000000000000000000):FT 100 #[(.string (istr a))] n0 [] (lI 0) [] []:=
 fsp_flat [] [] [] [] [] n0 (Chk_o a (fun n0 h=>kis_i n0 a h (sh18 ha))) rfl rfl rfl (by simp) (by simp) hG rfl rfl rfl (by simp) (by simp) rfl rfl rfl
end Go.Proofs.YtdgbfelbfhgglaaGreatDoor
