import Derived.Test.YtjbflfbhfnkmlaaGreatDoorPWhole
import Derived.Test.YtjbflfbhfnkmlaaGreatDoorPWf
import Derived.Test.YtjbflfbhfnkmlaaGreatDoorLF
set_option linter.unusedVariables false
set_option linter.unusedSimpArgs false
set_option maxRecDepth 100000
namespace Go.Proofs.YtjbflfbhfnkmlaaGreatDoor
open Go Go.AE Seg
noncomputable section
abbrev Zo(d:Nat):Value:=nB ((UInt8.ofNat (48+d)).toNat)
abbrev z_cb0_1(ds:List Nat):List Value:=[bF,(.string (Aa ds)),(nI ((Aa ds).size)),(.string (Aa ds)),(nI ((Aa ds).size)),undef,undef,undef,undef,undef,undef,undef,undef,undef,undef,undef,undef,undef,undef,undef,undef]
abbrev z_cb0_3(ds:List Nat):AS:=(Ca 143 #[(.string (Aa ds))] 5 [])
end
theorem mstr_get0(ds:List Nat):(Bg ds)[0]? =some (UInt8.ofNat 45):=by
 have h:0<(Bg ds).size:=by rw[Ua];omega
 rw[getElem?_pos (Bg ds) 0 h]
 rfl
theorem byte_no45{d:Nat}(h:d<10):((((UInt8.ofNat (48+d)).toNat:Nat):Int)==(45:Int))=false:=by
 rw[Nx h,beq_eq_false_iff_ne];omega
theorem byte_45:((((UInt8.ofNat 45).toNat:Nat):Int)==(45:Int))=true:=by decide
theorem byte_ge{d:Nat}(h:d<10):decide ((((UInt8.ofNat (48+d)).toNat:Nat):Int)<(48:Int))=false:=by
 rw[Nx h,decide_eq_false_iff_not];omega
theorem byte_le{d:Nat}(h:d<10):decide ((((UInt8.ofNat (48+d)).toNat:Nat):Int)>(57:Int))=false:=by
 rw[Nx h,decide_eq_false_iff_not];omega
theorem Zb{d:Nat}(h:d<10):IntKind.wrap .u8 ((((UInt8.ofNat (48+d)).toNat:Nat):Int)-(48:Int))=((d:Nat):Int):=by
 rw[Nx h]
 simp[IntKind.wrap,IntKind.signed,IntKind.bits]
 omega
theorem at_ne{a b:List UInt8}(i:Nat)(h:a[i]? ≠b[i]?):(!(a==b))=true:=by
 rw[Bool.not_eq_true',beq_eq_false_iff_ne]
 intro q
 exact h (by rw[q])
theorem byte_inj{d k:Nat}(h:d<10)(hk:k<256)(hne:48+d≠k):UInt8.ofNat (48+d)≠UInt8.ofNat k:=by
 intro q
 have:=congrArg UInt8.toNat q
 rw[Nx h,UInt8.toNat_ofNat']at this
 omega
theorem dstr_ne_m0{ds:List Nat}(hd:Dig ds)(h0:0<ds.length):(!((Aa ds).toList==(Seg.bts [45,48]).toList))=true:=by
 rw[ByteArray.toList_eq,ByteArray.toList_eq]
 cases ds with
 |nil=>simp at h0
 |cons d ds=>
  refine at_ne 0 fun q=> ?_
  have q:some (UInt8.ofNat (48+d))=some (UInt8.ofNat 45):=q
  injection q with q
  exact byte_inj (hd d (List.mem_cons_self ..)) de om q
theorem mstr_ne_m0{ds:List Nat}(hd:Dig ds)(h0:0<ds.length)(h1:ds.getD 0 0≠0):(!((Bg ds).toList==(Seg.bts [45,48]).toList))=true:=by
 rw[ByteArray.toList_eq,ByteArray.toList_eq]
 cases ds with
 |nil=>simp at h0
 |cons d ds=>
  have h1':d≠0:=h1
  refine at_ne 1 fun q=> ?_
  have q:some (UInt8.ofNat (48+d))=some (UInt8.ofNat 48):=q
  injection q with q
  exact byte_inj (hd d (List.mem_cons_self ..)) de om q
theorem ne_p(ds:List Nat)(d:Nat)(hd:d<10)(h0:0<(Aa ds).size)(hx:(Aa ds)[0]? =some (UInt8.ofNat (48+d))):CT 44 #[(.string (Aa ds))] (Ac 5 []) bF (Ac 5 []):=
 sF (sc:=[(8,.op (.rwB true)),(2,.op (.sidx (UInt8.ofNat (48+d)))),(0,.op (.rwB false)),(4,.stay)]) kr (aI (dT (p:=(((Aa ds).size:Nat):Int)>(0:Int))) (aI (show 0≤(0:Int)∧(Aa ds)[Int.toNat (0:Int)]? =some (UInt8.ofNat (48+d)) from⟨by omega,hx⟩) (aI (show ((((UInt8.ofNat (48+d)).toNat:Nat):Int)==(45:Int))=false from (byte_no45 hd)) tt))) (Gets.refl _)
theorem ne_pc(n0:Nat)(ds:List Nat)(hG:5≤n0)(hd:Dig ds)(h0:0<ds.length):FT 44 #[.string (Aa ds)] n0 [] bF [] []:=
 Dy n0 (ne_p ds _ (hd.get 0) (by rw[Ad];exact h0) (Gi h0)) hG
theorem ne_m(ds:List Nat)(h0:0<(Bg ds).size):CT 44 #[(.string (Bg ds))] (Ac 5 []) bT (Ac 5 []):=
 sF (sc:=[(8,.op (.rwB true)),(2,.op (.sidx (UInt8.ofNat 45))),(0,.op (.rwB true)),(4,.stay)]) kr (aI (dT (p:=(((Bg ds).size:Nat):Int)>(0:Int))) (aI (show 0≤(0:Int)∧(Bg ds)[Int.toNat (0:Int)]? =some (UInt8.ofNat 45) from⟨by omega,mstr_get0 ds⟩) (aI byte_45 tt))) (Gets.refl _)
theorem ne_mc(n0:Nat)(ds:List Nat)(hG:5≤n0):FT 44 #[.string (Bg ds)] n0 [] bT [] []:=
 Dy n0 (ne_m ds (by rw[Ua];omega)) hG
theorem ab_p(ds:List Nat)(hd:Dig ds)(h0:0<ds.length):CT 43 #[(.string (Aa ds))] (Ac 5 []) (.string (Aa ds)) (Ac 5 []):=
 sF (sc:=[(8,.call [] bF [] []),(9,.stay)]) kr (aI (ne_pc 5 ds om hd h0) tt) (Gets.refl _)
theorem ab_m(ds:List Nat)(hs:(Bg ds).size=ds.length+1):CT 43 #[(.string (Bg ds))] (Ac 5 []) (.string (Aa ds)) (Ac 5 []):=
 sF (sc:=[(8,.call [] bT [] []),(5,.op (.sslc (Aa ds))),(3,.stay)]) kr (aI (ne_mc 5 ds om) (aI (show 0≤(1:Int)∧(1:Int)≤(((Bg ds).size:Nat):Int)∧(((Bg ds).size:Nat):Int)≤(((Bg ds).size:Nat):Int)∧(Bg ds).extract (Int.toNat (1:Int)) (Int.toNat (((Bg ds).size:Nat):Int))=(Aa ds) from⟨by omega,by omega,by omega,mstr_rest ds _ hs⟩) tt)) (Gets.refl _)
theorem ab_pc(n0:Nat)(ds:List Nat)(hG:5≤n0)(hd:Dig ds)(h0:0<ds.length):FT 43 #[.string (Aa ds)] n0 [] (.string (Aa ds)) [] []:=
 Dy n0 (ab_p ds hd h0) hG
theorem ab_mc(n0:Nat)(ds:List Nat)(hG:5≤n0):FT 43 #[.string (Bg ds)] n0 [] (.string (Aa ds)) [] []:=
 Dy n0 (ab_m ds (Ua ds)) hG
noncomputable def rdg_h_f(ds:List Nat)(i:Nat)(jc:List Value)(j:List Value):Frame:=(Fr 143 ([(.string (Aa ds)),uu,(J j 0),(nI i),(J j 1),(J j 2),bF,bF,(J j 3),(J j 4),(J jc 0),(J jc 1),(J jc 2),(J jc 3),(J jc 4),bF,bF]++(jj j 5 16 [])) [.code (cd Tryz.f143 [1,1,0,1,0,0]),.inLoop (cd Tryz.f143 [1,1,0,1,0,0]),.inBlock 0,.code (cd Tryz.f143 [1,1,1])])
noncomputable def rdg_h_o(ds:List Nat)(i:Nat)(jc:List Value):List (Nat×AObj):=[]
noncomputable def rdg_h(ds:List Nat)(i:Nat)(jc:List Value)(j:List Value):AS:=⟨rdg_h_f ds i jc j,[],Ac 5 (rdg_h_o ds i jc)⟩
theorem rdg_in1(ds:List Nat)(h0:0<(Aa ds).size)(h1: ¬(Aa ds).size>1):GT (z_cb0_3 ds) (rdg_h ds 0 ([bF,bF,undef,undef,undef]) (z_cb0_1 ds)):=
 sR (sc:=[(9,.op (.rwB false)),(3,.op (.rwB false)),(16,.stay)]) kr (aI (eF (a:=(((Aa ds).size:Nat):Int)) (b:=(0:Int))) (aI (dF (p:=(((Aa ds).size:Nat):Int)>(1:Int))) tt))
theorem rdg_in2(ds:List Nat)(h0:0<(Aa ds).size)(h1:(Aa ds).size>1)(d:Nat)(hd0:d<10)(hd1:d≠0)(hx:(Aa ds)[0]? =some (UInt8.ofNat (48+d))):GT (z_cb0_3 ds) (rdg_h ds 0 ([bT,bT,(.string (Aa ds)),(Zo d),bF]) (z_cb0_1 ds)):=
 sR (sc:=[(9,.op (.rwB false)),(3,.op (.rwB true)),(2,.op (.sidx (UInt8.ofNat (48+d)))),(0,.op (.rwB false)),(12,.stay)]) kr (aI (eF (a:=(((Aa ds).size:Nat):Int)) (b:=(0:Int))) (aI (dT (p:=(((Aa ds).size:Nat):Int)>(1:Int))) (aI (show 0≤(0:Int)∧(Aa ds)[Int.toNat (0:Int)]? =some (UInt8.ofNat (48+d)) from⟨by omega,hx⟩) (aI (show ((((UInt8.ofNat (48+d)).toNat:Nat):Int)==(48:Int))=false from (byte_ne hd0 hd1)) tt))))
theorem rdg_r(ds:List Nat)(i d:Nat)(j jc:List Value)(hd:d<10)(hi:i<(Aa ds).size)(hm:(Aa ds).size<1099511627776)(hx:(Aa ds)[i]? =some (UInt8.ofNat (48+d))):GT (rdg_h ds i jc j) (rdg_h ds (i+1) ([(J jc 0),(J jc 1),(J jc 2),(J jc 3),(J jc 4)]) (jj j 0 5 [(nI i),(.string (Aa ds)),(nI ((Aa ds).size)),bT,(nI i),(nI (i+1)),(.string (Aa ds)),(nI i),(Zo d),bF,bF,(.string (Aa ds)),(nI i),(Zo d),bF,bF])):=
 sR (sc:=[(6,.op (.rwB true)),(9,.op (.sidx (UInt8.ofNat (48+d)))),(0,.op (.rwB false)),(3,.op (.sidx (UInt8.ofNat (48+d)))),(0,.op (.rwB false)),(7,.op (.rwI (((i+1):Nat):Int))),(3,.stay)]) kr (aI (dT (p:=(i:Int)<(((Aa ds).size:Nat):Int))) (aI (show 0≤(i:Int)∧(Aa ds)[Int.toNat (i:Int)]? =some (UInt8.ofNat (48+d)) from⟨by omega,hx⟩) (aI (show decide ((((UInt8.ofNat (48+d)).toNat:Nat):Int)<(48:Int))=false from (byte_ge hd)) (aI (show 0≤(i:Int)∧(Aa ds)[Int.toNat (i:Int)]? =some (UInt8.ofNat (48+d)) from⟨by omega,hx⟩) (aI (show decide ((((UInt8.ofNat (48+d)).toNat:Nat):Int)>(57:Int))=false from (byte_le hd)) (aI (Am (a:=((i:Int)+(1:Int))) (r:=(((i+1):Nat):Int))) tt))))))
theorem rdg_o(ds:List Nat)(i:Nat)(j jc:List Value)(hi:(Aa ds).size≤i)(hr:GT (z_cb0_3 ds) (rdg_h ds i jc j)):CT 143 #[(.string (Aa ds))] (Ac 5 []) bT (Ac 5 []):=
 sF (sc:=[(6,.op (.rwB false)),(8,.stay)]) kr (aI (dF (p:=(i:Int)<(((Aa ds).size:Nat):Int))) tt) hr
theorem rdg_loop{ds:List Nat}(hd:Dig ds)(hm:ds.length<1099511627776): ∀(k i:Nat) (j jc:List Value),k=ds.length-i→i≤ds.length→GT (Ca 143 #[(.string (Aa ds))] 5 []) (rdg_h ds i jc j)→CT 143 #[(.string (Aa ds))] (Ac 5 []) bT (Ac 5 []):=by
 intro k
 induction k with
 |zero=>
  intro i j jc hk hi hr
  exact rdg_o ds i j jc (by rw[Ad];omega) hr
 |succ k ih=>
  intro i j jc hk hi hr
  exact ih (i+1) _ _ om om (hr.trans (rdg_r ds i _ j jc (hd.get i) (by rw[Ad];omega) (by rw[Ad];exact hm) (Gi om)))
theorem rdg_c1(n0:Nat)(ds:List Nat)(hG:5≤n0)(hd:Dig ds)(h0:0<ds.length)(hm:ds.length<1099511627776)(hh:1<ds.length→ds.getD 0 0≠0):FT 143 #[.string (Aa ds)] n0 [] bT [] []:=by
 by_cases h1:1<ds.length
 ·exact Dy n0 (rdg_loop hd hm _ 0 _ _ rfl (Nat.zero_le _) (rdg_in2 ds (by rw[Ad];exact h0) (by rw[Ad];exact h1) _ (hd.get 0) (hh h1) (Gi h0))) hG
 ·exact Dy n0 (rdg_loop hd hm _ 0 _ _ rfl (Nat.zero_le _) (rdg_in1 ds (by rw[Ad];exact h0) (by rw[Ad];exact h1))) hG
theorem fo_p(ds:List Nat)(hd:Dig ds)(h0:0<ds.length)(hm:ds.length<1099511627776)(hh:1<ds.length→ds.getD 0 0≠0):CT 104 #[(.string (Aa ds))] (Ac 5 []) bT (Ac 5 []):=
 sF (sc:=[(7,.call [] (.string (Aa ds)) [] []),(0,.call [] bT [] []),(2,.op (.rwB true)),(4,.stay)]) kr (aI (ab_pc 5 ds om hd h0) (aI (rdg_c1 5 ds om hd h0 hm hh) (aI (show (!((Aa ds).toList==(bts [45,48]).toList))=true from (dstr_ne_m0 hd h0)) tt))) (Gets.refl _)
theorem fo_pc(n0:Nat)(ds:List Nat)(hG:5≤n0)(hd:Dig ds)(h0:0<ds.length)(hm:ds.length<1099511627776)(hh:1<ds.length→ds.getD 0 0≠0):FT 104 #[(.string (Aa ds))] n0 [] bT [] []:=
 Dy n0 (fo_p ds hd h0 hm hh) hG
theorem fo_m(ds:List Nat)(hd:Dig ds)(h0:0<ds.length)(hm:ds.length<1099511627776)(hh:1<ds.length→ds.getD 0 0≠0)(h1:ds.getD 0 0≠0):CT 104 #[(.string (Bg ds))] (Ac 5 []) bT (Ac 5 []):=
 sF (sc:=[(7,.call [] (.string (Aa ds)) [] []),(0,.call [] bT [] []),(2,.op (.rwB true)),(4,.stay)]) kr (aI (ab_mc 5 ds om) (aI (rdg_c1 5 ds om hd h0 hm hh) (aI (show (!((Bg ds).toList==(bts [45,48]).toList))=true from (mstr_ne_m0 hd h0 h1)) tt))) (Gets.refl _)
theorem fo_mc(n0:Nat)(ds:List Nat)(hG:5≤n0)(hd:Dig ds)(h0:0<ds.length)(hm:ds.length<1099511627776)(hh:1<ds.length→ds.getD 0 0≠0)(h1:ds.getD 0 0≠0):FT 104 #[(.string (Bg ds))] n0 [] bT [] []:=
 Dy n0 (fo_m ds hd h0 hm hh h1) hG
noncomputable def tip_h_f(ds:List Nat)(l i:Nat)(j:List Value):Frame:=(Fr 52 ([(.string (Aa ds)),uu,(lI 0),bF,(.string (Aa ds)),(nI l),(nI i),(.string (Aa ds)),(.string (Aa ds)),(.string (Aa ds)),bT,bF,bF,(.string (Aa ds)),(J j 0),bF,bF]++(jj j 1 14 [uu,uu,uu,uu,uu])) [.code (cd Tryz.f52 [1,1,1,1,0,1,0,0]),.inLoop (cd Tryz.f52 [1,1,1,1,0,1,0,0]),.inBlock 0,.code (cd Tryz.f52 [1,1,1,1,1])])
noncomputable def tip_h_o(ds:List Nat)(l i:Nat):List (Nat×AObj):=[]
noncomputable def tip_h(ds:List Nat)(l i:Nat)(j:List Value):AS:=⟨tip_h_f ds l i j,[],Ac 5 (tip_h_o ds l i)⟩
theorem tip_in(ds:List Nat)(hd:Dig ds)(h0:0<ds.length)(hm:ds.length≤15)(hh:1<ds.length→ds.getD 0 0≠0)(hs:(Aa ds).size=ds.length):GT (Ca 52 #[(.string (Aa ds))] 5 []) (tip_h ds 0 0 [(nI ((Aa ds).size)),undef,undef,undef,undef,undef,undef,undef,undef,undef,undef,undef,undef,undef,undef]):=
 sR (sc:=[(8,.call [] (.string (Aa ds)) [] []),(6,.call [] bT [] []),(4,.op (.rwB false)),(15,.stay)]) kr (aI (ab_pc 5 ds om hd h0) (aI (fo_pc 5 ds om hd h0 om hh) (aI (dF (p:=(((Aa ds).size:Nat):Int)>(15:Int))) tt)))
theorem tip_r(ds:List Nat)(l i d:Nat)(j:List Value)(hd:d<10)(hl:l<100000000000000)(hi:i<(Aa ds).size)(hm:(Aa ds).size<1099511627776)(hx:(Aa ds)[i]? =some (UInt8.ofNat (48+d))):GT (tip_h ds l i j) (tip_h ds ((10*l)+d) (i+1) [(J j 0),(nI i),(.string (Aa ds)),(nI ((Aa ds).size)),bT,(nI i),(nI (i+1)),(nI l),(nI (10*l)),(.string (Aa ds)),(nI i),(Zo d),(nB d),(nI d),(nI ((10*l)+d))]):=
 sR (sc:=[(6,.op (.rwB true)),(7,.op (.rwI (((10*l):Nat):Int))),(2,.op (.sidx (UInt8.ofNat (48+d)))),(0,.op (.rwI (d:Int))),(0,.op (.rwI (d:Int))),(0,.op (.rwI ((((10*l)+d):Nat):Int))),(5,.op (.rwI (((i+1):Nat):Int))),(3,.stay)]) kr (aI (dT (p:=(i:Int)<(((Aa ds).size:Nat):Int))) (aI (Am (a:=((10:Int)*(l:Int))) (r:=(((10*l):Nat):Int))) (aI (show 0≤(i:Int)∧(Aa ds)[Int.toNat (i:Int)]? =some (UInt8.ofNat (48+d)) from⟨by omega,hx⟩) (aI (show IntKind.wrap .u8 ((((UInt8.ofNat (48+d)).toNat:Nat):Int)-(48:Int))=(d:Int) from (Zb hd)) (aI (Am (a:=(d:Int)) (r:=(d:Int))) (aI (Am (a:=((((10*l):Nat):Int)+(d:Int))) (r:=((((10*l)+d):Nat):Int))) (aI (Am (a:=((i:Int)+(1:Int))) (r:=(((i+1):Nat):Int))) tt)))))))
theorem tip_o(ds:List Nat)(l i:Nat)(j:List Value)(hd:Dig ds)(h0:0<ds.length)(hl:l<1000000000000000)(hi:(Aa ds).size≤i)(hr:GT (Ca 52 #[(.string (Aa ds))] 5 []) (tip_h ds l i j)):CT 52 #[(.string (Aa ds))] (Ac 5 []) (.tuple #[(nI l),bT]) (Ac 5 []):=
 sF (sc:=[(6,.op (.rwB false)),(7,.call [] bF [] []),(10,.stay)]) kr (aI (dF (p:=(i:Int)<(((Aa ds).size:Nat):Int))) (aI (ne_pc 5 ds om hd h0) tt)) hr
theorem tip_loop{ds:List Nat}(hd:Dig ds)(h0:0<ds.length)(hL:ds.length≤15): ∀(k i:Nat) (j:List Value),k=ds.length-i→i≤ds.length→GT (Ca 52 #[(.string (Aa ds))] 5 []) (tip_h ds (Az (ds.take i)) i j)→CT 52 #[(.string (Aa ds))] (Ac 5 []) (.tuple #[.int .i64 (((Az ds:Nat):Int)),.bool true]) (Ac 5 []):=by
 intro k
 induction k with
 |zero=>
  intro i j hk hi hr
  have hlt:Az ds<1000000000000000:=by
   have h2:=Ka _ hd
   have h3:10^ds.length≤10^15:=Nat.pow_le_pow_right de hL
   have h4:(10:Nat)^15=1000000000000000:=by decide
   omega
  rw[List.take_of_length_le om]at hr
  exact tip_o ds (Az ds) i j hd h0 hlt (by rw[Ad];omega) hr
 |succ k ih=>
  intro i j hk hi hr
  have hlt:Az (ds.take i)<100000000000000:=by
   have h2:=Ka _ (hd.take i)
   have h3:10^(ds.take i).length≤10^14:=Nat.pow_le_pow_right de (by rw[List.length_take];omega)
   have h4:(10:Nat)^14=100000000000000:=by decide
   omega
  have r:=tip_r ds _ i (ds.getD i 0) j (hd.get i) hlt (by rw[Ad];omega) (by rw[Ad];omega) (Gi om)
  rw[show 10*Az (ds.take i)+ds.getD i 0=Az (ds.take (i+1)) by rw[Ho om,Nat.mul_comm]]at r
  exact ih (i+1) _ om om (hr.trans r)
theorem tip_c(n0:Nat)(ds:List Nat)(hG:5≤n0)(hd:Dig ds)(h0:0<ds.length)(hm:ds.length≤15)(hh:1<ds.length→ds.getD 0 0≠0):FT 52 #[(.string (Aa ds))] n0 [] (.tuple #[.int .i64 (((Az ds:Nat):Int)),.bool true]) [] []:=
 Dy n0 (tip_loop hd h0 hm _ 0 _ rfl (Nat.zero_le _) (tip_in ds hd h0 hm hh (Ad ds))) hG
noncomputable def tim_h_f(ds:List Nat)(l i:Nat)(j:List Value):Frame:=(Fr 52 ([(.string (Bg ds)),uu,(lI 0),bF,(.string (Aa ds)),(nI l),(nI i),(.string (Bg ds)),(.string (Aa ds)),(.string (Bg ds)),bT,bF,bF,(.string (Aa ds)),(J j 0),bF,bF]++(jj j 1 14 [uu,uu,uu,uu,uu])) [.code (cd Tryz.f52 [1,1,1,1,0,1,0,0]),.inLoop (cd Tryz.f52 [1,1,1,1,0,1,0,0]),.inBlock 0,.code (cd Tryz.f52 [1,1,1,1,1])])
noncomputable def tim_h_o(ds:List Nat)(l i:Nat):List (Nat×AObj):=[]
noncomputable def tim_h(ds:List Nat)(l i:Nat)(j:List Value):AS:=⟨tim_h_f ds l i j,[],Ac 5 (tim_h_o ds l i)⟩
theorem tim_in(ds:List Nat)(hd:Dig ds)(h0:0<ds.length)(hm:ds.length≤15)(hh:1<ds.length→ds.getD 0 0≠0)(h1:ds.getD 0 0≠0)(hs:(Aa ds).size=ds.length):GT (Ca 52 #[(.string (Bg ds))] 5 []) (tim_h ds 0 0 [(nI ((Aa ds).size)),undef,undef,undef,undef,undef,undef,undef,undef,undef,undef,undef,undef,undef,undef]):=
 sR (sc:=[(8,.call [] (.string (Aa ds)) [] []),(6,.call [] bT [] []),(4,.op (.rwB false)),(15,.stay)]) kr (aI (ab_mc 5 ds om) (aI (fo_mc 5 ds om hd h0 om hh h1) (aI (dF (p:=(((Aa ds).size:Nat):Int)>(15:Int))) tt)))
theorem tim_r(ds:List Nat)(l i d:Nat)(j:List Value)(hd:d<10)(hl:l<100000000000000)(hi:i<(Aa ds).size)(hm:(Aa ds).size<1099511627776)(hx:(Aa ds)[i]? =some (UInt8.ofNat (48+d))):GT (tim_h ds l i j) (tim_h ds ((10*l)+d) (i+1) [(J j 0),(nI i),(.string (Aa ds)),(nI ((Aa ds).size)),bT,(nI i),(nI (i+1)),(nI l),(nI (10*l)),(.string (Aa ds)),(nI i),(Zo d),(nB d),(nI d),(nI ((10*l)+d))]):=
 sR (sc:=[(6,.op (.rwB true)),(7,.op (.rwI (((10*l):Nat):Int))),(2,.op (.sidx (UInt8.ofNat (48+d)))),(0,.op (.rwI (d:Int))),(0,.op (.rwI (d:Int))),(0,.op (.rwI ((((10*l)+d):Nat):Int))),(5,.op (.rwI (((i+1):Nat):Int))),(3,.stay)]) kr (aI (dT (p:=(i:Int)<(((Aa ds).size:Nat):Int))) (aI (Am (a:=((10:Int)*(l:Int))) (r:=(((10*l):Nat):Int))) (aI (show 0≤(i:Int)∧(Aa ds)[Int.toNat (i:Int)]? =some (UInt8.ofNat (48+d)) from⟨by omega,hx⟩) (aI (show IntKind.wrap .u8 ((((UInt8.ofNat (48+d)).toNat:Nat):Int)-(48:Int))=(d:Int) from (Zb hd)) (aI (Am (a:=(d:Int)) (r:=(d:Int))) (aI (Am (a:=((((10*l):Nat):Int)+(d:Int))) (r:=((((10*l)+d):Nat):Int))) (aI (Am (a:=((i:Int)+(1:Int))) (r:=(((i+1):Nat):Int))) tt)))))))
theorem tim_o(ds:List Nat)(l i:Nat)(j:List Value)(hd:Dig ds)(h0:0<ds.length)(hl:l<1000000000000000)(hi:(Aa ds).size≤i)(hr:GT (Ca 52 #[(.string (Bg ds))] 5 []) (tim_h ds l i j)):CT 52 #[(.string (Bg ds))] (Ac 5 []) (.tuple #[(.int .i64 (-(l:Int))),bT]) (Ac 5 []):=
 sF (sc:=[(6,.op (.rwB false)),(7,.call [] bT [] []),(4,.op (.rwI (-(l:Int)))),(9,.stay)]) kr (aI (dF (p:=(i:Int)<(((Aa ds).size:Nat):Int))) (aI (ne_mc 5 ds om) (aI (Am (a:=((0:Int)-(l:Int))) (r:=(-(l:Int)))) tt))) hr
theorem tim_loop{ds:List Nat}(hd:Dig ds)(h0:0<ds.length)(hL:ds.length≤15): ∀(k i:Nat) (j:List Value),k=ds.length-i→i≤ds.length→GT (Ca 52 #[(.string (Bg ds))] 5 []) (tim_h ds (Az (ds.take i)) i j)→CT 52 #[(.string (Bg ds))] (Ac 5 []) (.tuple #[.int .i64 (-((Az ds:Nat):Int)),.bool true]) (Ac 5 []):=by
 intro k
 induction k with
 |zero=>
  intro i j hk hi hr
  have hlt:Az ds<1000000000000000:=by
   have h2:=Ka _ hd
   have h3:10^ds.length≤10^15:=Nat.pow_le_pow_right de hL
   have h4:(10:Nat)^15=1000000000000000:=by decide
   omega
  rw[List.take_of_length_le om]at hr
  exact tim_o ds (Az ds) i j hd h0 hlt (by rw[Ad];omega) hr
 |succ k ih=>
  intro i j hk hi hr
  have hlt:Az (ds.take i)<100000000000000:=by
   have h2:=Ka _ (hd.take i)
   have h3:10^(ds.take i).length≤10^14:=Nat.pow_le_pow_right de (by rw[List.length_take];omega)
   have h4:(10:Nat)^14=100000000000000:=by decide
   omega
  have r:=tim_r ds _ i (ds.getD i 0) j (hd.get i) hlt (by rw[Ad];omega) (by rw[Ad];omega) (Gi om)
  rw[show 10*Az (ds.take i)+ds.getD i 0=Az (ds.take (i+1)) by rw[Ho om,Nat.mul_comm]]at r
  exact ih (i+1) _ om om (hr.trans r)
theorem tim_c(n0:Nat)(ds:List Nat)(hG:5≤n0)(hd:Dig ds)(h0:0<ds.length)(hm:ds.length≤15)(hh:1<ds.length→ds.getD 0 0≠0)(h1:ds.getD 0 0≠0):FT 52 #[(.string (Bg ds))] n0 [] (.tuple #[.int .i64 (-((Az ds:Nat):Int)),.bool true]) [] []:=
 Dy n0 (tim_loop hd h0 hm _ 0 _ rfl (Nat.zero_le _) (tim_in ds hd h0 hm hh h1 (Ad ds))) hG
theorem ti_i(z:Int)(n0:Nat)(hG:5≤n0)(hz:(Ae z.natAbs).length≤15):FT 52 #[.string (Ab z)] n0 [] (.tuple #[.int .i64 z,.bool true]) [] []:=by
 rcases Dh z with⟨m,rfl,hm⟩|⟨m,h0,rfl,hm⟩
 ·rw[Cj]
  rw[hm]at hz
  have h:=tip_c n0 (Ae m) hG (Bs m) (Ax m) hz (fun h=>Et m (by
   rcases Nat.eq_zero_or_pos m with q|q
   ·rw[q,Ea]at h;exact absurd h de
   ·exact q))
  rw[Gx]at h
  exact h
 ·rw[Dm h0]
  rw[hm]at hz
  have h:=tim_c n0 (Ae m) hG (Bs m) (Ax m) hz (fun _=>Et m h0) (Et m h0)
  rw[Gx]at h
  exact h
noncomputable section
abbrev z_12d_0(t:ByteArray):AS:=(Ca 143 #[(.string t)] 5 [])
abbrev z_12d_1(t:ByteArray):List Value:=[bF,(.string t),(nI t.size),(.string t),(nI t.size),undef,undef,undef,undef,undef,undef,undef,undef,undef,undef,undef,undef,undef,undef,undef,undef]
end
theorem byte_45y{c:UInt8}(h:c=45):(((c.toNat:Nat):Int)==(45:Int))=true:=by subst h;rfl
theorem byte_45n{c:UInt8}(h:c≠45):(((c.toNat:Nat):Int)==(45:Int))=false:=by
 rw[beq_eq_false_iff_ne];intro h1;exact h (by apply UInt8.toNat_inj.1;show c.toNat=45;omega)
theorem rd_e:CT 143 #[(.string (bts []))] (Ac 5 []) bF (Ac 5 []):=
 sF (sc:=[(27,.stay)]) kr tt (Gets.refl _)
theorem rd_ec(n0:Nat)(hG:5≤n0):FT 143 #[(.string (bts []))] n0 [] bF [] []:=
 Dy n0 (rd_e) hG
theorem rd_z(t:ByteArray)(c:UInt8)(h0:0<t.size)(h1:t.size>1)(hx:t[0]? =some c)(hc:c=48):CT 143 #[(.string t)] (Ac 5 []) bF (Ac 5 []):=
 sF (sc:=[(9,.op (.rwB false)),(3,.op (.rwB true)),(2,.op (.sidx c)),(0,.op (.rwB true)),(9,.stay)]) kr (aI (eF (a:=((t.size:Nat):Int)) (b:=(0:Int))) (aI (dT (p:=((t.size:Nat):Int)>(1:Int))) (aI (show 0≤(0:Int)∧t[Int.toNat (0:Int)]? =some c from⟨by omega,hx⟩) (aI (show (((c.toNat:Nat):Int)==(48:Int))=true from (byte_0 hc)) tt)))) (Gets.refl _)
theorem rd_zc(n0:Nat)(t:ByteArray)(c:UInt8)(hG:5≤n0)(h0:0<t.size)(h1:t.size>1)(hx:t[0]? =some c)(hc:c=48):FT 143 #[(.string t)] n0 [] bF [] []:=
 Dy n0 (rd_z t c h0 h1 hx hc) hG
noncomputable def rdb_h_f(t:ByteArray)(i:Nat)(jc:List Value)(j:List Value):Frame:=(Fr 143 ([(.string t),uu,(J j 0),(nI i),(J j 1),(J j 2),bF,bF,(J j 3),(J j 4),(J jc 0),(J jc 1),(J jc 2),(J jc 3),(J jc 4),bF,bF]++(jj j 5 16 [])) [.code (cd Tryz.f143 [1,1,0,1,0,0]),.inLoop (cd Tryz.f143 [1,1,0,1,0,0]),.inBlock 0,.code (cd Tryz.f143 [1,1,1])])
noncomputable def rdb_h_o(t:ByteArray)(i:Nat)(jc:List Value):List (Nat×AObj):=[]
noncomputable def rdb_h(t:ByteArray)(i:Nat)(jc:List Value)(j:List Value):AS:=⟨rdb_h_f t i jc j,[],Ac 5 (rdb_h_o t i jc)⟩
theorem rdb_in1(t:ByteArray)(h0:0<t.size)(h1: ¬t.size>1):GT (z_12d_0 t) (rdb_h t 0 ([bF,bF,undef,undef,undef]) (z_12d_1 t)):=
 sR (sc:=[(9,.op (.rwB false)),(3,.op (.rwB false)),(16,.stay)]) kr (aI (eF (a:=((t.size:Nat):Int)) (b:=(0:Int))) (aI (dF (p:=((t.size:Nat):Int)>(1:Int))) tt))
theorem rdb_in2(t:ByteArray)(h0:0<t.size)(h1:t.size>1)(c:UInt8)(hc:c≠48)(hx:t[0]? =some c):GT (z_12d_0 t) (rdb_h t 0 ([bT,bT,(.string t),(nB c.toNat),bF]) (z_12d_1 t)):=
 sR (sc:=[(9,.op (.rwB false)),(3,.op (.rwB true)),(2,.op (.sidx c)),(0,.op (.rwB false)),(12,.stay)]) kr (aI (eF (a:=((t.size:Nat):Int)) (b:=(0:Int))) (aI (dT (p:=((t.size:Nat):Int)>(1:Int))) (aI (show 0≤(0:Int)∧t[Int.toNat (0:Int)]? =some c from⟨by omega,hx⟩) (aI (show (((c.toNat:Nat):Int)==(48:Int))=false from (byte_n0 hc)) tt))))
theorem rdb_r(t:ByteArray)(i:Nat)(c:UInt8)(j jc:List Value)(hi:i<t.size)(hm:t.size<1099511627776)(hx:t[i]? =some c)(h1:48≤c.toNat)(h2:c.toNat≤57):GT (rdb_h t i jc j) (rdb_h t (i+1) ([(J jc 0),(J jc 1),(J jc 2),(J jc 3),(J jc 4)]) (jj j 0 5 [(nI i),(.string t),(nI t.size),bT,(nI i),(nI (i+1)),(.string t),(nI i),(nB c.toNat),bF,bF,(.string t),(nI i),(nB c.toNat),bF,bF])):=
 sR (sc:=[(6,.op (.rwB true)),(9,.op (.sidx c)),(0,.op (.rwB false)),(3,.op (.sidx c)),(0,.op (.rwB false)),(7,.op (.rwI (((i+1):Nat):Int))),(3,.stay)]) kr (aI (dT (p:=(i:Int)<((t.size:Nat):Int))) (aI (show 0≤(i:Int)∧t[Int.toNat (i:Int)]? =some c from⟨by omega,hx⟩) (aI (dF (p:=((c.toNat:Nat):Int)<(48:Int))) (aI (show 0≤(i:Int)∧t[Int.toNat (i:Int)]? =some c from⟨by omega,hx⟩) (aI (dF (p:=((c.toNat:Nat):Int)>(57:Int))) (aI (Am (a:=((i:Int)+(1:Int))) (r:=(((i+1):Nat):Int))) tt))))))
theorem rdb_a(t:ByteArray)(i:Nat)(c:UInt8)(j jc:List Value)(hi:i<t.size)(hm:t.size<1099511627776)(hx:t[i]? =some c)(h1:c.toNat<48)(hr:GT (z_12d_0 t) (rdb_h t i jc j)):CT 143 #[(.string t)] (Ac 5 []) bF (Ac 5 []):=
 sF (sc:=[(6,.op (.rwB true)),(9,.op (.sidx c)),(0,.op (.rwB true)),(13,.stay)]) kr (aI (dT (p:=(i:Int)<((t.size:Nat):Int))) (aI (show 0≤(i:Int)∧t[Int.toNat (i:Int)]? =some c from⟨by omega,hx⟩) (aI (dT (p:=((c.toNat:Nat):Int)<(48:Int))) tt))) hr
theorem rdb_b(t:ByteArray)(i:Nat)(c:UInt8)(j jc:List Value)(hi:i<t.size)(hm:t.size<1099511627776)(hx:t[i]? =some c)(h1:48≤c.toNat)(h2:57<c.toNat)(hr:GT (z_12d_0 t) (rdb_h t i jc j)):CT 143 #[(.string t)] (Ac 5 []) bF (Ac 5 []):=
 sF (sc:=[(6,.op (.rwB true)),(9,.op (.sidx c)),(0,.op (.rwB false)),(3,.op (.sidx c)),(0,.op (.rwB true)),(8,.stay)]) kr (aI (dT (p:=(i:Int)<((t.size:Nat):Int))) (aI (show 0≤(i:Int)∧t[Int.toNat (i:Int)]? =some c from⟨by omega,hx⟩) (aI (dF (p:=((c.toNat:Nat):Int)<(48:Int))) (aI (show 0≤(i:Int)∧t[Int.toNat (i:Int)]? =some c from⟨by omega,hx⟩) (aI (dT (p:=((c.toNat:Nat):Int)>(57:Int))) tt))))) hr
theorem rdb_loop{t:ByteArray}{P:Nat}(hP:P<t.size)(hm:t.size<1099511627776)(hg: ∀q (hq:q<P),Xj (t[q]'om)=true)(hb:Xj (t[P]'hP)=false): ∀(k i:Nat) (j jc:List Value),k=P-i→i≤P→GT (Ca 143 #[(.string t)] 5 []) (rdb_h t i jc j)→CT 143 #[(.string t)] (Ac 5 []) bF (Ac 5 []):=by
 intro k
 induction k with
 |zero=>
  intro i j jc hk hi hr
  have hpp:i=P:=by omega
  subst hpp
  rcases Nat.lt_or_ge (t[i]'hP).toNat 48 with h1|h1
  ·exact rdb_a t i _ j jc hP hm (getElem?_pos t i hP) h1 hr
  ·refine rdb_b t i _ j jc hP hm (getElem?_pos t i hP) h1 ?_ hr
   rcases Nat.lt_or_ge 57 (t[i]'hP).toNat with h2|h2
   ·exact h2
   ·simp[Xj,h1,h2]at hb
 |succ k ih=>
  intro i j jc hk hi hr
  have h1:=hg i om
  simp only[Xj,Bool.and_eq_true,decide_eq_true_eq]at h1
  exact ih (i+1) _ _ om om (hr.trans (rdb_r t i _ j jc om hm (getElem?_pos t i om) h1.1 h1.2))
theorem rdb_c(n0:Nat)(t:ByteArray)(hG:5≤n0)(hm:t.size<1099511627776){P:Nat}(hP:P<t.size)(hg: ∀q (hq:q<P),Xj (t[q]'om)=true)(hb:Xj (t[P]'hP)=false):FT 143 #[.string t] n0 [] bF [] []:=by
 by_cases h1:t.size>1
 ·by_cases hc:t[0]'om=48
  ·exact rd_zc n0 t _ hG om h1 (getElem?_pos t 0 om) hc
  ·exact Dy n0 (rdb_loop hP hm hg hb _ 0 _ _ rfl (Nat.zero_le _) (rdb_in2 t om h1 _ hc (getElem?_pos t 0 om))) hG
 ·exact Dy n0 (rdb_loop hP hm hg hb _ 0 _ _ rfl (Nat.zero_le _) (rdb_in1 t om h1)) hG
theorem nb_e:CT 44 #[(.string (bts []))] (Ac 5 []) bF (Ac 5 []):=
 sF (sc:=[(17,.stay)]) kr tt (Gets.refl _)
theorem nb_ec(n0:Nat)(hG:5≤n0):FT 44 #[(.string (bts []))] n0 [] bF [] []:=
 Dy n0 (nb_e) hG
theorem nb_n(s:ByteArray)(c:UInt8)(h0:0<s.size)(hx:s[0]? =some c)(hc:c≠45):CT 44 #[(.string s)] (Ac 5 []) bF (Ac 5 []):=
 sF (sc:=[(8,.op (.rwB true)),(2,.op (.sidx c)),(0,.op (.rwB false)),(4,.stay)]) kr (aI (dT (p:=((s.size:Nat):Int)>(0:Int))) (aI (show 0≤(0:Int)∧s[Int.toNat (0:Int)]? =some c from⟨by omega,hx⟩) (aI (show (((c.toNat:Nat):Int)==(45:Int))=false from (byte_45n hc)) tt))) (Gets.refl _)
theorem nb_nc(n0:Nat)(s:ByteArray)(c:UInt8)(hG:5≤n0)(h0:0<s.size)(hx:s[0]? =some c)(hc:c≠45):FT 44 #[(.string s)] n0 [] bF [] []:=
 Dy n0 (nb_n s c h0 hx hc) hG
theorem nb_y(s:ByteArray)(c:UInt8)(h0:0<s.size)(hx:s[0]? =some c)(hc:c=45):CT 44 #[(.string s)] (Ac 5 []) bT (Ac 5 []):=
 sF (sc:=[(8,.op (.rwB true)),(2,.op (.sidx c)),(0,.op (.rwB true)),(4,.stay)]) kr (aI (dT (p:=((s.size:Nat):Int)>(0:Int))) (aI (show 0≤(0:Int)∧s[Int.toNat (0:Int)]? =some c from⟨by omega,hx⟩) (aI (show (((c.toNat:Nat):Int)==(45:Int))=true from (byte_45y hc)) tt))) (Gets.refl _)
theorem nb_yc(n0:Nat)(s:ByteArray)(c:UInt8)(hG:5≤n0)(h0:0<s.size)(hx:s[0]? =some c)(hc:c=45):FT 44 #[(.string s)] n0 [] bT [] []:=
 Dy n0 (nb_y s c h0 hx hc) hG
theorem abn(s:ByteArray)(hn: ∀n0,5≤n0→FT 44 #[.string s] n0 [] bF [] []):CT 43 #[(.string s)] (Ac 5 []) (.string s) (Ac 5 []):=
 sF (sc:=[(8,.call [] bF [] []),(9,.stay)]) kr (aI (hn 5 om) tt) (Gets.refl _)
theorem abnc(n0:Nat)(s:ByteArray)(hG:5≤n0)(hn: ∀n0,5≤n0→FT 44 #[.string s] n0 [] bF [] []):FT 43 #[(.string s)] n0 [] (.string s) [] []:=
 Dy n0 (abn s hn) hG
theorem aby(s t:ByteArray)(hn: ∀n0,5≤n0→FT 44 #[.string s] n0 [] bT [] [])(h0:0<s.size)(hu:s.extract 1 s.size=t):CT 43 #[(.string s)] (Ac 5 []) (.string t) (Ac 5 []):=
 sF (sc:=[(8,.call [] bT [] []),(5,.op (.sslc t)),(3,.stay)]) kr (aI (hn 5 om) (aI (show 0≤(1:Int)∧(1:Int)≤((s.size:Nat):Int)∧((s.size:Nat):Int)≤((s.size:Nat):Int)∧s.extract (Int.toNat (1:Int)) (Int.toNat ((s.size:Nat):Int))=t from⟨by omega,by omega,by omega,hu⟩) tt)) (Gets.refl _)
theorem abyc(n0:Nat)(s t:ByteArray)(hG:5≤n0)(hn: ∀n0,5≤n0→FT 44 #[.string s] n0 [] bT [] [])(h0:0<s.size)(hu:s.extract 1 s.size=t):FT 43 #[(.string s)] n0 [] (.string t) [] []:=
 Dy n0 (aby s t hn h0 hu) hG
theorem fob(s t:ByteArray)(ha: ∀n0,5≤n0→FT 43 #[.string s] n0 [] (.string t) [] [])(hd: ∀n0,5≤n0→FT 143 #[.string t] n0 [] bF [] []):CT 104 #[(.string s)] (Ac 5 []) bF (Ac 5 []):=
 sF (sc:=[(7,.call [] (.string t) [] []),(0,.call [] bF [] []),(7,.stay)]) kr (aI (ha 5 om) (aI (hd 5 om) tt)) (Gets.refl _)
theorem fobc(n0:Nat)(s t:ByteArray)(hG:5≤n0)(ha: ∀n0,5≤n0→FT 43 #[.string s] n0 [] (.string t) [] [])(hd: ∀n0,5≤n0→FT 143 #[.string t] n0 [] bF [] []):FT 104 #[(.string s)] n0 [] bF [] []:=
 Dy n0 (fob s t ha hd) hG
theorem ckb(s:ByteArray)(hf: ∀n0,5≤n0→FT 104 #[.string s] n0 [] bF [] []):CT 74 #[(.string s)] (Ac 5 []) (lI 1) (Ac 5 []):=
 sF (sc:=[(8,.call [] bF [] []),(8,.stay)]) kr (aI (hf 5 om) tt) (Gets.refl _)
theorem ckbc(n0:Nat)(s:ByteArray)(hG:5≤n0)(hf: ∀n0,5≤n0→FT 104 #[.string s] n0 [] bF [] []):FT 74 #[(.string s)] n0 [] (lI 1) [] []:=
 Dy n0 (ckb s hf) hG
theorem rd_0(n0:Nat)(hG:5≤n0):FT 143 #[.string (Seg.bts [48])] n0 [] bT [] []:=
 rdg_c1 n0 [0] hG de de de (fun h=>absurd h de)
theorem fom0:CT 104 #[(.string (bts [45,48]))] (Ac 5 []) bF (Ac 5 []):=
 sF (sc:=[(45,.call [] bT [] []),(7,.stay)]) kr (aI (rd_0 5 om) tt) (Gets.refl _)
theorem fom0c(n0:Nat)(hG:5≤n0):FT 104 #[(.string (bts [45,48]))] n0 [] bF [] []:=
 Dy n0 (fom0) hG
theorem istr_of{ds:List Nat}(hd:Dig ds)(h0:0<ds.length)(h:ds=[0]∨ds.getD 0 0≠0): ∃z:Int,Aa ds=Ab z:=by
 rcases h with h|h
 ·subst h;exact⟨0,by rw[show (0:Int)=((0:Nat):Int) from rfl,Cj,Cf de]⟩
 ·obtain⟨n,hn⟩: ∃n,ds.length=n+1:=⟨ds.length-1,by omega⟩
  exact⟨(Az ds:Nat),by rw[Cj,(Nw n ds hn hd h).1]⟩
theorem istr_of_m{ds:List Nat}(hd:Dig ds)(h0:0<ds.length)(h:ds.getD 0 0≠0): ∃z:Int,Bg ds=Ab z:=by
 obtain⟨n,hn⟩: ∃n,ds.length=n+1:=⟨ds.length-1,by omega⟩
 have:=Nw n ds hn hd h
 exact⟨-((Az ds:Nat):Int),by rw[Dm this.2,this.1]⟩
def NoNum(s:ByteArray):Prop:=(∀n0,5≤n0→FT 145 #[.string s] n0 [] (lI 0) [] [])∧ ∀n0,5≤n0→FT 74 #[.string s] n0 [] (lI 1) [] []
theorem nonum{s t:ByteArray}(hw: ∀n0,5≤n0→FT 127 #[.string s,.int .i64 (.ofNat 10)] n0 [] bF [] [])(ha: ∀n0,5≤n0→FT 43 #[.string s] n0 [] (.string t) [] [])(hd: ∀n0,5≤n0→FT 143 #[.string t] n0 [] bF [] []):NoNum s:=
 ⟨fun n0 h=>kifc n0 s h hw,fun n0 h=>ckbc n0 s h fun n1 h1=>fobc n1 s t h1 ha hd⟩
theorem str_any(s:ByteArray)(hm:s.size<1099511627776):(∃z:Int,s=Ab z)∨NoNum s:=by
 generalize hl:s.data.toList=l
 have hs:=ba_ext hl
 subst hs
 cases l with
 |nil=>exact .inr (nonum (fun n0 hG=>wbpec n0 _ hG (fun n1 h1=>so_ec n1 h1)) (fun n0 h=>abnc n0 _ h fun n1 h1=>nb_ec n1 h1) (fun n0 h=>rd_ec n0 h))
 |cons b l=>
  have hsz:(⟨(b::l).toArray⟩:ByteArray).size=l.length+1:=by simp[ByteArray.size]
  rw[hsz]at hm
  have hgx:(⟨(b::l).toArray⟩:ByteArray)[0]? =some b:=rfl
  by_cases hb:b=45
  ·subst hb
   have hS: ∀n0,5≤n0→FT 128 #[.string ⟨((45:UInt8)::l).toArray⟩] n0 [] (.tuple #[.bool true,.string ⟨l.toArray⟩]) [] []:=
    fun n0 h=>so_tc n0 _ _ h (by rw[hsz];omega) (ba_cut 45 l) (ba_rest 45 l)
   have hA: ∀n0,5≤n0→FT 43 #[.string ⟨((45:UInt8)::l).toArray⟩] n0 [] (.string ⟨l.toArray⟩) [] []:=
    fun n0 h=>abyc n0 _ _ h (fun n1 h1=>nb_yc n1 _ 45 h1 (by rw[hsz];omega) hgx rfl) (by rw[hsz];omega) (ba_rest 45 l)
   cases l with
   |nil=>exact .inr (nonum (fun n0 hG=>wbmec n0 _ hG hS) hA (fun n0 h=>rd_ec n0 h))
   |cons c l=>
    have hsz2:(⟨(c::l).toArray⟩:ByteArray).size=l.length+1:=by simp[ByteArray.size]
    have hm2:(c::l).length=l.length+1:=rfl
    rw[hm2]at hm
    have hne:=ba_ne (c::l) [] sm
    have hx:(⟨(c::l).toArray⟩:ByteArray)[0]? =some c:=rfl
    by_cases hc:c=48
    ·by_cases hl0:l=[]
     ·subst hc hl0
      exact .inr ⟨fun n0 h=>kifc n0 _ h fun n1 h1=>wbmzc n1 _ _ 48 h1 hS hne hx rfl,fun n0 h=>ckbc n0 _ h fun n1 h1=>fom0c n1 h1⟩
     ·exact .inr (nonum (fun n0 hG=>wbmzc n0 _ _ c hG hS hne hx hc) hA (fun n0 h=>rd_zc n0 _ c h (by rw[hsz2];omega) (by rw[hsz2];have:=List.length_pos_iff.2 hl0;omega) hx hc))
    ·rcases bytes_cases ⟨(c::l).toArray⟩ with⟨hd,he⟩|⟨P,hP,hg,hbad⟩
     ·obtain⟨z,hz⟩:=istr_of_m hd (by simp[dsOf]) (ds_head he hc)
      exact .inl ⟨z,(ds_m he).trans hz⟩
     ·exact .inr (nonum (fun n0 hG=>wbmxc n0 _ _ c hG hS hne hx hc hP hg hbad) hA (fun n0 h=>rdb_c n0 _ h (by rw[hsz2];omega) hP hg hbad))
  ·have hS: ∀n0,5≤n0→FT 128 #[.string ⟨(b::l).toArray⟩] n0 [] (.tuple #[.bool false,.string ⟨(b::l).toArray⟩]) [] []:=
    fun n0 h=>so_nc n0 _ _ h (by rw[hsz];omega) (ba_cut b l) (ba_ne [b] [45] (by simpa using hb))
   have hA: ∀n0,5≤n0→FT 43 #[.string ⟨(b::l).toArray⟩] n0 [] (.string ⟨(b::l).toArray⟩) [] []:=
    fun n0 h=>abnc n0 _ h fun n1 h1=>nb_nc n1 _ b h1 (by rw[hsz];omega) hgx hb
   have hne:=ba_ne (b::l) [] sm
   by_cases hc:b=48
   ·by_cases hl0:l=[]
    ·subst hc hl0
     obtain⟨z,hz⟩:=istr_of (ds:=[0]) de de (.inl rfl)
     exact .inl ⟨z,hz⟩
    ·exact .inr (nonum (fun n0 hG=>wbpzc n0 _ _ b hG hS hne hgx hc (congrArg not (ba_ne (b::l) [48] (by simp[hl0])))) hA (fun n0 h=>rd_zc n0 _ b h (by rw[hsz];omega) (by rw[hsz];have:=List.length_pos_iff.2 hl0;omega) hgx hc))
   ·rcases bytes_cases ⟨(b::l).toArray⟩ with⟨hd,he⟩|⟨P,hP,hg,hbad⟩
    ·obtain⟨z,hz⟩:=istr_of hd (by simp[dsOf]) (.inr (ds_head he hc))
     exact .inl ⟨z,he.symm.trans hz⟩
    ·exact .inr (nonum (fun n0 hG=>wbpxc n0 _ _ b hG hS hne hgx hc hP hg hbad) hA (fun n0 h=>rdb_c n0 _ h (by rw[hsz];omega) hP hg hbad))
noncomputable section
abbrev Qt(xs:List Nat):List (Nat×AObj):=[(5,(cI xs (some 1)))]
abbrev Rr(xs:List Nat):List (Nat×AObj):=[(5,(cI xs none))]
abbrev z_450_2:List Value:=[undef,undef,undef,undef,undef,undef,undef,undef,undef,undef,undef,undef,undef,undef,undef,undef,undef]
end
theorem Nd(k:IntKind)(xs:List Nat)(v:Nat):ns k xs++[.int k ((v:Nat):Int)]=ns k (xs++[v]):=by simp[ns]
theorem Hw{i:Nat}(h:0<i)(hm:i<1099511627776):IntKind.wrap .i64 (((i:Nat):Int)-(1:Int))=(((i-1):Nat):Int):=by
 rw[Cc om om];omega
noncomputable def rt_h_f(xs:List Nat)(n:Nat)(i:Nat)(j:List Value):Frame:=(Fr 133 ([(sl 5 i 0),uu,nS]++(jj j 0 17 [uu])) [.code (cd Tryz.f133 [1,0,0,0]),.inLoop (cd Tryz.f133 [1,0,0,0]),.inBlock 0,.code (cd Tryz.f133 [1,1])])
noncomputable def rt_h_o(xs:List Nat)(n:Nat)(i:Nat):List (Nat×AObj):=(Qt xs)
noncomputable def rt_h(xs:List Nat)(n:Nat)(i:Nat)(j:List Value):AS:=⟨rt_h_f xs n i j,[],Ac 6 (rt_h_o xs n i)⟩
theorem rt_in(xs:List Nat)(n:Nat):GT (Ca 133 #[(sl 5 n 0)] 6 (Qt xs)) (rt_h xs n n z_450_2):=
 sR (sc:=[(7,.stay)]) kr tt
theorem rt_r(xs:List Nat)(n:Nat)(i a:Nat)(j:List Value)(h0:0<i)(hi:i≤n)(hc:n≤xs.length)(hm:n<1099511627776)(hx:(ns .i64 xs)[i-1]? =some (nI a))(ha:a=0):GT (rt_h xs n i j) (rt_h xs n (i-1) [(sl 5 i 0),(nI i),bT,bT,(sl 5 i 0),(sl 5 i 0),(nI i),(nI (i-1)),(pp 5 (i-1)),(nI a),bT,bT,(sl 5 i 0),(sl 5 i 0),(nI i),(nI (i-1)),(sl 5 (i-1) 0)]):=
 sR (sc:=[(5,.op (.rwB true)),(4,.op (.rwI (((i-1):Nat):Int))),(0,.op (.idx (i-1))),(0,.op (.ld (nI a))),(0,.op (.rwB true)),(9,.op (.rwI (((i-1):Nat):Int))),(0,.op (.slo (i-1))),(4,.stay)]) kr (aI (dT (p:=(i:Int)>(0:Int))) (aI (show IntKind.wrap .i64 ((i:Int)-(1:Int))=(((i-1):Nat):Int) from (Hw h0 om)) (aI (ix (((i-1):Nat):Int) (i:Int) 0 1 (i-1)) (aI hx (aI (show ((a:Int)==(0:Int))=true from (by rw[beq_iff_eq];omega)) (aI (show IntKind.wrap .i64 ((i:Int)-(1:Int))=(((i-1):Nat):Int) from (Hw h0 om)) (aI (show 0≤(((i-1):Nat):Int)∧Int.toNat (((i-1):Nat):Int)*1≤((ns .i64 xs):List Value).length∧Int.toNat (((i-1):Nat):Int)=(i-1) from⟨by omega,by rw[Bh];omega,by omega⟩) tt)))))))
theorem rt_o1(xs:List Nat)(n:Nat)(i a:Nat)(j:List Value)(h0:0<i)(hi:i≤n)(hc:n≤xs.length)(hm:n<1099511627776)(hx:(ns .i64 xs)[i-1]? =some (nI a))(ha:a≠0)(hr:GT (Ca 133 #[(sl 5 n 0)] 6 (Qt xs)) (rt_h xs n i j)):CT 133 #[(sl 5 n 0)] (Ac 6 (Qt xs)) (sl 5 i 0) (Ac 6 (Qt xs)):=
 sF (sc:=[(5,.op (.rwB true)),(4,.op (.rwI (((i-1):Nat):Int))),(0,.op (.idx (i-1))),(0,.op (.ld (nI a))),(0,.op (.rwB false)),(10,.stay)]) kr (aI (dT (p:=(i:Int)>(0:Int))) (aI (show IntKind.wrap .i64 ((i:Int)-(1:Int))=(((i-1):Nat):Int) from (Hw h0 om)) (aI (ix (((i-1):Nat):Int) (i:Int) 0 1 (i-1)) (aI hx (aI (show ((a:Int)==(0:Int))=false from (by rw[beq_eq_false_iff_ne];omega)) tt))))) hr
theorem rt_o2(xs:List Nat)(n:Nat)(i:Nat)(j:List Value)(h0:i=0)(hr:GT (Ca 133 #[(sl 5 n 0)] 6 (Qt xs)) (rt_h xs n i j)):CT 133 #[(sl 5 n 0)] (Ac 6 (Qt xs)) (sl 5 i 0) (Ac 6 (Qt xs)):=
 sF (sc:=[(5,.op (.rwB false)),(18,.stay)]) kr (aI (dF (p:=(i:Int)>(0:Int))) tt) hr
theorem rt_loop{n:Nat}{xs:List Nat}(hc:n≤xs.length)(hm:n<1099511627776): ∀(i:Nat) (j:List Value),i≤n→F.top xs i=F.top xs n→
  GT (Ca 133 #[(sl 5 n 0)] 6 [(5,(cI xs (some 1)))]) (rt_h xs n i j)→CT 133 #[(sl 5 n 0)] (Ac 6 [(5,(cI xs (some 1)))]) (sl 5 (F.top xs n) 0) (Ac 6 [(5,(cI xs (some 1)))]):=by
 intro i
 induction i with
 |zero=>
  intro j _ ht hr
  have:=rt_o2 xs n 0 j rfl hr
  rw[←ht]
  exact this
 |succ i ih=>
  intro j hi ht hr
  by_cases ha:xs.getD i 0=0
  ·have r:=rt_r xs n (i+1) (xs.getD i 0) j om hi hc hm (Aq) ha
   exact ih _ om (by rw[←ht,F.top_zero ha]) (hr.trans r)
  ·have:=rt_o1 xs n (i+1) (xs.getD i 0) j om hi hc hm (Aq) ha hr
   rw[←ht,F.top_some ha]
   exact this
theorem rt_c(n0 b:Nat)(xs:List Nat)(n:Nat)(hb:5≤b∧b<n0)(hc:n≤xs.length)(hm:n<1099511627776):
  FT 133 #[sl b n 0] n0 [(b,.cells (ns .i64 xs) 3 (some 1) false)] (sl b (F.top xs n) 0) [(b,some (cI xs (some 1)))] []:=
 ff [b] [.cells (ns .i64 xs) 3 (some 1) false] [.cells (ns .i64 xs) 3 (some 1) false] [] [] n0 (rt_loop hc hm n _ (Nat.le_refl _) rfl (rt_in xs n))
noncomputable def rs_h_f(xs:List Nat)(n c:Nat)(i:Nat)(j:List Value):Frame:=(Fr 133 ([(sl 5 i c),uu,nS]++(jj j 0 17 [uu])) [.code (cd Tryz.f133 [1,0,0,0]),.inLoop (cd Tryz.f133 [1,0,0,0]),.inBlock 0,.code (cd Tryz.f133 [1,1])])
noncomputable def rs_h_o(xs:List Nat)(n c:Nat)(i:Nat):List (Nat×AObj):=(Rr xs)
noncomputable def rs_h(xs:List Nat)(n c:Nat)(i:Nat)(j:List Value):AS:=⟨rs_h_f xs n c i j,[],Ac 6 (rs_h_o xs n c i)⟩
theorem rs_in(xs:List Nat)(n c:Nat):GT (Ca 133 #[(sl 5 n c)] 6 (Rr xs)) (rs_h xs n c n z_450_2):=
 sR (sc:=[(7,.stay)]) kr tt
theorem rs_r(xs:List Nat)(n c:Nat)(i a:Nat)(j:List Value)(h0:0<i)(hi:i≤n)(hc:n≤xs.length)(hm:n<1099511627776)(hx:(ns .i64 xs)[i-1]? =some (nI a))(hnc:n≤c)(ha:a=0):GT (rs_h xs n c i j) (rs_h xs n c (i-1) [(sl 5 i c),(nI i),bT,bT,(sl 5 i c),(sl 5 i c),(nI i),(nI (i-1)),(pp 5 (i-1)),(nI a),bT,bT,(sl 5 i c),(sl 5 i c),(nI i),(nI (i-1)),(sl 5 (i-1) c)]):=
 sR (sc:=[(5,.op (.rwB true)),(4,.op (.rwI (((i-1):Nat):Int))),(0,.op (.idx (i-1))),(0,.op (.ld (nI a))),(0,.op (.rwB true)),(9,.op (.rwI (((i-1):Nat):Int))),(0,.op (.slc 0 (i-1) c)),(4,.stay)]) kr (aI (dT (p:=(i:Int)>(0:Int))) (aI (show IntKind.wrap .i64 ((i:Int)-(1:Int))=(((i-1):Nat):Int) from (Hw h0 om)) (aI (ix (((i-1):Nat):Int) (i:Int) 0 1 (i-1)) (aI hx (aI (show ((a:Int)==(0:Int))=true from (by rw[beq_iff_eq];omega)) (aI (show IntKind.wrap .i64 ((i:Int)-(1:Int))=(((i-1):Nat):Int) from (Hw h0 om)) (aI (show 0≤(0:Int)∧(0:Int)≤(((i-1):Nat):Int)∧(((i-1):Nat):Int)≤(c:Int)∧(if c=Int.toNat (0:Int) then 0 else 0+Int.toNat (0:Int)*1)=0∧Int.toNat ((((i-1):Nat):Int)-(0:Int))=(i-1)∧c-Int.toNat (0:Int)=c from (by repeat (first|omega|(split<;>omega)|constructor))) tt)))))))
theorem rs_o1(xs:List Nat)(n c:Nat)(i a:Nat)(j:List Value)(h0:0<i)(hi:i≤n)(hc:n≤xs.length)(hm:n<1099511627776)(hx:(ns .i64 xs)[i-1]? =some (nI a))(hnc:n≤c)(ha:a≠0)(hr:GT (Ca 133 #[(sl 5 n c)] 6 (Rr xs)) (rs_h xs n c i j)):CT 133 #[(sl 5 n c)] (Ac 6 (Rr xs)) (sl 5 i c) (Ac 6 (Rr xs)):=
 sF (sc:=[(5,.op (.rwB true)),(4,.op (.rwI (((i-1):Nat):Int))),(0,.op (.idx (i-1))),(0,.op (.ld (nI a))),(0,.op (.rwB false)),(10,.stay)]) kr (aI (dT (p:=(i:Int)>(0:Int))) (aI (show IntKind.wrap .i64 ((i:Int)-(1:Int))=(((i-1):Nat):Int) from (Hw h0 om)) (aI (ix (((i-1):Nat):Int) (i:Int) 0 1 (i-1)) (aI hx (aI (show ((a:Int)==(0:Int))=false from (by rw[beq_eq_false_iff_ne];omega)) tt))))) hr
theorem rs_o2(xs:List Nat)(n c:Nat)(i:Nat)(j:List Value)(h0:i=0)(hr:GT (Ca 133 #[(sl 5 n c)] 6 (Rr xs)) (rs_h xs n c i j)):CT 133 #[(sl 5 n c)] (Ac 6 (Rr xs)) (sl 5 i c) (Ac 6 (Rr xs)):=
 sF (sc:=[(5,.op (.rwB false)),(18,.stay)]) kr (aI (dF (p:=(i:Int)>(0:Int))) tt) hr
theorem rs_loop{n c:Nat}{xs:List Nat}(hc:n≤xs.length)(hm:n<1099511627776)(hnc:n≤c): ∀(i:Nat) (j:List Value),i≤n→F.top xs i=F.top xs n→
  GT (Ca 133 #[(sl 5 n c)] 6 [(5,(cI xs none))]) (rs_h xs n c i j)→CT 133 #[(sl 5 n c)] (Ac 6 [(5,(cI xs none))]) (sl 5 (F.top xs n) c) (Ac 6 [(5,(cI xs none))]):=by
 intro i
 induction i with
 |zero=>
  intro j _ ht hr
  have:=rs_o2 xs n c 0 j rfl hr
  rw[←ht]
  exact this
 |succ i ih=>
  intro j hi ht hr
  by_cases ha:xs.getD i 0=0
  ·have r:=rs_r xs n c (i+1) (xs.getD i 0) j om hi hc hm (Aq) hnc ha
   exact ih _ om (by rw[←ht,F.top_zero ha]) (hr.trans r)
  ·have:=rs_o1 xs n c (i+1) (xs.getD i 0) j om hi hc hm (Aq) hnc ha hr
   rw[←ht,F.top_some ha]
   exact this
theorem rs_c(n0 b:Nat)(xs:List Nat)(n c:Nat)(hb:5≤b∧b<n0)(hc:n≤xs.length)(hm:n<1099511627776)(hnc:n≤c):
  FT 133 #[sl b n c] n0 [(b,.cells (ns .i64 xs) 3 none false)] (sl b (F.top xs n) c) [(b,some (cI xs none))] []:=
 ff [b] [.cells (ns .i64 xs) 3 none false] [.cells (ns .i64 xs) 3 none false] [] [] n0 (rs_loop hc hm hnc n _ (Nat.le_refl _) rfl (rs_in xs n c))
end Go.Proofs.YtjbflfbhfnkmlaaGreatDoor
