import Derived.Test.YtldoiilgfcpipaaGreatDoorPUp
import Derived.Test.YtldoiilgfcpipaaGreatDoorPWf
import Derived.Test.YtldoiilgfcpipaaGreatDoorLF
set_option linter.unusedVariables false
set_option linter.unusedSimpArgs false
set_option maxRecDepth 100000
namespace Go.Proofs.YtldoiilgfcpipaaGreatDoor
open Go Go.AE Seg
noncomputable section
abbrev z_d20_0(n e:Nat)(sr:ByteArray):Array Value:= #[(nI n),uu,(.string (sr++(dstr [e]))),(nI n),bF,uu,uu,uu,uu,(nI n),bF,uu,uu,uu,uu,uu,(nI n),(nI (n/10)),(.string sr),(nI n),(nI (n%10)),(nI (48+(n%10))),(nB (48+(n%10))),(sl 5 1 1),(.string (dstr [e])),(.string (sr++(dstr [e])))]
end
theorem dec_eq{n:Nat}(h: ¬n<10):dstr (digs (n/10))++dstr [n%10]=dstr (digs n):=by rw[dstr_snoc,←digs_big h]
theorem oi_s(n:Nat)(hn:n<1000000000000000001)(h:n<10)(e:Nat)(he:e=n):CT 75 #[(nI n)] (mkH 5 []) (.string (dstr [e])) (mkH 6 []):=
 sF (sc:=[(8,.op (.rwB false)),(7,.op (.rwB true)),(5,.op (.rwI (((48+n):Nat):Int))),(0,.op (.rwI (((48+n):Nat):Int))),(1,.op (.b2s (dstr [e]))),(3,.stay)]) (by kernel_rfl) (aI (dF (p:=(n:Int)<(0:Int))) (aI (dT (p:=(n:Int)<(10:Int))) (aI (wI64 (a:=((48:Int)+(n:Int))) (r:=(((48+n):Nat):Int))) (aI (wU8 (a:=(((48+n):Nat):Int)) (r:=(((48+n):Nat):Int))) (aI (show 0+1≤([(nB (48+n))]).length∧(intsOf (List.take 1 (List.drop 0 [(nB (48+n))]))).map (fun ns=>(⟨(ns.map fun n=>UInt8.ofNat n.toNat).toArray⟩:ByteArray))=some (dstr [e]) from (b2s_one (by omega))) tt))))) (Gets.refl _)
theorem oi_r(n:Nat)(hn:n<1000000000000000001)(h: ¬n<10)(e:Nat)(he:e=n%10)(sr:ByteArray)(hsz:sr.size<1099511627776)(hrec: ∀n0,5≤n0→FT 75 #[(nI (n/10))] n0 [] (.string sr) [] []):CT 75 #[(nI n)] (mkH 5 []) (.string (sr++(dstr [e]))) (mkH 6 []):=
 sF (sc:=[(8,.op (.rwB false)),(7,.op (.rwB false)),(4,.drwB [(1,.rwI (((n/10):Nat):Int)),(4,.rwI (((n%10):Nat):Int)),(5,.rwI (((48+(n%10)):Nat):Int)),(6,.rwI (((48+(n%10)):Nat):Int)),(8,.b2s (dstr [e])),(9,.cat (sr++(dstr [e])))] [⟨2,[],(.string sr),[],[]⟩] ⟨(z_d20_0 n e sr),6,[(5,(.cells [(nB (48+(n%10)))] 5 none false))]⟩),(1,.stay)]) (by kernel_rfl) (aI (dF (p:=(n:Int)<(0:Int))) (aI (dF (p:=(n:Int)<(10:Int))) (aI (show True∧((IntKind.wrap .i64 (Int.tdiv (n:Int) (10:Int))=(((n/10):Nat):Int))∧(True∧(((Int.tmod (n:Int) (10:Int))=(((n%10):Nat):Int))∧((IntKind.wrap .i64 ((48:Int)+(((n%10):Nat):Int))=(((48+(n%10)):Nat):Int))∧((IntKind.wrap .u8 (((48+(n%10)):Nat):Int)=(((48+(n%10)):Nat):Int))∧(((FT 75 #[(nI (n/10))] 5 [] (.string sr) [] [])∧(True)∧(((True)∧(True)∧(((0+1≤([(nB (48+(n%10)))]).length∧(intsOf (List.take 1 (List.drop 0 [(nB (48+(n%10)))]))).map (fun ns=>(⟨(ns.map fun n=>UInt8.ofNat n.toNat).toArray⟩:ByteArray))=some (dstr [e]))∧(True)∧(((((sr.size+(dstr [e]).size:Nat)):Int)≤9223372036854775807∧sr++(dstr [e])=(sr++(dstr [e])))∧(True∧(endT ⟨(z_d20_0 n e sr),6,[(5,(.cells [(nB (48+(n%10)))] 5 none false))]⟩))))∧(True)))∧(True)))∧(((True)∧(True)∧(((FT 75 #[(nI (n/10))] 6 [] (.string sr) [] [])∧(True)∧(((0+1≤([(nB (48+(n%10)))]).length∧(intsOf (List.take 1 (List.drop 0 [(nB (48+(n%10)))]))).map (fun ns=>(⟨(ns.map fun n=>UInt8.ofNat n.toNat).toArray⟩:ByteArray))=some (dstr [e]))∧(True)∧(((((sr.size+(dstr [e]).size:Nat)):Int)≤9223372036854775807∧sr++(dstr [e])=(sr++(dstr [e])))∧(True∧(endT ⟨(z_d20_0 n e sr),6,[(5,(.cells [(nB (48+(n%10)))] 5 none false))]⟩))))∧(True)))∧(((0+1≤([(nB (48+(n%10)))]).length∧(intsOf (List.take 1 (List.drop 0 [(nB (48+(n%10)))]))).map (fun ns=>(⟨(ns.map fun n=>UInt8.ofNat n.toNat).toArray⟩:ByteArray))=some (dstr [e]))∧(True)∧(((FT 75 #[(nI (n/10))] 6 [] (.string sr) [] [])∧(True)∧(((((sr.size+(dstr [e]).size:Nat)):Int)≤9223372036854775807∧sr++(dstr [e])=(sr++(dstr [e])))∧(True∧(endT ⟨(z_d20_0 n e sr),6,[(5,(.cells [(nB (48+(n%10)))] 5 none false))]⟩))))∧(True)))∧(True))))∧(True)))))))) from⟨tt,⟨(by rw[Int.tdiv_eq_ediv_of_nonneg (by omega),wrap_i64 (by omega) (by omega)]<;>omega),⟨tt,⟨(by rw[Int.tmod_eq_emod_of_nonneg (by omega)]<;>omega),⟨(wI64),⟨(wU8),⟨⟨(hrec 5 (by omega)),tt,⟨⟨tt,tt,⟨⟨(b2s_one (by omega)),tt,⟨⟨by rw[show (dstr [e]).size=1 from rfl];omega,rfl⟩,⟨tt,rfl⟩⟩⟩,tt⟩⟩,tt⟩⟩,⟨⟨tt,tt,⟨⟨(hrec 6 (by omega)),tt,⟨⟨(b2s_one (by omega)),tt,⟨⟨by rw[show (dstr [e]).size=1 from rfl];omega,rfl⟩,⟨tt,rfl⟩⟩⟩,tt⟩⟩,⟨⟨(b2s_one (by omega)),tt,⟨⟨(hrec 6 (by omega)),tt,⟨⟨by rw[show (dstr [e]).size=1 from rfl];omega,rfl⟩,⟨tt,rfl⟩⟩⟩,tt⟩⟩,tt⟩⟩⟩,tt⟩⟩⟩⟩⟩⟩⟩⟩) tt))) (Gets.refl _)
theorem oi_c: ∀(n n0:Nat),5≤n0→n<1000000000000000001→FT 75 #[.int .i64 ((n:Nat):Int)] n0 [] (.string (istr (n:Int))) [] []:=by
 intro n
 induction n using Nat.strongRecOn with
 |_ n ih=>
  intro n0 hG hn
  rw[istr_nn]
  by_cases h:n<10
  ·rw[digs_small h]
   exact fsp_flat [] [] [] [] [] n0 (oi_s n hn h n rfl) rfl rfl rfl (by simp) (by simp) hG rfl rfl rfl (by simp) (by simp) rfl rfl rfl
  ·have hr: ∀n0,5≤n0→FT 75 #[(nI (n/10))] n0 [] (.string (dstr (digs (n/10)))) [] []:=fun n0 hG=>by
    have:=ih (n/10) (by omega) n0 hG (by omega)
    rw[istr_nn]at this
    exact this
   have hsz:(dstr (digs (n/10))).size<1099511627776:=by
    rw[dstr_size]
    have h1:ndig (n/10)≤18:=ndig_lt 18 _ (by omega)
    have:=digs_len_le h1 (by decide)
    omega
   rw[←dec_eq h]
   exact fsp_flat [] [] [] [] [] n0 (oi_r n hn h _ rfl _ hsz hr) rfl rfl rfl (by simp) (by simp) hG rfl rfl rfl (by simp) (by simp) rfl rfl rfl
theorem oi_m(n:Nat)(h0:0<n)(hn:n<1000000000000000001)(ds:List Nat)(hsz:(dstr ds).size<1099511627776)(hrec: ∀n0,5≤n0→FT 75 #[.int .i64 (n:Int)] n0 [] (.string (dstr ds)) [] []):CT 75 #[(.int .i64 (-(n:Int)))] (mkH 5 []) (.string ((bts [45])++(dstr ds))) (mkH 5 []):=
 sF (sc:=[(8,.op (.rwB true)),(5,.op (.rwI (n:Int))),(0,.call [] (.string (dstr ds)) [] []),(0,.op (.cat ((bts [45])++(dstr ds)))),(3,.stay)]) (by kernel_rfl) (aI (dT (p:=(-(n:Int))<(0:Int))) (aI (wI64 (a:=((0:Int)-(-(n:Int)))) (r:=(n:Int))) (aI (hrec 5 (by omega)) (aI (show ((((bts [45]).size+(dstr ds).size:Nat)):Int)≤9223372036854775807∧(bts [45])++(dstr ds)=((bts [45])++(dstr ds)) from⟨by rw[show (Seg.bts [45]).size=1 from rfl];omega,rfl⟩) tt)))) (Gets.refl _)
theorem oi_i(z:Int)(n0:Nat)(hG:5≤n0)(hz:z.natAbs<1000000000000000001):FT 75 #[.int .i64 z] n0 [] (.string (istr z)) [] []:=by
 rcases int_cases z with⟨m,rfl,hm⟩|⟨m,h0,rfl,hm⟩
 ·exact oi_c m n0 hG (by omega)
 ·have hr: ∀n0,5≤n0→FT 75 #[.int .i64 ((m:Nat):Int)] n0 [] (.string (dstr (digs m))) [] []:=fun n0 hG=>by
   have:=oi_c m n0 hG (by omega)
   rw[istr_nn]at this
   exact this
  have hsz:(dstr (digs m)).size<1099511627776:=by
   rw[dstr_size]
   have h1:ndig m≤19:=ndig_lt 19 _ (by omega)
   have:=digs_len_le h1 (by decide)
   omega
  rw[istr_neg h0,←mstr_catw]
  exact fsp_flat [] [] [] [] [] n0 (oi_m m h0 (by omega) _ hsz hr) rfl rfl rfl (by simp) (by simp) hG rfl rfl rfl (by simp) (by simp) rfl rfl rfl
noncomputable section
abbrev z_cb0_0(d:Nat):Value:=nB ((UInt8.ofNat (48+d)).toNat)
abbrev z_cb0_1(ds:List Nat):List Value:=[bF,(.string (dstr ds)),(nI ((dstr ds).size)),(.string (dstr ds)),(nI ((dstr ds).size)),undef,undef,undef,undef,undef,undef,undef,undef,undef,undef,undef,undef,undef,undef,undef,undef]
abbrev z_cb0_3(ds:List Nat):AS:=⟨Frame.enter Tryz.prog 143 #[(.string (dstr ds))] .normal,[],mkH 5 []⟩
end
theorem mstr_get0(ds:List Nat):(mstr ds)[0]? =some (UInt8.ofNat 45):=by
 have h:0<(mstr ds).size:=by rw[mstr_len];omega
 rw[getElem?_pos (mstr ds) 0 h]
 rfl
theorem byte_no45{d:Nat}(h:d<10):((((UInt8.ofNat (48+d)).toNat:Nat):Int)==(45:Int))=false:=by
 rw[byte_nat h,beq_eq_false_iff_ne];omega
theorem byte_45:((((UInt8.ofNat 45).toNat:Nat):Int)==(45:Int))=true:=by decide
theorem byte_ge{d:Nat}(h:d<10):decide ((((UInt8.ofNat (48+d)).toNat:Nat):Int)<(48:Int))=false:=by
 rw[byte_nat h,decide_eq_false_iff_not];omega
theorem byte_le{d:Nat}(h:d<10):decide ((((UInt8.ofNat (48+d)).toNat:Nat):Int)>(57:Int))=false:=by
 rw[byte_nat h,decide_eq_false_iff_not];omega
theorem byte_sub{d:Nat}(h:d<10):IntKind.wrap .u8 ((((UInt8.ofNat (48+d)).toNat:Nat):Int)-(48:Int))=((d:Nat):Int):=by
 rw[byte_nat h]
 simp[IntKind.wrap,IntKind.signed,IntKind.bits]
 omega
theorem at_ne{a b:List UInt8}(i:Nat)(h:a[i]? ≠b[i]?):(!(a==b))=true:=by
 rw[Bool.not_eq_true',beq_eq_false_iff_ne]
 intro q
 exact h (by rw[q])
theorem byte_inj{d k:Nat}(h:d<10)(hk:k<256)(hne:48+d≠k):UInt8.ofNat (48+d)≠UInt8.ofNat k:=by
 intro q
 have:=congrArg UInt8.toNat q
 rw[byte_nat h,UInt8.toNat_ofNat']at this
 omega
theorem dstr_ne_m0{ds:List Nat}(hd:Dig ds)(h0:0<ds.length):(!((dstr ds).toList==(Seg.bts [45,48]).toList))=true:=by
 rw[ByteArray.toList_eq,ByteArray.toList_eq]
 cases ds with
 |nil=>simp at h0
 |cons d ds=>
  refine at_ne 0 fun q=> ?_
  have q:some (UInt8.ofNat (48+d))=some (UInt8.ofNat 45):=q
  injection q with q
  exact byte_inj (hd d (List.mem_cons_self ..)) (by decide) (by omega) q
theorem mstr_ne_m0{ds:List Nat}(hd:Dig ds)(h0:0<ds.length)(h1:ds.getD 0 0≠0):(!((mstr ds).toList==(Seg.bts [45,48]).toList))=true:=by
 rw[ByteArray.toList_eq,ByteArray.toList_eq]
 cases ds with
 |nil=>simp at h0
 |cons d ds=>
  have h1':d≠0:=h1
  refine at_ne 1 fun q=> ?_
  have q:some (UInt8.ofNat (48+d))=some (UInt8.ofNat 48):=q
  injection q with q
  exact byte_inj (hd d (List.mem_cons_self ..)) (by decide) (by omega) q
theorem ne_p(ds:List Nat)(d:Nat)(hd:d<10)(h0:0<(dstr ds).size)(hx:(dstr ds)[0]? =some (UInt8.ofNat (48+d))):CT 44 #[(.string (dstr ds))] (mkH 5 []) bF (mkH 5 []):=
 sF (sc:=[(8,.op (.rwB true)),(2,.op (.sidx (UInt8.ofNat (48+d)))),(0,.op (.rwB false)),(4,.stay)]) (by kernel_rfl) (aI (dT (p:=(((dstr ds).size:Nat):Int)>(0:Int))) (aI (show 0≤(0:Int)∧(dstr ds)[Int.toNat (0:Int)]? =some (UInt8.ofNat (48+d)) from⟨by omega,hx⟩) (aI (show ((((UInt8.ofNat (48+d)).toNat:Nat):Int)==(45:Int))=false from (byte_no45 hd)) tt))) (Gets.refl _)
theorem ne_pc(n0:Nat)(ds:List Nat)(hG:5≤n0)(hd:Dig ds)(h0:0<ds.length):FT 44 #[.string (dstr ds)] n0 [] bF [] []:=
 fsp_flat [] [] [] [] [] n0 (ne_p ds _ (hd.get 0) (by rw[dstr_size];exact h0) (dstr_get h0)) rfl rfl rfl (by simp) (by simp) hG rfl rfl rfl (by simp) (by simp) rfl rfl rfl
theorem ne_m(ds:List Nat)(h0:0<(mstr ds).size):CT 44 #[(.string (mstr ds))] (mkH 5 []) bT (mkH 5 []):=
 sF (sc:=[(8,.op (.rwB true)),(2,.op (.sidx (UInt8.ofNat 45))),(0,.op (.rwB true)),(4,.stay)]) (by kernel_rfl) (aI (dT (p:=(((mstr ds).size:Nat):Int)>(0:Int))) (aI (show 0≤(0:Int)∧(mstr ds)[Int.toNat (0:Int)]? =some (UInt8.ofNat 45) from⟨by omega,mstr_get0 ds⟩) (aI byte_45 tt))) (Gets.refl _)
theorem ne_mc(n0:Nat)(ds:List Nat)(hG:5≤n0):FT 44 #[.string (mstr ds)] n0 [] bT [] []:=
 fsp_flat [] [] [] [] [] n0 (ne_m ds (by rw[mstr_len];omega)) rfl rfl rfl (by simp) (by simp) hG rfl rfl rfl (by simp) (by simp) rfl rfl rfl
theorem ab_p(ds:List Nat)(hd:Dig ds)(h0:0<ds.length):CT 43 #[(.string (dstr ds))] (mkH 5 []) (.string (dstr ds)) (mkH 5 []):=
 sF (sc:=[(8,.call [] bF [] []),(9,.stay)]) (by kernel_rfl) (aI (ne_pc 5 ds (by omega) hd h0) tt) (Gets.refl _)
theorem ab_m(ds:List Nat)(hs:(mstr ds).size=ds.length+1):CT 43 #[(.string (mstr ds))] (mkH 5 []) (.string (dstr ds)) (mkH 5 []):=
 sF (sc:=[(8,.call [] bT [] []),(5,.op (.sslc (dstr ds))),(3,.stay)]) (by kernel_rfl) (aI (ne_mc 5 ds (by omega)) (aI (show 0≤(1:Int)∧(1:Int)≤(((mstr ds).size:Nat):Int)∧(((mstr ds).size:Nat):Int)≤(((mstr ds).size:Nat):Int)∧(mstr ds).extract (Int.toNat (1:Int)) (Int.toNat (((mstr ds).size:Nat):Int))=(dstr ds) from⟨by omega,by omega,by omega,mstr_rest ds _ hs⟩) tt)) (Gets.refl _)
theorem ab_pc(n0:Nat)(ds:List Nat)(hG:5≤n0)(hd:Dig ds)(h0:0<ds.length):FT 43 #[.string (dstr ds)] n0 [] (.string (dstr ds)) [] []:=
 fsp_flat [] [] [] [] [] n0 (ab_p ds hd h0) rfl rfl rfl (by simp) (by simp) hG rfl rfl rfl (by simp) (by simp) rfl rfl rfl
theorem ab_mc(n0:Nat)(ds:List Nat)(hG:5≤n0):FT 43 #[.string (mstr ds)] n0 [] (.string (dstr ds)) [] []:=
 fsp_flat [] [] [] [] [] n0 (ab_m ds (mstr_len ds)) rfl rfl rfl (by simp) (by simp) hG rfl rfl rfl (by simp) (by simp) rfl rfl rfl
noncomputable def rdg_h_f(ds:List Nat)(i:Nat)(jc:List Value)(j:List Value):Frame:=⟨143,List.toArray [(.string (dstr ds)),uu,(J j 0),(nI i),(J j 1),(J j 2),bF,bF,(J j 3),(J j 4),(J jc 0),(J jc 1),(J jc 2),(J jc 3),(J jc 4),bF,bF,(J j 5),(J j 6),(J j 7),(J j 8),(J j 9),(J j 10),(J j 11),(J j 12),(J j 13),(J j 14),(J j 15),(J j 16),(J j 17),(J j 18),(J j 19),(J j 20)],[.code (cd Tryz.f143 [1,1,0,1,0,0]),.inLoop (cd Tryz.f143 [1,1,0,1,0,0]),.inBlock 0,.code (cd Tryz.f143 [1,1,1])],[],.run,.normal,none⟩
noncomputable def rdg_h_o(ds:List Nat)(i:Nat)(jc:List Value):List (Nat×AObj):=[]
noncomputable def rdg_h(ds:List Nat)(i:Nat)(jc:List Value)(j:List Value):AS:=⟨rdg_h_f ds i jc j,[],mkH 5 (rdg_h_o ds i jc)⟩
theorem rdg_in1(ds:List Nat)(h0:0<(dstr ds).size)(h1: ¬(dstr ds).size>1):GT (z_cb0_3 ds) (rdg_h ds 0 ([bF,bF,undef,undef,undef]) (z_cb0_1 ds)):=
 sR (sc:=[(9,.op (.rwB false)),(3,.op (.rwB false)),(16,.stay)]) (by kernel_rfl) (aI (eF (a:=(((dstr ds).size:Nat):Int)) (b:=(0:Int))) (aI (dF (p:=(((dstr ds).size:Nat):Int)>(1:Int))) tt))
theorem rdg_in2(ds:List Nat)(h0:0<(dstr ds).size)(h1:(dstr ds).size>1)(d:Nat)(hd0:d<10)(hd1:d≠0)(hx:(dstr ds)[0]? =some (UInt8.ofNat (48+d))):GT (z_cb0_3 ds) (rdg_h ds 0 ([bT,bT,(.string (dstr ds)),(z_cb0_0 d),bF]) (z_cb0_1 ds)):=
 sR (sc:=[(9,.op (.rwB false)),(3,.op (.rwB true)),(2,.op (.sidx (UInt8.ofNat (48+d)))),(0,.op (.rwB false)),(12,.stay)]) (by kernel_rfl) (aI (eF (a:=(((dstr ds).size:Nat):Int)) (b:=(0:Int))) (aI (dT (p:=(((dstr ds).size:Nat):Int)>(1:Int))) (aI (show 0≤(0:Int)∧(dstr ds)[Int.toNat (0:Int)]? =some (UInt8.ofNat (48+d)) from⟨by omega,hx⟩) (aI (show ((((UInt8.ofNat (48+d)).toNat:Nat):Int)==(48:Int))=false from (byte_ne hd0 hd1)) tt))))
theorem rdg_r(ds:List Nat)(i d:Nat)(j jc:List Value)(hd:d<10)(hi:i<(dstr ds).size)(hm:(dstr ds).size<1099511627776)(hx:(dstr ds)[i]? =some (UInt8.ofNat (48+d))):GT (rdg_h ds i jc j) (rdg_h ds (i+1) ([(J jc 0),(J jc 1),(J jc 2),(J jc 3),(J jc 4)]) [(J j 0),(J j 1),(J j 2),(J j 3),(J j 4),(nI i),(.string (dstr ds)),(nI ((dstr ds).size)),bT,(nI i),(nI (i+1)),(.string (dstr ds)),(nI i),(z_cb0_0 d),bF,bF,(.string (dstr ds)),(nI i),(z_cb0_0 d),bF,bF]):=
 sR (sc:=[(6,.op (.rwB true)),(9,.op (.sidx (UInt8.ofNat (48+d)))),(0,.op (.rwB false)),(3,.op (.sidx (UInt8.ofNat (48+d)))),(0,.op (.rwB false)),(7,.op (.rwI (((i+1):Nat):Int))),(3,.stay)]) (by kernel_rfl) (aI (dT (p:=(i:Int)<(((dstr ds).size:Nat):Int))) (aI (show 0≤(i:Int)∧(dstr ds)[Int.toNat (i:Int)]? =some (UInt8.ofNat (48+d)) from⟨by omega,hx⟩) (aI (show decide ((((UInt8.ofNat (48+d)).toNat:Nat):Int)<(48:Int))=false from (byte_ge hd)) (aI (show 0≤(i:Int)∧(dstr ds)[Int.toNat (i:Int)]? =some (UInt8.ofNat (48+d)) from⟨by omega,hx⟩) (aI (show decide ((((UInt8.ofNat (48+d)).toNat:Nat):Int)>(57:Int))=false from (byte_le hd)) (aI (wI64 (a:=((i:Int)+(1:Int))) (r:=(((i+1):Nat):Int))) tt))))))
theorem rdg_o(ds:List Nat)(i:Nat)(j jc:List Value)(hi:(dstr ds).size≤i)(hr:GT (z_cb0_3 ds) (rdg_h ds i jc j)):CT 143 #[(.string (dstr ds))] (mkH 5 []) bT (mkH 5 []):=
 sF (sc:=[(6,.op (.rwB false)),(8,.stay)]) (by kernel_rfl) (aI (dF (p:=(i:Int)<(((dstr ds).size:Nat):Int))) tt) hr
theorem rdg_loop{ds:List Nat}(hd:Dig ds)(hm:ds.length<1099511627776): ∀(k i:Nat) (j jc:List Value),k=ds.length-i→i≤ds.length→GT ⟨Frame.enter Tryz.prog 143 #[(.string (dstr ds))] .normal,[],mkH 5 []⟩ (rdg_h ds i jc j)→CT 143 #[(.string (dstr ds))] (mkH 5 []) bT (mkH 5 []):=by
 intro k
 induction k with
 |zero=>
  intro i j jc hk hi hr
  exact rdg_o ds i j jc (by rw[dstr_size];omega) hr
 |succ k ih=>
  intro i j jc hk hi hr
  exact ih (i+1) _ _ (by omega) (by omega) (hr.trans (rdg_r ds i _ j jc (hd.get i) (by rw[dstr_size];omega) (by rw[dstr_size];exact hm) (dstr_get (by omega))))
theorem rdg_c1(n0:Nat)(ds:List Nat)(hG:5≤n0)(hd:Dig ds)(h0:0<ds.length)(hm:ds.length<1099511627776)(hh:1<ds.length→ds.getD 0 0≠0):FT 143 #[.string (dstr ds)] n0 [] bT [] []:=by
 by_cases h1:1<ds.length
 ·exact fsp_flat [] [] [] [] [] n0 (rdg_loop hd hm _ 0 _ _ rfl (Nat.zero_le _) (rdg_in2 ds (by rw[dstr_size];exact h0) (by rw[dstr_size];exact h1) _ (hd.get 0) (hh h1) (dstr_get h0))) rfl rfl rfl (by simp) (by simp) hG rfl rfl rfl (by simp) (by simp) rfl rfl rfl
 ·exact fsp_flat [] [] [] [] [] n0 (rdg_loop hd hm _ 0 _ _ rfl (Nat.zero_le _) (rdg_in1 ds (by rw[dstr_size];exact h0) (by rw[dstr_size];exact h1))) rfl rfl rfl (by simp) (by simp) hG rfl rfl rfl (by simp) (by simp) rfl rfl rfl
theorem fo_p(ds:List Nat)(hd:Dig ds)(h0:0<ds.length)(hm:ds.length<1099511627776)(hh:1<ds.length→ds.getD 0 0≠0):CT 104 #[(.string (dstr ds))] (mkH 5 []) bT (mkH 5 []):=
 sF (sc:=[(7,.call [] (.string (dstr ds)) [] []),(0,.call [] bT [] []),(2,.op (.rwB true)),(4,.stay)]) (by kernel_rfl) (aI (ab_pc 5 ds (by omega) hd h0) (aI (rdg_c1 5 ds (by omega) hd h0 hm hh) (aI (show (!((dstr ds).toList==(bts [45,48]).toList))=true from (dstr_ne_m0 hd h0)) tt))) (Gets.refl _)
theorem fo_pc(n0:Nat)(ds:List Nat)(hG:5≤n0)(hd:Dig ds)(h0:0<ds.length)(hm:ds.length<1099511627776)(hh:1<ds.length→ds.getD 0 0≠0):FT 104 #[(.string (dstr ds))] n0 [] bT [] []:=
 fsp_flat [] [] [] [] [] n0 (fo_p ds hd h0 hm hh) rfl rfl rfl (by simp) (by simp) hG rfl rfl rfl (by simp) (by simp) rfl rfl rfl
theorem fo_m(ds:List Nat)(hd:Dig ds)(h0:0<ds.length)(hm:ds.length<1099511627776)(hh:1<ds.length→ds.getD 0 0≠0)(h1:ds.getD 0 0≠0):CT 104 #[(.string (mstr ds))] (mkH 5 []) bT (mkH 5 []):=
 sF (sc:=[(7,.call [] (.string (dstr ds)) [] []),(0,.call [] bT [] []),(2,.op (.rwB true)),(4,.stay)]) (by kernel_rfl) (aI (ab_mc 5 ds (by omega)) (aI (rdg_c1 5 ds (by omega) hd h0 hm hh) (aI (show (!((mstr ds).toList==(bts [45,48]).toList))=true from (mstr_ne_m0 hd h0 h1)) tt))) (Gets.refl _)
theorem fo_mc(n0:Nat)(ds:List Nat)(hG:5≤n0)(hd:Dig ds)(h0:0<ds.length)(hm:ds.length<1099511627776)(hh:1<ds.length→ds.getD 0 0≠0)(h1:ds.getD 0 0≠0):FT 104 #[(.string (mstr ds))] n0 [] bT [] []:=
 fsp_flat [] [] [] [] [] n0 (fo_m ds hd h0 hm hh h1) rfl rfl rfl (by simp) (by simp) hG rfl rfl rfl (by simp) (by simp) rfl rfl rfl
noncomputable def tip_h_f(ds:List Nat)(l i:Nat)(j:List Value):Frame:=⟨52,List.toArray [(.string (dstr ds)),uu,(lI 0),bF,(.string (dstr ds)),(nI l),(nI i),(.string (dstr ds)),(.string (dstr ds)),(.string (dstr ds)),bT,bF,bF,(.string (dstr ds)),(J j 0),bF,bF,(J j 1),(J j 2),(J j 3),(J j 4),(J j 5),(J j 6),(J j 7),(J j 8),(J j 9),(J j 10),(J j 11),(J j 12),(J j 13),(J j 14),uu,uu,uu,uu,uu],[.code (cd Tryz.f52 [1,1,1,1,0,1,0,0]),.inLoop (cd Tryz.f52 [1,1,1,1,0,1,0,0]),.inBlock 0,.code (cd Tryz.f52 [1,1,1,1,1])],[],.run,.normal,none⟩
noncomputable def tip_h_o(ds:List Nat)(l i:Nat):List (Nat×AObj):=[]
noncomputable def tip_h(ds:List Nat)(l i:Nat)(j:List Value):AS:=⟨tip_h_f ds l i j,[],mkH 5 (tip_h_o ds l i)⟩
theorem tip_in(ds:List Nat)(hd:Dig ds)(h0:0<ds.length)(hm:ds.length≤15)(hh:1<ds.length→ds.getD 0 0≠0)(hs:(dstr ds).size=ds.length):GT ⟨Frame.enter Tryz.prog 52 #[(.string (dstr ds))] .normal,[],mkH 5 []⟩ (tip_h ds 0 0 [(nI ((dstr ds).size)),undef,undef,undef,undef,undef,undef,undef,undef,undef,undef,undef,undef,undef,undef]):=
 sR (sc:=[(8,.call [] (.string (dstr ds)) [] []),(6,.call [] bT [] []),(4,.op (.rwB false)),(15,.stay)]) (by kernel_rfl) (aI (ab_pc 5 ds (by omega) hd h0) (aI (fo_pc 5 ds (by omega) hd h0 (by omega) hh) (aI (dF (p:=(((dstr ds).size:Nat):Int)>(15:Int))) tt)))
theorem tip_r(ds:List Nat)(l i d:Nat)(j:List Value)(hd:d<10)(hl:l<100000000000000)(hi:i<(dstr ds).size)(hm:(dstr ds).size<1099511627776)(hx:(dstr ds)[i]? =some (UInt8.ofNat (48+d))):GT (tip_h ds l i j) (tip_h ds ((10*l)+d) (i+1) [(J j 0),(nI i),(.string (dstr ds)),(nI ((dstr ds).size)),bT,(nI i),(nI (i+1)),(nI l),(nI (10*l)),(.string (dstr ds)),(nI i),(z_cb0_0 d),(nB d),(nI d),(nI ((10*l)+d))]):=
 sR (sc:=[(6,.op (.rwB true)),(7,.op (.rwI (((10*l):Nat):Int))),(2,.op (.sidx (UInt8.ofNat (48+d)))),(0,.op (.rwI (d:Int))),(0,.op (.rwI (d:Int))),(0,.op (.rwI ((((10*l)+d):Nat):Int))),(5,.op (.rwI (((i+1):Nat):Int))),(3,.stay)]) (by kernel_rfl) (aI (dT (p:=(i:Int)<(((dstr ds).size:Nat):Int))) (aI (wI64 (a:=((10:Int)*(l:Int))) (r:=(((10*l):Nat):Int))) (aI (show 0≤(i:Int)∧(dstr ds)[Int.toNat (i:Int)]? =some (UInt8.ofNat (48+d)) from⟨by omega,hx⟩) (aI (show IntKind.wrap .u8 ((((UInt8.ofNat (48+d)).toNat:Nat):Int)-(48:Int))=(d:Int) from (byte_sub hd)) (aI (wI64 (a:=(d:Int)) (r:=(d:Int))) (aI (wI64 (a:=((((10*l):Nat):Int)+(d:Int))) (r:=((((10*l)+d):Nat):Int))) (aI (wI64 (a:=((i:Int)+(1:Int))) (r:=(((i+1):Nat):Int))) tt)))))))
theorem tip_o(ds:List Nat)(l i:Nat)(j:List Value)(hd:Dig ds)(h0:0<ds.length)(hl:l<1000000000000000)(hi:(dstr ds).size≤i)(hr:GT ⟨Frame.enter Tryz.prog 52 #[(.string (dstr ds))] .normal,[],mkH 5 []⟩ (tip_h ds l i j)):CT 52 #[(.string (dstr ds))] (mkH 5 []) (.tuple #[(nI l),bT]) (mkH 5 []):=
 sF (sc:=[(6,.op (.rwB false)),(7,.call [] bF [] []),(10,.stay)]) (by kernel_rfl) (aI (dF (p:=(i:Int)<(((dstr ds).size:Nat):Int))) (aI (ne_pc 5 ds (by omega) hd h0) tt)) hr
theorem tip_loop{ds:List Nat}(hd:Dig ds)(h0:0<ds.length)(hL:ds.length≤15): ∀(k i:Nat) (j:List Value),k=ds.length-i→i≤ds.length→GT ⟨Frame.enter Tryz.prog 52 #[(.string (dstr ds))] .normal,[],mkH 5 []⟩ (tip_h ds (dval (ds.take i)) i j)→CT 52 #[(.string (dstr ds))] (mkH 5 []) (.tuple #[.int .i64 (((dval ds:Nat):Int)),.bool true]) (mkH 5 []):=by
 intro k
 induction k with
 |zero=>
  intro i j hk hi hr
  have hlt:dval ds<1000000000000000:=by
   have h2:=dval_lt _ hd
   have h3:10^ds.length≤10^15:=Nat.pow_le_pow_right (by decide) hL
   have h4:(10:Nat)^15=1000000000000000:=by decide
   omega
  rw[List.take_of_length_le (by omega)]at hr
  exact tip_o ds (dval ds) i j hd h0 hlt (by rw[dstr_size];omega) hr
 |succ k ih=>
  intro i j hk hi hr
  have hlt:dval (ds.take i)<100000000000000:=by
   have h2:=dval_lt _ (hd.take i)
   have h3:10^(ds.take i).length≤10^14:=Nat.pow_le_pow_right (by decide) (by rw[List.length_take];omega)
   have h4:(10:Nat)^14=100000000000000:=by decide
   omega
  have r:=tip_r ds _ i (ds.getD i 0) j (hd.get i) hlt (by rw[dstr_size];omega) (by rw[dstr_size];omega) (dstr_get (by omega))
  rw[show 10*dval (ds.take i)+ds.getD i 0=dval (ds.take (i+1)) by rw[dval_take_succ (by omega),Nat.mul_comm]]at r
  exact ih (i+1) _ (by omega) (by omega) (hr.trans r)
theorem tip_c(n0:Nat)(ds:List Nat)(hG:5≤n0)(hd:Dig ds)(h0:0<ds.length)(hm:ds.length≤15)(hh:1<ds.length→ds.getD 0 0≠0):FT 52 #[(.string (dstr ds))] n0 [] (.tuple #[.int .i64 (((dval ds:Nat):Int)),.bool true]) [] []:=
 fsp_flat [] [] [] [] [] n0 (tip_loop hd h0 hm _ 0 _ rfl (Nat.zero_le _) (tip_in ds hd h0 hm hh (dstr_size ds))) rfl rfl rfl (by simp) (by simp) hG rfl rfl rfl (by simp) (by simp) rfl rfl rfl
noncomputable def tim_h_f(ds:List Nat)(l i:Nat)(j:List Value):Frame:=⟨52,List.toArray [(.string (mstr ds)),uu,(lI 0),bF,(.string (dstr ds)),(nI l),(nI i),(.string (mstr ds)),(.string (dstr ds)),(.string (mstr ds)),bT,bF,bF,(.string (dstr ds)),(J j 0),bF,bF,(J j 1),(J j 2),(J j 3),(J j 4),(J j 5),(J j 6),(J j 7),(J j 8),(J j 9),(J j 10),(J j 11),(J j 12),(J j 13),(J j 14),uu,uu,uu,uu,uu],[.code (cd Tryz.f52 [1,1,1,1,0,1,0,0]),.inLoop (cd Tryz.f52 [1,1,1,1,0,1,0,0]),.inBlock 0,.code (cd Tryz.f52 [1,1,1,1,1])],[],.run,.normal,none⟩
noncomputable def tim_h_o(ds:List Nat)(l i:Nat):List (Nat×AObj):=[]
noncomputable def tim_h(ds:List Nat)(l i:Nat)(j:List Value):AS:=⟨tim_h_f ds l i j,[],mkH 5 (tim_h_o ds l i)⟩
theorem tim_in(ds:List Nat)(hd:Dig ds)(h0:0<ds.length)(hm:ds.length≤15)(hh:1<ds.length→ds.getD 0 0≠0)(h1:ds.getD 0 0≠0)(hs:(dstr ds).size=ds.length):GT ⟨Frame.enter Tryz.prog 52 #[(.string (mstr ds))] .normal,[],mkH 5 []⟩ (tim_h ds 0 0 [(nI ((dstr ds).size)),undef,undef,undef,undef,undef,undef,undef,undef,undef,undef,undef,undef,undef,undef]):=
 sR (sc:=[(8,.call [] (.string (dstr ds)) [] []),(6,.call [] bT [] []),(4,.op (.rwB false)),(15,.stay)]) (by kernel_rfl) (aI (ab_mc 5 ds (by omega)) (aI (fo_mc 5 ds (by omega) hd h0 (by omega) hh h1) (aI (dF (p:=(((dstr ds).size:Nat):Int)>(15:Int))) tt)))
theorem tim_r(ds:List Nat)(l i d:Nat)(j:List Value)(hd:d<10)(hl:l<100000000000000)(hi:i<(dstr ds).size)(hm:(dstr ds).size<1099511627776)(hx:(dstr ds)[i]? =some (UInt8.ofNat (48+d))):GT (tim_h ds l i j) (tim_h ds ((10*l)+d) (i+1) [(J j 0),(nI i),(.string (dstr ds)),(nI ((dstr ds).size)),bT,(nI i),(nI (i+1)),(nI l),(nI (10*l)),(.string (dstr ds)),(nI i),(z_cb0_0 d),(nB d),(nI d),(nI ((10*l)+d))]):=
 sR (sc:=[(6,.op (.rwB true)),(7,.op (.rwI (((10*l):Nat):Int))),(2,.op (.sidx (UInt8.ofNat (48+d)))),(0,.op (.rwI (d:Int))),(0,.op (.rwI (d:Int))),(0,.op (.rwI ((((10*l)+d):Nat):Int))),(5,.op (.rwI (((i+1):Nat):Int))),(3,.stay)]) (by kernel_rfl) (aI (dT (p:=(i:Int)<(((dstr ds).size:Nat):Int))) (aI (wI64 (a:=((10:Int)*(l:Int))) (r:=(((10*l):Nat):Int))) (aI (show 0≤(i:Int)∧(dstr ds)[Int.toNat (i:Int)]? =some (UInt8.ofNat (48+d)) from⟨by omega,hx⟩) (aI (show IntKind.wrap .u8 ((((UInt8.ofNat (48+d)).toNat:Nat):Int)-(48:Int))=(d:Int) from (byte_sub hd)) (aI (wI64 (a:=(d:Int)) (r:=(d:Int))) (aI (wI64 (a:=((((10*l):Nat):Int)+(d:Int))) (r:=((((10*l)+d):Nat):Int))) (aI (wI64 (a:=((i:Int)+(1:Int))) (r:=(((i+1):Nat):Int))) tt)))))))
theorem tim_o(ds:List Nat)(l i:Nat)(j:List Value)(hd:Dig ds)(h0:0<ds.length)(hl:l<1000000000000000)(hi:(dstr ds).size≤i)(hr:GT ⟨Frame.enter Tryz.prog 52 #[(.string (mstr ds))] .normal,[],mkH 5 []⟩ (tim_h ds l i j)):CT 52 #[(.string (mstr ds))] (mkH 5 []) (.tuple #[(.int .i64 (-(l:Int))),bT]) (mkH 5 []):=
 sF (sc:=[(6,.op (.rwB false)),(7,.call [] bT [] []),(4,.op (.rwI (-(l:Int)))),(9,.stay)]) (by kernel_rfl) (aI (dF (p:=(i:Int)<(((dstr ds).size:Nat):Int))) (aI (ne_mc 5 ds (by omega)) (aI (wI64 (a:=((0:Int)-(l:Int))) (r:=(-(l:Int)))) tt))) hr
theorem tim_loop{ds:List Nat}(hd:Dig ds)(h0:0<ds.length)(hL:ds.length≤15): ∀(k i:Nat) (j:List Value),k=ds.length-i→i≤ds.length→GT ⟨Frame.enter Tryz.prog 52 #[(.string (mstr ds))] .normal,[],mkH 5 []⟩ (tim_h ds (dval (ds.take i)) i j)→CT 52 #[(.string (mstr ds))] (mkH 5 []) (.tuple #[.int .i64 (-((dval ds:Nat):Int)),.bool true]) (mkH 5 []):=by
 intro k
 induction k with
 |zero=>
  intro i j hk hi hr
  have hlt:dval ds<1000000000000000:=by
   have h2:=dval_lt _ hd
   have h3:10^ds.length≤10^15:=Nat.pow_le_pow_right (by decide) hL
   have h4:(10:Nat)^15=1000000000000000:=by decide
   omega
  rw[List.take_of_length_le (by omega)]at hr
  exact tim_o ds (dval ds) i j hd h0 hlt (by rw[dstr_size];omega) hr
 |succ k ih=>
  intro i j hk hi hr
  have hlt:dval (ds.take i)<100000000000000:=by
   have h2:=dval_lt _ (hd.take i)
   have h3:10^(ds.take i).length≤10^14:=Nat.pow_le_pow_right (by decide) (by rw[List.length_take];omega)
   have h4:(10:Nat)^14=100000000000000:=by decide
   omega
  have r:=tim_r ds _ i (ds.getD i 0) j (hd.get i) hlt (by rw[dstr_size];omega) (by rw[dstr_size];omega) (dstr_get (by omega))
  rw[show 10*dval (ds.take i)+ds.getD i 0=dval (ds.take (i+1)) by rw[dval_take_succ (by omega),Nat.mul_comm]]at r
  exact ih (i+1) _ (by omega) (by omega) (hr.trans r)
theorem tim_c(n0:Nat)(ds:List Nat)(hG:5≤n0)(hd:Dig ds)(h0:0<ds.length)(hm:ds.length≤15)(hh:1<ds.length→ds.getD 0 0≠0)(h1:ds.getD 0 0≠0):FT 52 #[(.string (mstr ds))] n0 [] (.tuple #[.int .i64 (-((dval ds:Nat):Int)),.bool true]) [] []:=
 fsp_flat [] [] [] [] [] n0 (tim_loop hd h0 hm _ 0 _ rfl (Nat.zero_le _) (tim_in ds hd h0 hm hh h1 (dstr_size ds))) rfl rfl rfl (by simp) (by simp) hG rfl rfl rfl (by simp) (by simp) rfl rfl rfl
theorem ti_i(z:Int)(n0:Nat)(hG:5≤n0)(hz:(digs z.natAbs).length≤15):FT 52 #[.string (istr z)] n0 [] (.tuple #[.int .i64 z,.bool true]) [] []:=by
 rcases int_cases z with⟨m,rfl,hm⟩|⟨m,h0,rfl,hm⟩
 ·rw[istr_nn]
  rw[hm]at hz
  have h:=tip_c n0 (digs m) hG (digs_dig m) (digs_len_pos m) hz (fun h=>digs_head m (by
   rcases Nat.eq_zero_or_pos m with q|q
   ·rw[q,digs_zero]at h;exact absurd h (by decide)
   ·exact q))
  rw[digs_val]at h
  exact h
 ·rw[istr_neg h0]
  rw[hm]at hz
  have h:=tim_c n0 (digs m) hG (digs_dig m) (digs_len_pos m) hz (fun _=>digs_head m h0) (digs_head m h0)
  rw[digs_val]at h
  exact h
noncomputable section
abbrev z_450_0(xs:List Nat):List (Nat×AObj):=[(5,(.cells (ns .i64 xs) 3 (some 1) false))]
abbrev z_450_1(xs:List Nat):List (Nat×AObj):=[(5,(.cells (ns .i64 xs) 3 none false))]
abbrev z_450_2(i a:Nat):List Value:=[(sl 5 i 0),(nI i),bT,bT,(sl 5 i 0),(sl 5 i 0),(nI i),(nI (i-1)),(.pointer (some ⟨5,(i-1),none⟩)),(nI a),bT,bT,(sl 5 i 0),(sl 5 i 0),(nI i),(nI (i-1)),(sl 5 (i-1) 0)]
abbrev z_450_3(i c a:Nat):List Value:=[(sl 5 i c),(nI i),bT,bT,(sl 5 i c),(sl 5 i c),(nI i),(nI (i-1)),(.pointer (some ⟨5,(i-1),none⟩)),(nI a),bT,bT,(sl 5 i c),(sl 5 i c),(nI i),(nI (i-1)),(sl 5 (i-1) c)]
abbrev z_450_4:List Value:=[undef,undef,undef,undef,undef,undef,undef,undef,undef,undef,undef,undef,undef,undef,undef,undef,undef]
end
theorem ns_snoc(k:IntKind)(xs:List Nat)(v:Nat):ns k xs++[.int k ((v:Nat):Int)]=ns k (xs++[v]):=by simp[ns]
theorem pred_wrap{i:Nat}(h:0<i)(hm:i<1099511627776):IntKind.wrap .i64 (((i:Nat):Int)-(1:Int))=(((i-1):Nat):Int):=by
 rw[wrap_i64 (by omega) (by omega)];omega
noncomputable def rt_h_f(xs:List Nat)(n:Nat)(i:Nat)(j:List Value):Frame:=⟨133,List.toArray [(sl 5 i 0),uu,(.slice none 0 0),(J j 0),(J j 1),(J j 2),(J j 3),(J j 4),(J j 5),(J j 6),(J j 7),(J j 8),(J j 9),(J j 10),(J j 11),(J j 12),(J j 13),(J j 14),(J j 15),(J j 16),uu],[.code (cd Tryz.f133 [1,0,0,0]),.inLoop (cd Tryz.f133 [1,0,0,0]),.inBlock 0,.code (cd Tryz.f133 [1,1])],[],.run,.normal,none⟩
noncomputable def rt_h_o(xs:List Nat)(n:Nat)(i:Nat):List (Nat×AObj):=(z_450_0 xs)
noncomputable def rt_h(xs:List Nat)(n:Nat)(i:Nat)(j:List Value):AS:=⟨rt_h_f xs n i j,[],mkH 6 (rt_h_o xs n i)⟩
theorem rt_in(xs:List Nat)(n:Nat):GT ⟨Frame.enter Tryz.prog 133 #[(sl 5 n 0)] .normal,[],mkH 6 (z_450_0 xs)⟩ (rt_h xs n n z_450_4):=
 sR (sc:=[(7,.stay)]) (by kernel_rfl) tt
theorem rt_r(xs:List Nat)(n:Nat)(i a:Nat)(j:List Value)(h0:0<i)(hi:i≤n)(hc:n≤xs.length)(hm:n<1099511627776)(hx:(ns .i64 xs)[i-1]? =some (nI a))(ha:a=0):GT (rt_h xs n i j) (rt_h xs n (i-1) (z_450_2 i a)):=
 sR (sc:=[(5,.op (.rwB true)),(4,.op (.rwI (((i-1):Nat):Int))),(0,.op (.idx (i-1))),(0,.op (.ld (nI a))),(0,.op (.rwB true)),(9,.op (.rwI (((i-1):Nat):Int))),(0,.op (.slo (i-1))),(4,.stay)]) (by kernel_rfl) (aI (dT (p:=(i:Int)>(0:Int))) (aI (show IntKind.wrap .i64 ((i:Int)-(1:Int))=(((i-1):Nat):Int) from (pred_wrap h0 (by omega))) (aI (ix (((i-1):Nat):Int) (i:Int) 0 1 (i-1)) (aI hx (aI (show ((a:Int)==(0:Int))=true from (by rw[beq_iff_eq];omega)) (aI (show IntKind.wrap .i64 ((i:Int)-(1:Int))=(((i-1):Nat):Int) from (pred_wrap h0 (by omega))) (aI (show 0≤(((i-1):Nat):Int)∧Int.toNat (((i-1):Nat):Int)*1≤((ns .i64 xs):List Value).length∧Int.toNat (((i-1):Nat):Int)=(i-1) from⟨by omega,by rw[ns_length];omega,by omega⟩) tt)))))))
theorem rt_o1(xs:List Nat)(n:Nat)(i a:Nat)(j:List Value)(h0:0<i)(hi:i≤n)(hc:n≤xs.length)(hm:n<1099511627776)(hx:(ns .i64 xs)[i-1]? =some (nI a))(ha:a≠0)(hr:GT ⟨Frame.enter Tryz.prog 133 #[(sl 5 n 0)] .normal,[],mkH 6 (z_450_0 xs)⟩ (rt_h xs n i j)):CT 133 #[(sl 5 n 0)] (mkH 6 (z_450_0 xs)) (sl 5 i 0) (mkH 6 (z_450_0 xs)):=
 sF (sc:=[(5,.op (.rwB true)),(4,.op (.rwI (((i-1):Nat):Int))),(0,.op (.idx (i-1))),(0,.op (.ld (nI a))),(0,.op (.rwB false)),(10,.stay)]) (by kernel_rfl) (aI (dT (p:=(i:Int)>(0:Int))) (aI (show IntKind.wrap .i64 ((i:Int)-(1:Int))=(((i-1):Nat):Int) from (pred_wrap h0 (by omega))) (aI (ix (((i-1):Nat):Int) (i:Int) 0 1 (i-1)) (aI hx (aI (show ((a:Int)==(0:Int))=false from (by rw[beq_eq_false_iff_ne];omega)) tt))))) hr
theorem rt_o2(xs:List Nat)(n:Nat)(i:Nat)(j:List Value)(h0:i=0)(hr:GT ⟨Frame.enter Tryz.prog 133 #[(sl 5 n 0)] .normal,[],mkH 6 (z_450_0 xs)⟩ (rt_h xs n i j)):CT 133 #[(sl 5 n 0)] (mkH 6 (z_450_0 xs)) (sl 5 i 0) (mkH 6 (z_450_0 xs)):=
 sF (sc:=[(5,.op (.rwB false)),(18,.stay)]) (by kernel_rfl) (aI (dF (p:=(i:Int)>(0:Int))) tt) hr
theorem rt_loop{n:Nat}{xs:List Nat}(hc:n≤xs.length)(hm:n<1099511627776): ∀(i:Nat) (j:List Value),i≤n→F.top xs i=F.top xs n→
  GT ⟨Frame.enter Tryz.prog 133 #[(sl 5 n 0)] .normal,[],mkH 6 [(5,(.cells (ns .i64 xs) 3 (some 1) false))]⟩ (rt_h xs n i j)→CT 133 #[(sl 5 n 0)] (mkH 6 [(5,(.cells (ns .i64 xs) 3 (some 1) false))]) (sl 5 (F.top xs n) 0) (mkH 6 [(5,(.cells (ns .i64 xs) 3 (some 1) false))]):=by
 intro i
 induction i with
 |zero=>
  intro j _ ht hr
  have:=rt_o2 xs n 0 j rfl hr
  rw[←ht]
  exact this
 |succ i ih=>
  intro j hi ht hr
  by_cases ha:xs.getD i 0=0
  ·have r:=rt_r xs n (i+1) (xs.getD i 0) j (by omega) hi hc hm (ns_get) ha
   exact ih _ (by omega) (by rw[←ht,F.top_zero ha]) (hr.trans r)
  ·have:=rt_o1 xs n (i+1) (xs.getD i 0) j (by omega) hi hc hm (ns_get) ha hr
   rw[←ht,F.top_some ha]
   exact this
theorem rt_c(n0 b:Nat)(xs:List Nat)(n:Nat)(hb:5≤b∧b<n0)(hc:n≤xs.length)(hm:n<1099511627776):
  FT 133 #[sl b n 0] n0 [(b,.cells (ns .i64 xs) 3 (some 1) false)] (sl b (F.top xs n) 0) [(b,some (.cells (ns .i64 xs) 3 (some 1) false))] []:=
 fsp_flat [b] [.cells (ns .i64 xs) 3 (some 1) false] [.cells (ns .i64 xs) 3 (some 1) false] [] [] n0 (rt_loop hc hm n _ (Nat.le_refl _) rfl (rt_in xs n)) rfl rfl rfl (by simp) (by simp;omega) (by omega) (by simp[flat,ns_closed]) (by simp[flat,ns_closed]) rfl (by simp) (by simp) rfl rfl rfl
noncomputable def rs_h_f(xs:List Nat)(n c:Nat)(i:Nat)(j:List Value):Frame:=⟨133,List.toArray [(sl 5 i c),uu,(.slice none 0 0),(J j 0),(J j 1),(J j 2),(J j 3),(J j 4),(J j 5),(J j 6),(J j 7),(J j 8),(J j 9),(J j 10),(J j 11),(J j 12),(J j 13),(J j 14),(J j 15),(J j 16),uu],[.code (cd Tryz.f133 [1,0,0,0]),.inLoop (cd Tryz.f133 [1,0,0,0]),.inBlock 0,.code (cd Tryz.f133 [1,1])],[],.run,.normal,none⟩
noncomputable def rs_h_o(xs:List Nat)(n c:Nat)(i:Nat):List (Nat×AObj):=(z_450_1 xs)
noncomputable def rs_h(xs:List Nat)(n c:Nat)(i:Nat)(j:List Value):AS:=⟨rs_h_f xs n c i j,[],mkH 6 (rs_h_o xs n c i)⟩
theorem rs_in(xs:List Nat)(n c:Nat):GT ⟨Frame.enter Tryz.prog 133 #[(sl 5 n c)] .normal,[],mkH 6 (z_450_1 xs)⟩ (rs_h xs n c n z_450_4):=
 sR (sc:=[(7,.stay)]) (by kernel_rfl) tt
theorem rs_r(xs:List Nat)(n c:Nat)(i a:Nat)(j:List Value)(h0:0<i)(hi:i≤n)(hc:n≤xs.length)(hm:n<1099511627776)(hx:(ns .i64 xs)[i-1]? =some (nI a))(hnc:n≤c)(ha:a=0):GT (rs_h xs n c i j) (rs_h xs n c (i-1) (z_450_3 i c a)):=
 sR (sc:=[(5,.op (.rwB true)),(4,.op (.rwI (((i-1):Nat):Int))),(0,.op (.idx (i-1))),(0,.op (.ld (nI a))),(0,.op (.rwB true)),(9,.op (.rwI (((i-1):Nat):Int))),(0,.op (.slc 0 (i-1) c)),(4,.stay)]) (by kernel_rfl) (aI (dT (p:=(i:Int)>(0:Int))) (aI (show IntKind.wrap .i64 ((i:Int)-(1:Int))=(((i-1):Nat):Int) from (pred_wrap h0 (by omega))) (aI (ix (((i-1):Nat):Int) (i:Int) 0 1 (i-1)) (aI hx (aI (show ((a:Int)==(0:Int))=true from (by rw[beq_iff_eq];omega)) (aI (show IntKind.wrap .i64 ((i:Int)-(1:Int))=(((i-1):Nat):Int) from (pred_wrap h0 (by omega))) (aI (show 0≤(0:Int)∧(0:Int)≤(((i-1):Nat):Int)∧(((i-1):Nat):Int)≤(c:Int)∧(if c=Int.toNat (0:Int) then 0 else 0+Int.toNat (0:Int)*1)=0∧Int.toNat ((((i-1):Nat):Int)-(0:Int))=(i-1)∧c-Int.toNat (0:Int)=c from (by repeat (first|omega|(split<;>omega)|constructor))) tt)))))))
theorem rs_o1(xs:List Nat)(n c:Nat)(i a:Nat)(j:List Value)(h0:0<i)(hi:i≤n)(hc:n≤xs.length)(hm:n<1099511627776)(hx:(ns .i64 xs)[i-1]? =some (nI a))(hnc:n≤c)(ha:a≠0)(hr:GT ⟨Frame.enter Tryz.prog 133 #[(sl 5 n c)] .normal,[],mkH 6 (z_450_1 xs)⟩ (rs_h xs n c i j)):CT 133 #[(sl 5 n c)] (mkH 6 (z_450_1 xs)) (sl 5 i c) (mkH 6 (z_450_1 xs)):=
 sF (sc:=[(5,.op (.rwB true)),(4,.op (.rwI (((i-1):Nat):Int))),(0,.op (.idx (i-1))),(0,.op (.ld (nI a))),(0,.op (.rwB false)),(10,.stay)]) (by kernel_rfl) (aI (dT (p:=(i:Int)>(0:Int))) (aI (show IntKind.wrap .i64 ((i:Int)-(1:Int))=(((i-1):Nat):Int) from (pred_wrap h0 (by omega))) (aI (ix (((i-1):Nat):Int) (i:Int) 0 1 (i-1)) (aI hx (aI (show ((a:Int)==(0:Int))=false from (by rw[beq_eq_false_iff_ne];omega)) tt))))) hr
theorem rs_o2(xs:List Nat)(n c:Nat)(i:Nat)(j:List Value)(h0:i=0)(hr:GT ⟨Frame.enter Tryz.prog 133 #[(sl 5 n c)] .normal,[],mkH 6 (z_450_1 xs)⟩ (rs_h xs n c i j)):CT 133 #[(sl 5 n c)] (mkH 6 (z_450_1 xs)) (sl 5 i c) (mkH 6 (z_450_1 xs)):=
 sF (sc:=[(5,.op (.rwB false)),(18,.stay)]) (by kernel_rfl) (aI (dF (p:=(i:Int)>(0:Int))) tt) hr
theorem rs_loop{n c:Nat}{xs:List Nat}(hc:n≤xs.length)(hm:n<1099511627776)(hnc:n≤c): ∀(i:Nat) (j:List Value),i≤n→F.top xs i=F.top xs n→
  GT ⟨Frame.enter Tryz.prog 133 #[(sl 5 n c)] .normal,[],mkH 6 [(5,(.cells (ns .i64 xs) 3 none false))]⟩ (rs_h xs n c i j)→CT 133 #[(sl 5 n c)] (mkH 6 [(5,(.cells (ns .i64 xs) 3 none false))]) (sl 5 (F.top xs n) c) (mkH 6 [(5,(.cells (ns .i64 xs) 3 none false))]):=by
 intro i
 induction i with
 |zero=>
  intro j _ ht hr
  have:=rs_o2 xs n c 0 j rfl hr
  rw[←ht]
  exact this
 |succ i ih=>
  intro j hi ht hr
  by_cases ha:xs.getD i 0=0
  ·have r:=rs_r xs n c (i+1) (xs.getD i 0) j (by omega) hi hc hm (ns_get) hnc ha
   exact ih _ (by omega) (by rw[←ht,F.top_zero ha]) (hr.trans r)
  ·have:=rs_o1 xs n c (i+1) (xs.getD i 0) j (by omega) hi hc hm (ns_get) hnc ha hr
   rw[←ht,F.top_some ha]
   exact this
theorem rs_c(n0 b:Nat)(xs:List Nat)(n c:Nat)(hb:5≤b∧b<n0)(hc:n≤xs.length)(hm:n<1099511627776)(hnc:n≤c):
  FT 133 #[sl b n c] n0 [(b,.cells (ns .i64 xs) 3 none false)] (sl b (F.top xs n) c) [(b,some (.cells (ns .i64 xs) 3 none false))] []:=
 fsp_flat [b] [.cells (ns .i64 xs) 3 none false] [.cells (ns .i64 xs) 3 none false] [] [] n0 (rs_loop hc hm hnc n _ (Nat.le_refl _) rfl (rs_in xs n c)) rfl rfl rfl (by simp) (by simp;omega) (by omega) (by simp[flat,ns_closed]) (by simp[flat,ns_closed]) rfl (by simp) (by simp) rfl rfl rfl
end Go.Proofs.YtldoiilgfcpipaaGreatDoor
