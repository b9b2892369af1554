import Derived.Test.YtldoiilgfcpipaaGreatDoorPNMul
import Derived.Test.YtldoiilgfcpipaaGreatDoorPWf
import Derived.Test.YtldoiilgfcpipaaGreatDoorPRText
import Derived.Test.YtldoiilgfcpipaaGreatDoorPRLimbs
import Derived.Test.YtldoiilgfcpipaaGreatDoorRPlus
import Derived.Test.YtldoiilgfcpipaaGreatDoorPRPlusN
import Derived.Test.YtldoiilgfcpipaaGreatDoorPUp
import Derived.Test.YtldoiilgfcpipaaGreatDoorLF
import Derived.Test.YtldoiilgfcpipaaGreatDoorPCnt
set_option linter.unusedVariables false
set_option linter.unusedSimpArgs false
set_option maxRecDepth 100000
namespace Go.Proofs.YtldoiilgfcpipaaGreatDoor
open Go Go.AE Seg
noncomputable section
abbrev z_c63_0(sx sy:Bool)(n k:Nat)(xs ys:List Nat)(q:Int):Prop:=FT 137 #[(.agg #[(.bool sx),(sl 9 n n)]),(.agg #[(.bool sy),(sl 10 k k)])] 11 [(9,(cU xs)),(10,(cU ys))] (.int .i64 q) [(9,some (cU xs)),(10,some (cU ys))] []
abbrev z_c63_1(a b:Int):Array Value:= #[(.string (istr a)),(.string (istr b))]
end
theorem wc_l(a b:Int)(hka: ∀n0,5≤n0→FT 145 #[.string (istr a)] n0 [] (lI 2) [] [])(hkb: ∀n0,5≤n0→FT 145 #[.string (istr b)] n0 [] (lI 2) [] [])(hsa: ∀n0,5≤n0→FT 109 #[.string (istr a)] n0 [] (.int .i64 a) [] [])(hsb: ∀n0,5≤n0→FT 109 #[.string (istr b)] n0 [] (.int .i64 b) [] [])(h:a<b):CT 45 (z_c63_1 a b) (mkH 5 []) (.tuple #[(.int .i64 (.negSucc 0)),(lI 0)]) (mkH 9 []):=
 sF (sc:=[(80,.call [] (lI 2) [] []),(52,.call [] (lI 2) [] []),(54,.call [] (.int .i64 a) [] []),(1,.call [] (.int .i64 b) [] []),(17,.op (.rwB false)),(18,.op (.rwB false)),(25,.op (.rwB true)),(42,.stay)]) (by kernel_rfl) (aI (hka 9 (by omega)) (aI (hkb 9 (by omega)) (aI (hsa 9 (by omega)) (aI (hsb 9 (by omega)) (aI (nF (a:=a) (b:=a)) (aI (nF (a:=b) (b:=b)) (aI (dT (p:=a<b)) tt))))))) (Gets.refl _)
theorem wc_g(a b:Int)(hka: ∀n0,5≤n0→FT 145 #[.string (istr a)] n0 [] (lI 2) [] [])(hkb: ∀n0,5≤n0→FT 145 #[.string (istr b)] n0 [] (lI 2) [] [])(hsa: ∀n0,5≤n0→FT 109 #[.string (istr a)] n0 [] (.int .i64 a) [] [])(hsb: ∀n0,5≤n0→FT 109 #[.string (istr b)] n0 [] (.int .i64 b) [] [])(h:b<a):CT 45 (z_c63_1 a b) (mkH 5 []) (.tuple #[(lI 1),(lI 0)]) (mkH 9 []):=
 sF (sc:=[(80,.call [] (lI 2) [] []),(52,.call [] (lI 2) [] []),(54,.call [] (.int .i64 a) [] []),(1,.call [] (.int .i64 b) [] []),(17,.op (.rwB false)),(18,.op (.rwB false)),(25,.op (.rwB false)),(8,.op (.rwB true)),(42,.stay)]) (by kernel_rfl) (aI (hka 9 (by omega)) (aI (hkb 9 (by omega)) (aI (hsa 9 (by omega)) (aI (hsb 9 (by omega)) (aI (nF (a:=a) (b:=a)) (aI (nF (a:=b) (b:=b)) (aI (dF (p:=a<b)) (aI (dT (p:=a>b)) tt)))))))) (Gets.refl _)
theorem wc_e(a b:Int)(hka: ∀n0,5≤n0→FT 145 #[.string (istr a)] n0 [] (lI 2) [] [])(hkb: ∀n0,5≤n0→FT 145 #[.string (istr b)] n0 [] (lI 2) [] [])(hsa: ∀n0,5≤n0→FT 109 #[.string (istr a)] n0 [] (.int .i64 a) [] [])(hsb: ∀n0,5≤n0→FT 109 #[.string (istr b)] n0 [] (.int .i64 b) [] [])(h:a=b):CT 45 (z_c63_1 a b) (mkH 5 []) (.tuple #[(lI 0),(lI 0)]) (mkH 9 []):=
 sF (sc:=[(80,.call [] (lI 2) [] []),(52,.call [] (lI 2) [] []),(54,.call [] (.int .i64 a) [] []),(1,.call [] (.int .i64 b) [] []),(17,.op (.rwB false)),(18,.op (.rwB false)),(25,.op (.rwB false)),(8,.op (.rwB false)),(43,.stay)]) (by kernel_rfl) (aI (hka 9 (by omega)) (aI (hkb 9 (by omega)) (aI (hsa 9 (by omega)) (aI (hsb 9 (by omega)) (aI (nF (a:=a) (b:=a)) (aI (nF (a:=b) (b:=b)) (aI (dF (p:=a<b)) (aI (dF (p:=a>b)) tt)))))))) (Gets.refl _)
theorem wc_23(a b:Int)(hka: ∀n0,5≤n0→FT 145 #[.string (istr a)] n0 [] (lI 2) [] [])(hkb: ∀n0,5≤n0→FT 145 #[.string (istr b)] n0 [] (lI 3) [] [])(sx:Bool)(xs:List Nat)(n:Nat)(hc1:(FT 111 #[(.string (istr a))] 9 [] (.agg #[(.bool sx),(sl 9 n n)]) [] [(cU xs)]))(sy:Bool)(ys:List Nat)(k:Nat)(hc3:(FT 111 #[(.string (istr b))] 10 [] (.agg #[(.bool sy),(sl 10 k k)]) [] [(cU ys)]))(q:Int)(hc5:(z_c63_0 sx sy n k xs ys q)):CT 45 (z_c63_1 a b) (mkH 5 []) (.tuple #[(.int .i64 q),(lI 0)]) (mkH 11 []):=
 sF (sc:=[(80,.call [] (lI 2) [] []),(52,.call [] (lI 3) [] []),(55,.call [] (.agg #[(.bool sx),(sl 9 n n)]) [] [(cU xs)]),(1,.call [] (.agg #[(.bool sy),(sl 10 k k)]) [] [(cU ys)]),(0,.call [9,10] (.int .i64 q) [(9,some (cU xs)),(10,some (cU ys))] []),(34,.stay)]) (by kernel_rfl) (aI (hka 9 (by omega)) (aI (hkb 9 (by omega)) (aI hc1 (aI hc3 (aI hc5 tt))))) (Gets.refl _)
theorem wc_32(a b:Int)(hka: ∀n0,5≤n0→FT 145 #[.string (istr a)] n0 [] (lI 3) [] [])(hkb: ∀n0,5≤n0→FT 145 #[.string (istr b)] n0 [] (lI 2) [] [])(sx:Bool)(xs:List Nat)(n:Nat)(hc1:(FT 111 #[(.string (istr a))] 9 [] (.agg #[(.bool sx),(sl 9 n n)]) [] [(cU xs)]))(sy:Bool)(ys:List Nat)(k:Nat)(hc3:(FT 111 #[(.string (istr b))] 10 [] (.agg #[(.bool sy),(sl 10 k k)]) [] [(cU ys)]))(q:Int)(hc5:(z_c63_0 sx sy n k xs ys q)):CT 45 (z_c63_1 a b) (mkH 5 []) (.tuple #[(.int .i64 q),(lI 0)]) (mkH 11 []):=
 sF (sc:=[(80,.call [] (lI 3) [] []),(52,.call [] (lI 2) [] []),(55,.call [] (.agg #[(.bool sx),(sl 9 n n)]) [] [(cU xs)]),(1,.call [] (.agg #[(.bool sy),(sl 10 k k)]) [] [(cU ys)]),(0,.call [9,10] (.int .i64 q) [(9,some (cU xs)),(10,some (cU ys))] []),(34,.stay)]) (by kernel_rfl) (aI (hka 9 (by omega)) (aI (hkb 9 (by omega)) (aI hc1 (aI hc3 (aI hc5 tt))))) (Gets.refl _)
theorem wc_33(a b:Int)(hka: ∀n0,5≤n0→FT 145 #[.string (istr a)] n0 [] (lI 3) [] [])(hkb: ∀n0,5≤n0→FT 145 #[.string (istr b)] n0 [] (lI 3) [] [])(sx:Bool)(xs:List Nat)(n:Nat)(hc1:(FT 111 #[(.string (istr a))] 9 [] (.agg #[(.bool sx),(sl 9 n n)]) [] [(cU xs)]))(sy:Bool)(ys:List Nat)(k:Nat)(hc3:(FT 111 #[(.string (istr b))] 10 [] (.agg #[(.bool sy),(sl 10 k k)]) [] [(cU ys)]))(q:Int)(hc5:(z_c63_0 sx sy n k xs ys q)):CT 45 (z_c63_1 a b) (mkH 5 []) (.tuple #[(.int .i64 q),(lI 0)]) (mkH 11 []):=
 sF (sc:=[(80,.call [] (lI 3) [] []),(52,.call [] (lI 3) [] []),(55,.call [] (.agg #[(.bool sx),(sl 9 n n)]) [] [(cU xs)]),(1,.call [] (.agg #[(.bool sy),(sl 10 k k)]) [] [(cU ys)]),(0,.call [9,10] (.int .i64 q) [(9,some (cU xs)),(10,some (cU ys))] []),(34,.stay)]) (by kernel_rfl) (aI (hka 9 (by omega)) (aI (hkb 9 (by omega)) (aI hc1 (aI hc3 (aI hc5 tt))))) (Gets.refl _)
theorem Compare_i(n0:Nat)(a b:Int)(hG:5≤n0)(ha:ndig a.natAbs≤400)(hb:ndig b.natAbs≤400):
  FT 45 #[.string (istr a),.string (istr b)] n0 [] (.tuple #[.int .i64 (cmpZ a b),.int .i64 (.ofNat 0)]) [] []:=by
 by_cases hsh:(digs a.natAbs).length≤18∧(digs b.natAbs).length≤18
 ·have ka:=fun n0 h=>kis_i n0 a h hsh.1
  have kb:=fun n0 h=>kis_i n0 b h hsh.2
  have sa:=fun n0 h=>sm_i n0 a h hsh.1
  have sb:=fun n0 h=>sm_i n0 b h hsh.2
  rcases Int.lt_trichotomy a b with h|h|h
  ·rw[cmpZ_lt h]
   exact fsp_flat [] [] [] [] [] n0 (wc_l a b ka kb sa sb h) rfl rfl rfl (by simp) (by simp) hG rfl rfl rfl (by simp) (by simp) rfl rfl rfl
  ·rw[cmpZ_eq h]
   exact fsp_flat [] [] [] [] [] n0 (wc_e a b ka kb sa sb h) rfl rfl rfl (by simp) (by simp) hG rfl rfl rfl (by simp) (by simp) rfl rfl rfl
  ·rw[cmpZ_gt h]
   exact fsp_flat [] [] [] [] [] n0 (wc_g a b ka kb sa sb h) rfl rfl rfl (by simp) (by simp) hG rfl rfl rfl (by simp) (by simp) rfl rfl rfl
 ·obtain⟨sx,xs,n,e1,e2,e3,e4,e5,e6,e7⟩:=nu_i 9 a (by omega) ha
  obtain⟨sy,ys,k,f1,f2,f3,f4,f5,f6,f7⟩:=nu_i 10 b (by omega) hb
  have T:=nc_c 11 9 10 xs ys n n k k sx sy (by omega) e1 f1 e2 f2 e3.1 f3.1 e4 f4 e5 f5
  rw[e6,f6]at T
  by_cases h1:(digs a.natAbs).length≤18
  ·exact fsp_flat [] [] [] [] [] n0 (wc_23 a b (fun n0 h=>kis_i n0 a h h1) (fun n0 h=>kil_i n0 b h (by omega) hb) sx xs n e7 sy ys k f7 _ T) rfl rfl rfl (by simp) (by simp) hG rfl rfl rfl (by simp) (by simp) rfl rfl rfl
  ·by_cases h2:(digs b.natAbs).length≤18
   ·exact fsp_flat [] [] [] [] [] n0 (wc_32 a b (fun n0 h=>kil_i n0 a h (by omega) ha) (fun n0 h=>kis_i n0 b h h2) sx xs n e7 sy ys k f7 _ T) rfl rfl rfl (by simp) (by simp) hG rfl rfl rfl (by simp) (by simp) rfl rfl rfl
   ·exact fsp_flat [] [] [] [] [] n0 (wc_33 a b (fun n0 h=>kil_i n0 a h (by omega) ha) (fun n0 h=>kil_i n0 b h (by omega) hb) sx xs n e7 sy ys k f7 _ T) rfl rfl rfl (by simp) (by simp) hG rfl rfl rfl (by simp) (by simp) rfl rfl rfl
theorem pq_s(x y:Int)(hsm: ∀n0,5≤n0→FT 86 #[.string (istr x),.string (istr y)] n0 [] (.tuple #[.int .i64 x,.int .i64 y,.bool true]) [] [])(hx:x.natAbs<1000000000)(hy:y.natAbs<1000000000):CT 40 #[(.string (istr x)),(.string (istr y))] (mkH 5 []) (.string (istr (x+y))) (mkH 5 []):=
 sF (sc:=[(9,.call [] (.tuple #[(.int .i64 x),(.int .i64 y),bT]) [] []),(17,.op (.rwI (x+y))),(0,.call [] (.string (istr (x+y))) [] []),(3,.stay)]) (by kernel_rfl) (aI (hsm 5 (by omega)) (aI (wI64 (a:=(x+y)) (r:=(x+y))) (aI (oi_i (x+y) 5 (by omega) (by omega)) tt))) (Gets.refl _)
theorem pq_pp(x y:Int)(l1 l2 os:List Nat)(t1 t2 t:Nat)(hsm: ∀n0,5≤n0→FT 86 #[.string (istr x),.string (istr y)] n0 [] (.tuple #[.int .i64 0,.int .i64 0,.bool false]) [] [])(hl1: ∀n0,5≤n0→FT 87 #[.string (dstr (digs x.natAbs))] n0 [] (sl n0 t1 0) [] [.cells (ns .i64 l1) 3 (some 1) false])(hl2: ∀n0,5≤n0→FT 87 #[.string (dstr (digs y.natAbs))] n0 [] (sl n0 t2 0) [] [.cells (ns .i64 l2) 3 (some 1) false])(hnx: ∀n0,5≤n0→FT 44 #[.string (istr x)] n0 [] bF [] [])(hny: ∀n0,5≤n0→FT 44 #[.string (istr y)] n0 [] bF [] [])(hp: ∀(n0 b1 b2:Nat),5≤b1→b1<n0→5≤b2→b2<n0→b1≠b2→FT 89 #[sl b1 t1 0,sl b2 t2 0] n0 [(b1,.cells (ns .i64 l1) 3 (some 1) false),(b2,.cells (ns .i64 l2) 3 (some 1) false)] (sl n0 t 0) [(b1,some (.cells (ns .i64 l1) 3 (some 1) false)),(b2,some (.cells (ns .i64 l2) 3 (some 1) false))] [.cells (ns .i64 os) 3 (some 1) false])(hs: ∀n0 b,5≤b∧b<n0→FT 88 #[.bool false,sl b t 0] n0 [(b,.cells (ns .i64 os) 3 (some 1) false)] (.string (istr (x+y))) [(b,some (.cells (ns .i64 os) 3 (some 1) false))] []):CT 40 #[(.string (istr x)),(.string (istr y))] (mkH 5 []) (.string (istr (x+y))) (mkH 8 []):=
 sF (sc:=[(9,.call [] (.tuple #[(lI 0),(lI 0),bF]) [] []),(17,.call [] (.string (dstr (digs x.natAbs))) [] []),(0,.call [] (sl 5 t1 0) [] [(.cells (ns .i64 l1) 3 (some 1) false)]),(1,.call [] (.string (dstr (digs y.natAbs))) [] []),(0,.call [] (sl 6 t2 0) [] [(.cells (ns .i64 l2) 3 (some 1) false)]),(7,.call [] bF [] []),(1,.call [] bF [] []),(6,.call [] bF [] []),(2,.call [5,6] (sl 7 t 0) [(5,some (.cells (ns .i64 l1) 3 (some 1) false)),(6,some (.cells (ns .i64 l2) 3 (some 1) false))] [(.cells (ns .i64 os) 3 (some 1) false)]),(0,.call [7] (.string (istr (x+y))) [(7,some (.cells (ns .i64 os) 3 (some 1) false))] []),(3,.stay)]) (by kernel_rfl) (aI (hsm 5 (by omega)) (aI (ab_i x 5 (by omega)) (aI (hl1 5 (by omega)) (aI (ab_i y 6 (by omega)) (aI (hl2 6 (by omega)) (aI (hnx 7 (by omega)) (aI (hny 7 (by omega)) (aI (hnx 7 (by omega)) (aI (hp 7 5 6 (by omega) (by omega) (by omega) (by omega) (by omega)) (aI (hs 8 7 (by omega)) tt)))))))))) (Gets.refl _)
theorem ne_q(z:Int)(b:Bool)(hb:decide (z<0)=b): ∀n0,5≤n0→FT 44 #[.string (istr z)] n0 [] (.bool b) [] []:=by
 intro n0 hG
 subst hb
 rcases int_cases z with⟨k,rfl,hm⟩|⟨k,h0,rfl,hm⟩
 ·rw[istr_nn,show decide (((k:Nat):Int)<0)=false by rw[decide_eq_false_iff_not];omega]
  exact ne_pc n0 _ hG (digs_dig _) (digs_len_pos _)
 ·rw[istr_neg h0,show decide (-((k:Nat):Int)<0)=true by rw[decide_eq_true_eq];omega]
  exact ne_mc n0 _ hG
theorem sg_q(n0 b:Nat)(xs:List Nat)(n:Nat)(neg:Bool)(z:Int)(hb:5≤b∧b<n0)(hn:n≤xs.length)(hm:n<1000000000)(hlx:F.Lim xs)(hv:0<n→0<F.val (xs.take n))(hz:z=if neg=true then -((F.val (xs.take n):Nat):Int) else ((F.val (xs.take n):Nat):Int)):
  FT 88 #[.bool neg,sl b n 0] n0 [(b,.cells (ns .i64 xs) 3 (some 1) false)] (.string (istr z)) [(b,some (.cells (ns .i64 xs) 3 (some 1) false))] []:=by
 subst hz
 cases neg with
 |false=>
  simp only[Bool.false_eq_true,if_false,istr_nn]
  exact rsg_n_c n0 b xs n hb hn hm hlx
 |true=>
  simp only[if_true]
  rcases Nat.eq_zero_or_pos n with h0|h0
  ·have hz:F.val (xs.take n)=0:=by rw[h0];rfl
   have:=rsg_z_c n0 b xs n hb hn hm hlx h0
   rw[hz]at this ⊢
   rw[show -(((0:Nat)):Int)=((0:Nat):Int) from rfl,istr_nn]
   exact this
  ·rw[istr_neg (hv h0)]
   exact rsg_m_c n0 b xs n hb hn hm hlx h0
theorem pl_q(x y:Int)(hx0:0≤x)(hy0:0≤y)(n0:Nat)(hG:5≤n0)(hx:(digs x.natAbs).length≤100000000)(hy:(digs y.natAbs).length≤100000000):FT 40 #[.string (istr x),.string (istr y)] n0 [] (.string (istr (x+y))) [] []:=by
 by_cases hsml:(digs x.natAbs).length≤9∧(digs y.natAbs).length≤9
 ·have h1:=lt_of_ndig hsml.1
  have h2:=lt_of_ndig hsml.2
  exact fsp_flat [] [] [] [] [] n0 (pq_s x y (fun n0 h=>sm_t x y n0 h hsml.1 hsml.2) h1 h2) rfl rfl rfl (by simp) (by simp) hG rfl rfl rfl (by simp) (by simp) rfl rfl rfl
 have hsm:=fun n0 h=>sm_f x y n0 h hsml (by omega) (by omega)
 obtain⟨l1,t1,a1,a2,a3,av,at1,ha⟩:=lb_c (digs x.natAbs) (digs_dig _) (digs_len_pos _) (by omega)
 obtain⟨l2,t2,b1,b2,b3,bv,bt1,hb⟩:=lb_c (digs y.natAbs) (digs_dig _) (digs_len_pos _) (by omega)
 rw[digs_val]at av bv
 have hpos:0<x.natAbs∨0<y.natAbs:=by
  rcases Nat.eq_zero_or_pos x.natAbs with h|h
  ·rcases Nat.eq_zero_or_pos y.natAbs with h'|h'
   ·exfalso
    apply hsml
    rw[h,h',digs_zero]
    exact⟨by decide,by decide⟩
   ·exact .inr h'
  ·exact .inl h
 have ta:0<x.natAbs→0<t1:=fun h=>by
  rcases Nat.eq_zero_or_pos t1 with h'|h'
  ·rw[h',List.take_zero]at av
   have:F.val []=0:=rfl
   omega
  ·exact h'
 have tb:0<y.natAbs→0<t2:=fun h=>by
  rcases Nat.eq_zero_or_pos t2 with h'|h'
  ·rw[h',List.take_zero]at bv
   have:F.val []=0:=rfl
   omega
  ·exact h'
 · · obtain⟨os,o1,o2,o3,o4,hp⟩:=rp_c l1 l2 t1 t2 a2 b2 a1 b1 (by omega) (by omega) (by omega)
     have ov:F.val (os.take os.length)=x.natAbs+y.natAbs:=by rw[List.take_length,o2,av,bv]
     exact fsp_flat [] [] [] [] [] n0 (pq_pp x y l1 l2 os t1 t2 os.length hsm ha hb (ne_q x false (by simp[hx0])) (ne_q y false (by simp[hy0])) hp (fun n0 b h=>sg_q n0 b os os.length false (x+y) h (Nat.le_refl _) (by omega) o1 (fun _=>by rw[ov];omega) (by rw[ov];simp;omega))) rfl rfl rfl (by simp) (by simp) hG rfl rfl rfl (by simp) (by simp) rfl rfl rfl
noncomputable section
end
theorem cmpZ_neg(a b:Int):cmpZ b a= -(cmpZ a b):=by unfold cmpZ;split<;>split<;>(try split)<;>(try split)<;>omega
theorem cmpZ_addr(a b c:Int):cmpZ (a+c) (b+c)=cmpZ a b:=by unfold cmpZ;split<;>split<;>(try split)<;>(try split)<;>omega
theorem cmpZ_mulr(a b:Int){k:Int}(hk:0<k):cmpZ (a*k) (b*k)=cmpZ a b:=by
 rcases Int.lt_trichotomy a b with h|h|h
 ·rw[cmpZ_lt h,cmpZ_lt (mul_lt_pos h hk)]
 ·rw[cmpZ_eq h,cmpZ_eq (by rw[h])]
 ·rw[cmpZ_gt h,cmpZ_gt (mul_lt_pos h hk)]
theorem Cm_i{a b v:Int}(n0:Nat)(hG:5≤n0)(ha:ndig a.natAbs≤400)(hb:ndig b.natAbs≤400)(h:cmpZ a b=v):FT 45 #[.string (istr a),.string (istr b)] n0 [] (.tuple #[.int .i64 v,.int .i64 (.ofNat 0)]) [] []:=by
 rw[←h]
 exact Compare_i n0 a b hG ha hb
theorem ab_i'(z:Int)(n0:Nat)(hG:5≤n0):FT 43 #[.string (istr z)] n0 [] (.string (istr ((z.natAbs:Nat):Int))) [] []:=by
 rw[istr_nn]
 exact ab_i z n0 hG
theorem istr_one:istr 1=bts [49]:=by
 rw[show (1:Int)=((1:Nat):Int) from rfl,istr_nn,digs_small (by decide)]
 rfl
theorem pl_one(x:Int)(hx0:0≤x)(n0:Nat)(hG:5≤n0)(hx:(digs x.natAbs).length≤100000000):FT 40 #[.string (istr x),.string (bts [49])] n0 [] (.string (istr (x+1))) [] []:=by
 rw[←istr_one]
 exact pl_q x 1 hx0 (by decide) n0 hG hx (by rw[show (1:Int).natAbs=1 from rfl,digs_small (by decide)];decide)
abbrev Q0(z0 z1 z2:Int):Prop:=FT 45 #[(.string (istr z0)),(.string (istr z1))] 6 [] (.tuple #[(.int .i64 (cmpZ z0 z1)),(lI 0)]) [] []
theorem q0{z0 z1 z2:Int}(hz0:Bd 30 z0)(hz1:Bd 30 z1)(hz2:Bd 30 z2):Q0 z0 z1 z2:=(Cm_i 6 (by omega) (bd_nd hz0 (by decide)) (bd_nd hz1 (by decide)) rfl)
abbrev Q1(z0 z1 z2:Int):Prop:=FT 45 #[(.string (istr z1)),(.string (istr z0))] 6 [] (.tuple #[(.int .i64 (-(cmpZ z0 z1))),(lI 0)]) [] []
theorem q1{z0 z1 z2:Int}(hz0:Bd 30 z0)(hz1:Bd 30 z1)(hz2:Bd 30 z2):Q1 z0 z1 z2:=(Cm_i 6 (by omega) (bd_nd hz1 (by decide)) (bd_nd hz0 (by decide)) (cmpZ_neg _ _))
abbrev Q2(z0 z1 z2:Int):Prop:=FT 45 #[(.string (istr z1)),(.string (istr z2))] 6 [] (.tuple #[(.int .i64 (cmpZ z1 z2)),(lI 0)]) [] []
theorem q2{z0 z1 z2:Int}(hz0:Bd 30 z0)(hz1:Bd 30 z1)(hz2:Bd 30 z2):Q2 z0 z1 z2:=(Cm_i 6 (by omega) (bd_nd hz1 (by decide)) (bd_nd hz2 (by decide)) rfl)
abbrev Q3(z0 z1 z2:Int):Prop:=FT 45 #[(.string (istr z0)),(.string (istr z2))] 6 [] (.tuple #[(.int .i64 (cmpZ z0 z2)),(lI 0)]) [] []
theorem q3{z0 z1 z2:Int}(hz0:Bd 30 z0)(hz1:Bd 30 z1)(hz2:Bd 30 z2):Q3 z0 z1 z2:=(Cm_i 6 (by omega) (bd_nd hz0 (by decide)) (bd_nd hz2 (by decide)) rfl)
abbrev Q4(z0 z1 z2:Int):Prop:=FT 36 #[(.string (istr z0)),(.string (istr z2))] 6 [(1,gob1)] (.tuple #[(.string (istr (z0+z2))),(lI 0)]) [(1,some gob1)] []
theorem q4{z0 z1 z2:Int}(hz0:Bd 30 z0)(hz1:Bd 30 z1)(hz2:Bd 30 z2):Q4 z0 z1 z2:=(Add_i 6 z0 z2 (by omega) (bd_nd hz0 (by decide)) (bd_nd hz2 (by decide)) (bd_nd (bd_add hz0 hz2) (by decide)))
abbrev Q5(z0 z1 z2:Int):Prop:=FT 36 #[(.string (istr z1)),(.string (istr z2))] 6 [(1,gob1)] (.tuple #[(.string (istr (z1+z2))),(lI 0)]) [(1,some gob1)] []
theorem q5{z0 z1 z2:Int}(hz0:Bd 30 z0)(hz1:Bd 30 z1)(hz2:Bd 30 z2):Q5 z0 z1 z2:=(Add_i 6 z1 z2 (by omega) (bd_nd hz1 (by decide)) (bd_nd hz2 (by decide)) (bd_nd (bd_add hz1 hz2) (by decide)))
abbrev Q6(z0 z1 z2:Int):Prop:=FT 45 #[(.string (istr (z0+z2))),(.string (istr (z1+z2)))] 6 [] (.tuple #[(.int .i64 (cmpZ z0 z1)),(lI 0)]) [] []
theorem q6{z0 z1 z2:Int}(hz0:Bd 30 z0)(hz1:Bd 30 z1)(hz2:Bd 30 z2):Q6 z0 z1 z2:=(Cm_i 6 (by omega) (bd_nd (bd_add hz0 hz2) (by decide)) (bd_nd (bd_add hz1 hz2) (by decide)) (cmpZ_addr _ _ _))
abbrev Q7(z0 z1 z2:Int):Prop:=FT 43 #[(.string (istr z2))] 6 [] (.string (istr ((z2.natAbs:Nat):Int))) [] []
theorem q7{z0 z1 z2:Int}(hz0:Bd 30 z0)(hz1:Bd 30 z1)(hz2:Bd 30 z2):Q7 z0 z1 z2:=(ab_i' z2 6 (by omega))
abbrev Q8(z0 z1 z2:Int):Prop:=FT 40 #[(.string (istr ((z2.natAbs:Nat):Int))),(.string (bts [49]))] 6 [] (.string (istr (((z2.natAbs:Nat):Int)+1))) [] []
theorem q8{z0 z1 z2:Int}(hz0:Bd 30 z0)(hz1:Bd 30 z1)(hz2:Bd 30 z2):Q8 z0 z1 z2:=(pl_one ((z2.natAbs:Nat):Int) (by omega) 6 (by omega) (Nat.le_trans (digs_len_le (bd_nd (bd_abs hz2) (by decide)) (by decide)) (by decide)))
abbrev Q9(z0 z1 z2:Int):Prop:=FT 38 #[(.string (istr z0)),(.string (istr (((z2.natAbs:Nat):Int)+1)))] 6 [(1,gob1)] (.tuple #[(.string (istr (z0*(((z2.natAbs:Nat):Int)+1)))),(lI 0)]) [(1,some gob1)] []
theorem q9{z0 z1 z2:Int}(hz0:Bd 30 z0)(hz1:Bd 30 z1)(hz2:Bd 30 z2):Q9 z0 z1 z2:=(Mul_i 6 z0 (((z2.natAbs:Nat):Int)+1) (by omega) (bd_nd hz0 (by decide)) (bd_nd (bd_add (bd_abs hz2) bd_one) (by decide)) (Or.inl (bd_nd2 hz0 (by decide))) (bd_nd (bd_mul hz0 (bd_add (bd_abs hz2) bd_one)) (by decide)))
abbrev Q10(z0 z1 z2:Int):Prop:=FT 38 #[(.string (istr z1)),(.string (istr (((z2.natAbs:Nat):Int)+1)))] 6 [(1,gob1)] (.tuple #[(.string (istr (z1*(((z2.natAbs:Nat):Int)+1)))),(lI 0)]) [(1,some gob1)] []
theorem q10{z0 z1 z2:Int}(hz0:Bd 30 z0)(hz1:Bd 30 z1)(hz2:Bd 30 z2):Q10 z0 z1 z2:=(Mul_i 6 z1 (((z2.natAbs:Nat):Int)+1) (by omega) (bd_nd hz1 (by decide)) (bd_nd (bd_add (bd_abs hz2) bd_one) (by decide)) (Or.inl (bd_nd2 hz1 (by decide))) (bd_nd (bd_mul hz1 (bd_add (bd_abs hz2) bd_one)) (by decide)))
abbrev Q11(z0 z1 z2:Int):Prop:=FT 45 #[(.string (istr (z0*(((z2.natAbs:Nat):Int)+1)))),(.string (istr (z1*(((z2.natAbs:Nat):Int)+1))))] 6 [] (.tuple #[(.int .i64 (cmpZ z0 z1)),(lI 0)]) [] []
theorem q11{z0 z1 z2:Int}(hz0:Bd 30 z0)(hz1:Bd 30 z1)(hz2:Bd 30 z2):Q11 z0 z1 z2:=(Cm_i 6 (by omega) (bd_nd (bd_mul hz0 (bd_add (bd_abs hz2) bd_one)) (by decide)) (bd_nd (bd_mul hz1 (bd_add (bd_abs hz2) bd_one)) (by decide)) (cmpZ_mulr _ _ (by omega)))
noncomputable section
abbrev z_14e_0(y:Nat):Value:=.string (istr (y:Int))
abbrev z_14e_1(z0:Int):Value:=.string (istr ((z0.natAbs:Nat):Int))
abbrev z_14e_6(o:Nat)(zs:List Int):AObj:=.win o (zs.map (Value.int .i64))
abbrev z_14e_2(o:Nat)(zs:List Int):List (Nat×AObj):=[(0,Cn.gob0),(1,gob1),(2,Cn.gob2),(3,Cn.gob3),(5,(z_14e_6 o zs))]
abbrev z_14e_3(y:Nat):Value:=.string (istr (((y+1:Nat)):Int))
abbrev z_14e_4:List (Nat×AObj):=[(0,Cn.gob0),(1,gob1),(2,Cn.gob2),(3,Cn.gob3)]
abbrev z_14e_5(o c0 c:Nat):Value:=.slice (some ⟨5,o,none⟩) c0 c
end
theorem pick_four{r m:Nat}(h:r≤3)(hm:1≤m∧m≤20): ∃n:Nat,(1≤n∧n≤20)∧([.int .i64 1,.int .i64 2,.int .i64 3,.int .i64 ((m:Nat):Int)]:List Value)[r]? =some (nI n):=by
 have:r=0∨r=1∨r=2∨r=3:=by omega
 rcases this with rfl|rfl|rfl|rfl
 ·exact⟨1,by omega,rfl⟩
 ·exact⟨2,by omega,rfl⟩
 ·exact⟨3,by omega,rfl⟩
 ·exact⟨m,hm,rfl⟩
theorem plen0{x i k:Nat}(hx:x≤10^30)(hi:30*i<k):(digs (x^i)).length≤k:=by
 refine digs_len_le (ndig_lt k _ ?_) (by omega)
 have h1:x^i≤(10^30)^i:=Nat.pow_le_pow_left hx i
 rw[←Nat.pow_mul]at h1
 exact Nat.lt_of_le_of_lt h1 (Nat.pow_lt_pow_right (by decide) hi)
theorem plen{y i:Nat}(hy:y<10^30)(hi:i≤20):(digs (y^i)).length≤1000000:=plen0 (Nat.le_of_lt hy) (by omega)
theorem plen'{y i:Nat}(hy:y<10^30)(hi:i≤20):(digs ((y+1)^i)).length≤1000000:=plen0 hy (by omega)
theorem plen1{y:Nat}(hy:y<10^30):(digs y).length≤1000000:=by have:=plen (i:=1) hy (by decide);rwa [Nat.pow_one]at this
theorem tn_nn(a b n0:Nat)(hG:5≤n0)(ha:(digs a).length≤1000000)(hb:(digs b).length≤1000000):FT 41 #[.string (istr ((a:Nat):Int)),.string (istr ((b:Nat):Int))] n0 [] (.string (istr (((a*b:Nat)):Int))) [] []:=by
 rw[Int.natCast_mul]
 exact tn_i _ _ n0 hG (by rw[Int.natAbs_natCast];exact ha) (by rw[Int.natAbs_natCast];exact hb)
theorem pl_n(a n0:Nat)(hG:5≤n0)(ha:(digs a).length≤100000000):FT 40 #[.string (istr ((a:Nat):Int)),.string (bts [49])] n0 [] (.string (istr (((a+1:Nat)):Int))) [] []:=by
 have h:=pl_i ((a:Nat):Int) 1 n0 hG (by rw[Int.natAbs_natCast];exact ha) (by rw[show (1:Int).natAbs=1 from rfl,digs_small (by decide)];decide)
 rw[istr_one]at h
 exact h
theorem ab_n(z:Int)(n0:Nat)(hG:5≤n0):FT 43 #[.string (istr z)] n0 [] (.string (istr ((z.natAbs:Nat):Int))) [] []:=by
 rw[istr_nn]
 exact ab_i z n0 hG
noncomputable def lra_h_f(zs:List Int)(o c0 c:Nat)(z0:Int)(y n m r0 r1 i:Nat)(lo hi:ByteArray)(j:List Value):Frame:=⟨12,List.toArray [(z_14e_5 o c0 c),uu,bF,(pt 6),(z_14e_1 z0),(nI n),(z_14e_0 y),(lI 0),(.string lo),(.string hi),(nI i),(z_14e_5 o c0 c),(pt 6),(pt 6),(.string (istr z0)),(z_14e_1 z0),(pt 6),(pt 6),(nI m),(sl 7 4 4),(nI n),(.tuple #[(z_14e_0 y),(lI 0)]),(z_14e_1 z0),(nI n),(.tuple #[(z_14e_0 y),(lI 0)]),(z_14e_0 y),(lI 0),(lI 0),bF,bF,(z_14e_0 y),bT,bF,bF,bF,(z_14e_0 y),bF,bF,bF,(z_14e_0 y),(nI ((istr (y:Int)).size)),bF,bF,(J j 0),(J j 1),(J j 2),(J j 3),(J j 4),(J j 5),(J j 6),(J j 7),(J j 8),(J j 9),(J j 10),(J j 11),uu,uu,uu,uu,uu,uu,uu,uu,uu,uu,uu,uu,uu],[.code (cd Tryz.f12 [1,1,1,1,1,1,0,1,0,0]),.inLoop (cd Tryz.f12 [1,1,1,1,1,1,0,1,0,0]),.inBlock 0,.code (cd Tryz.f12 [1,1,1,1,1,1,1])],[],.run,.normal,none⟩
noncomputable def lra_h_o(zs:List Int)(o c0 c:Nat)(z0:Int)(y n m r0 r1 i:Nat)(lo hi:ByteArray):List (Nat×AObj):=(z_14e_2 o zs)
noncomputable def lra_h(zs:List Int)(o c0 c:Nat)(z0:Int)(y n m r0 r1 i:Nat)(lo hi:ByteArray)(j:List Value):AS:=⟨lra_h_f zs o c0 c z0 y n m r0 r1 i lo hi j,[],mkH 8 (lra_h_o zs o c0 c z0 y n m r0 r1 i lo hi)⟩
theorem lra_in(zs:List Int)(o c0 c:Nat)(z0:Int)(i0 u0:Nat)(hc1:(FT 17 #[(pt 6),(lI 30)] 7 [(6,(.cells [(z_14e_5 o c0 c),(lI 0),(lU 7640891576956012809)] 62 none false)),(5,(z_14e_6 o zs))] (.string (istr z0)) [(6,some (.cells [(z_14e_5 o c0 c),(nI i0),(nU u0)] 62 none false)),(5,some (z_14e_6 o zs))] []))(hc2:(FT 43 #[(.string (istr z0))] 7 [] (z_14e_1 z0) [] []))(v0 r0:Nat)(hr0:r0≤19)(m:Nat)(hm:m=1+r0)(hc5:(FT 47 #[(pt 6),(lI 19)] 7 [(6,(.cells [(z_14e_5 o c0 c),(nI i0),(nU u0)] 62 none false)),(5,(z_14e_6 o zs))] (nI r0) [(6,some (.cells [(z_14e_5 o c0 c),(nI (i0+1)),(nU v0)] 62 none false)),(5,some (z_14e_6 o zs))] []))(v1 r1:Nat)(hr1:r1≤3)(n:Nat)(hd:([.int .i64 1,.int .i64 2,.int .i64 3,.int .i64 (m:Int)]:List Value)[r1]? =some (nI n))(hn:1≤n∧n≤20)(hc8:(FT 47 #[(pt 6),(lI 3)] 8 [(6,(.cells [(z_14e_5 o c0 c),(nI (i0+1)),(nU v0)] 62 none false)),(5,(z_14e_6 o zs))] (nI r1) [(6,some (.cells [(z_14e_5 o c0 c),(nI ((i0+1)+1)),(nU v1)] 62 none false)),(5,some (z_14e_6 o zs))] []))(y:Nat)(hy40:(istr (y:Int)).size≤40)(hc10:(FT 51 #[(z_14e_1 z0),(nI n)] 8 [(1,gob1)] (.tuple #[(z_14e_0 y),(lI 0)]) [(1,some gob1)] []))(hc11:(FT 74 #[(z_14e_0 y)] 8 [] (lI 0) [] []))(hc12:(FT 44 #[(z_14e_0 y)] 8 [] bF [] [])):GT ⟨Frame.enter Tryz.prog 12 #[(z_14e_5 o c0 c)] .normal,[],mkH 6 (z_14e_2 o zs)⟩ (lra_h zs o c0 c z0 y n m r0 r1 0 (bts [49]) (bts [49]) [undef,undef,undef,undef,undef,undef,undef,undef,undef,undef,undef,undef]):=
 sR (sc:=[(26,.call [6,5] (.string (istr z0)) [(6,some (.cells [(z_14e_5 o c0 c),(nI i0),(nU u0)] 62 none false)),(5,some (z_14e_6 o zs))] []),(0,.call [] (z_14e_1 z0) [] []),(14,.call [6,5] (nI r0) [(6,some (.cells [(z_14e_5 o c0 c),(nI (i0+1)),(nU v0)] 62 none false)),(5,some (z_14e_6 o zs))] []),(0,.op (.rwI (m:Int))),(17,.call [6,5] (nI r1) [(6,some (.cells [(z_14e_5 o c0 c),(nI ((i0+1)+1)),(nU v1)] 62 none false)),(5,some (z_14e_6 o zs))] []),(0,.op (.idx r1)),(0,.op (.ld (nI n))),(11,.call [1] (.tuple #[(z_14e_0 y),(lI 0)]) [(1,some gob1)] []),(21,.call [] (lI 0) [] []),(9,.call [] bF [] []),(4,.op (.rwB false)),(16,.stay)]) (by kernel_rfl) (aI hc1 (aI hc2 (aI hc5 (aI (wI64 (a:=((1:Int)+(r0:Int))) (r:=(m:Int))) (aI hc8 (aI (ix (r1:Int) ((4:Nat):Int) 0 1 r1) (aI hd (aI hc10 (aI hc11 (aI hc12 (aI (dF (p:=(((istr (y:Int)).size:Nat):Int)>(40:Int))) tt)))))))))))
theorem lra_r(zs:List Int)(o c0 c:Nat)(z0:Int)(y n m r0 r1 i:Nat)(lo hi:ByteArray)(j:List Value)(hi_:i<n)(hn:n≤20)(w0:ByteArray)(hc1:(FT 41 #[(.string lo),(z_14e_0 y)] 8 [] (.string w0) [] []))(hc2:(FT 40 #[(z_14e_0 y),(.string (bts [49]))] 8 [] (z_14e_3 y) [] []))(w1:ByteArray)(hc4:(FT 41 #[(.string hi),(z_14e_3 y)] 8 [] (.string w1) [] [])):GT (lra_h zs o c0 c z0 y n m r0 r1 i lo hi j) (lra_h zs o c0 c z0 y n m r0 r1 (i+1) w0 w1 [(nI i),(nI n),bT,(nI i),(nI (i+1)),(.string lo),(z_14e_0 y),(.string w0),(.string hi),(z_14e_0 y),(z_14e_3 y),(.string w1)]):=
 sR (sc:=[(5,.op (.rwB true)),(8,.call [] (.string w0) [] []),(2,.call [] (z_14e_3 y) [] []),(0,.call [] (.string w1) [] []),(6,.op (.rwI (((i+1):Nat):Int))),(3,.stay)]) (by kernel_rfl) (aI (dT (p:=(i:Int)<(n:Int))) (aI hc1 (aI hc2 (aI hc4 (aI (wI64 (a:=((i:Int)+(1:Int))) (r:=(((i+1):Nat):Int))) tt)))))
theorem lra_o(zs:List Int)(o c0 c:Nat)(z0:Int)(y n m r0 r1 i:Nat)(lo hi:ByteArray)(j:List Value)(hi_:n≤i)(q0:Int)(hq0:q0≤0)(hc1:(FT 42 #[(.string lo),(z_14e_1 z0)] 8 [] (.int .i64 q0) [] []))(q1:Int)(hq1:q1<0)(hc3:(FT 42 #[(z_14e_1 z0),(.string hi)] 8 [] (.int .i64 q1) [] []))(hr:GT ⟨Frame.enter Tryz.prog 12 #[(z_14e_5 o c0 c)] .normal,[],mkH 6 (z_14e_2 o zs)⟩ (lra_h zs o c0 c z0 y n m r0 r1 i lo hi j)):CT 12 #[(z_14e_5 o c0 c)] (mkH 6 (z_14e_2 o zs)) bT (mkH 8 (z_14e_2 o zs)):=
 sF (sc:=[(5,.op (.rwB false)),(7,.call [] (.int .i64 q0) [] []),(0,.op (.rwB true)),(3,.call [] (.int .i64 q1) [] []),(0,.op (.rwB true)),(2,.call [0,1,2,3] bT [(0,some Cn.gob0),(1,some gob1),(2,some Cn.gob2),(3,some Cn.gob3)] []),(4,.stay)]) (by kernel_rfl) (aI (dF (p:=(i:Int)<(n:Int))) (aI hc1 (aI (dT (p:=q0≤(0:Int))) (aI hc3 (aI (dT (p:=q1<(0:Int))) (aI (counted_c 8) tt)))))) hr
theorem lra_loop{zs:List Int}{o c0 c:Nat}{z0:Int}{y n m r0 r1:Nat}{s0:AS}(hn:n≤20)(hy:y<10^30): ∀(k i:Nat) (j:List Value),k=n-i→i≤n→GT s0 (lra_h zs o c0 c z0 y n m r0 r1 i (istr ((((y^i:Nat)):Int))) (istr (((((y+1)^i:Nat)):Int))) j)→
  ∃j',GT s0 (lra_h zs o c0 c z0 y n m r0 r1 n (istr ((((y^n:Nat)):Int))) (istr (((((y+1)^n:Nat)):Int))) j'):=by
 intro k
 induction k with
 |zero=>
  intro i j hk hi hr
  have:i=n:=by omega
  subst this
  exact⟨j,hr⟩
 |succ k ih=>
  intro i j hk hi hr
  have T1:=tn_nn (y^i) y 8 (by decide) (plen hy (by omega)) (plen1 hy)
  have T2:=pl_n y 8 (by decide) (Nat.le_trans (plen1 hy) (by decide))
  have T3:=tn_nn ((y+1)^i) (y+1) 8 (by decide) (plen' hy (by omega)) (by have:=plen' (i:=1) hy (by decide);rwa [Nat.pow_one]at this)
  rw[←Nat.pow_succ]at T1 T3
  exact ih _ _ (by omega) (by omega) (hr.trans (lra_r zs o c0 c z0 y n m r0 r1 i _ _ j (by omega) hn _ T1 T2 _ T3))
theorem wholeRooted_a(zs:List Int)(o c0 c:Nat)(hnz:c0≤zs.length):CT 12 #[(.slice (some ⟨5,o,none⟩) c0 c)] (mkH 6 [(0,Cn.gob0),(1,gob1),(2,Cn.gob2),(3,Cn.gob3),(5,(.win o (zs.map (Value.int .i64))))]) bT (mkH 8 [(0,Cn.gob0),(1,gob1),(2,Cn.gob2),(3,Cn.gob3),(5,(.win o (zs.map (Value.int .i64))))]):=by
 obtain⟨z0,i0,u0,hz,hi0,T1⟩:=whole_c 7 6 5 zs o c0 c 0 7640891576956012809 30 (by omega) hnz (by omega) (by omega) (by omega)
 obtain⟨v0,r0,hr0,T3⟩:=up_c 7 6 5 zs o c0 c i0 u0 19 (by omega) hnz (by omega) (by omega)
 obtain⟨m,hm⟩: ∃m,m=1+r0:=⟨_,rfl⟩
 obtain⟨v1,r1,hr1,T4⟩:=up_c 8 6 5 zs o c0 c (i0+1) v0 3 (by omega) hnz (by omega) (by omega)
 obtain⟨n,hn,hd⟩:=pick_four (m:=m) hr1 (by omega)
 have hA:=lt_of_ndig hz
 have hA2:=ndig_lt 30 _ hA
 obtain⟨y,hy1,hy2,T5⟩:=Root_i 8 z0.natAbs n (by decide) (by omega) hn
 have hyA:y≤z0.natAbs:=Nat.le_trans (Nat.le_self_pow (by omega) _) hy1
 have hy:y<10^30:=Nat.lt_of_le_of_lt hyA hA
 have hyl:(digs (((y:Nat):Int)).natAbs).length≤30:=by rw[Int.natAbs_natCast];exact digs_len_le (ndig_lt 30 _ hy) (by decide)
 have h0:=lra_in zs o c0 c z0 i0 u0 T1 (ab_n z0 7 (by decide)) v0 r0 hr0 m hm T3 v1 r1 hr1 n hd hn T4 y (by have:=istr_size_le ((y:Nat):Int);omega) T5 (ck_i _ 8 (by decide) (by omega)) (ne_i' _ false (by simp) 8 (by decide))
 have e0: ∀x:Nat,(istr ((((x^0:Nat)):Int)))=bts [49]:=fun x=>by rw[Nat.pow_zero];exact istr_one
 obtain⟨j,h1⟩:=lra_loop hn.2 hy n 0 _ (by omega) (Nat.zero_le _) (by rw[e0,e0];exact h0)
 have Q2:=cp_i (((z0.natAbs:Nat)):Int) ((((y+1)^n:Nat)):Int) (by omega) (by omega) 8 (by decide) (by rw[Int.natAbs_natCast];omega) (by rw[Int.natAbs_natCast];exact plen' hy hn.2)
 rcases Nat.lt_or_ge (y^n) z0.natAbs with h|h
 ·have Q1:=cp_i (((y^n:Nat)):Int) (((z0.natAbs:Nat)):Int) (by omega) (by omega) 8 (by decide) (by rw[Int.natAbs_natCast];exact plen hy hn.2) (by rw[Int.natAbs_natCast];omega)
  exact lra_o zs o c0 c z0 y n m r0 r1 n _ _ j (Nat.le_refl _) _ (by decide) Q1 _ (by decide) Q2 h1
 ·have Q1:=ce_i (((y^n:Nat)):Int) (((z0.natAbs:Nat)):Int) (by omega) (by omega) 8 (by decide) (by rw[Int.natAbs_natCast];exact plen hy hn.2) (by rw[Int.natAbs_natCast];omega)
  exact lra_o zs o c0 c z0 y n m r0 r1 n _ _ j (Nat.le_refl _) _ (by decide) Q1 _ (by decide) Q2 h1
noncomputable def lrn_h_f(z0:Int)(y n m r0 r1 i:Nat)(lo hi:ByteArray)(j:List Value):Frame:=⟨12,List.toArray [(.slice none 0 0),uu,bF,(pt 5),(z_14e_1 z0),(nI n),(z_14e_0 y),(lI 0),(.string lo),(.string hi),(nI i),(.slice none 0 0),(pt 5),(pt 5),(.string (istr z0)),(z_14e_1 z0),(pt 5),(pt 5),(nI m),(sl 6 4 4),(nI n),(.tuple #[(z_14e_0 y),(lI 0)]),(z_14e_1 z0),(nI n),(.tuple #[(z_14e_0 y),(lI 0)]),(z_14e_0 y),(lI 0),(lI 0),bF,bF,(z_14e_0 y),bT,bF,bF,bF,(z_14e_0 y),bF,bF,bF,(z_14e_0 y),(nI ((istr (y:Int)).size)),bF,bF,(J j 0),(J j 1),(J j 2),(J j 3),(J j 4),(J j 5),(J j 6),(J j 7),(J j 8),(J j 9),(J j 10),(J j 11),uu,uu,uu,uu,uu,uu,uu,uu,uu,uu,uu,uu,uu],[.code (cd Tryz.f12 [1,1,1,1,1,1,0,1,0,0]),.inLoop (cd Tryz.f12 [1,1,1,1,1,1,0,1,0,0]),.inBlock 0,.code (cd Tryz.f12 [1,1,1,1,1,1,1])],[],.run,.normal,none⟩
noncomputable def lrn_h_o(z0:Int)(y n m r0 r1 i:Nat)(lo hi:ByteArray):List (Nat×AObj):=z_14e_4
noncomputable def lrn_h(z0:Int)(y n m r0 r1 i:Nat)(lo hi:ByteArray)(j:List Value):AS:=⟨lrn_h_f z0 y n m r0 r1 i lo hi j,[],mkH 7 (lrn_h_o z0 y n m r0 r1 i lo hi)⟩
theorem lrn_in(z0:Int)(i0 u0:Nat)(hc1:(FT 17 #[(pt 5),(lI 30)] 6 [(5,(.cells [(.slice none 0 0),(lI 0),(lU 7640891576956012809)] 62 none false))] (.string (istr z0)) [(5,some (.cells [(.slice none 0 0),(nI i0),(nU u0)] 62 none false))] []))(hc2:(FT 43 #[(.string (istr z0))] 6 [] (z_14e_1 z0) [] []))(v0 r0:Nat)(hr0:r0≤19)(m:Nat)(hm:m=1+r0)(hc5:(FT 47 #[(pt 5),(lI 19)] 6 [(5,(.cells [(.slice none 0 0),(nI i0),(nU u0)] 62 none false))] (nI r0) [(5,some (.cells [(.slice none 0 0),(nI (i0+1)),(nU v0)] 62 none false))] []))(v1 r1:Nat)(hr1:r1≤3)(n:Nat)(hd:([.int .i64 1,.int .i64 2,.int .i64 3,.int .i64 (m:Int)]:List Value)[r1]? =some (nI n))(hn:1≤n∧n≤20)(hc8:(FT 47 #[(pt 5),(lI 3)] 7 [(5,(.cells [(.slice none 0 0),(nI (i0+1)),(nU v0)] 62 none false))] (nI r1) [(5,some (.cells [(.slice none 0 0),(nI ((i0+1)+1)),(nU v1)] 62 none false))] []))(y:Nat)(hy40:(istr (y:Int)).size≤40)(hc10:(FT 51 #[(z_14e_1 z0),(nI n)] 7 [(1,gob1)] (.tuple #[(z_14e_0 y),(lI 0)]) [(1,some gob1)] []))(hc11:(FT 74 #[(z_14e_0 y)] 7 [] (lI 0) [] []))(hc12:(FT 44 #[(z_14e_0 y)] 7 [] bF [] [])):GT ⟨Frame.enter Tryz.prog 12 #[(.slice none 0 0)] .normal,[],mkH 5 z_14e_4⟩ (lrn_h z0 y n m r0 r1 0 (bts [49]) (bts [49]) [undef,undef,undef,undef,undef,undef,undef,undef,undef,undef,undef,undef]):=
 sR (sc:=[(26,.call [5] (.string (istr z0)) [(5,some (.cells [(.slice none 0 0),(nI i0),(nU u0)] 62 none false))] []),(0,.call [] (z_14e_1 z0) [] []),(14,.call [5] (nI r0) [(5,some (.cells [(.slice none 0 0),(nI (i0+1)),(nU v0)] 62 none false))] []),(0,.op (.rwI (m:Int))),(17,.call [5] (nI r1) [(5,some (.cells [(.slice none 0 0),(nI ((i0+1)+1)),(nU v1)] 62 none false))] []),(0,.op (.idx r1)),(0,.op (.ld (nI n))),(11,.call [1] (.tuple #[(z_14e_0 y),(lI 0)]) [(1,some gob1)] []),(21,.call [] (lI 0) [] []),(9,.call [] bF [] []),(4,.op (.rwB false)),(16,.stay)]) (by kernel_rfl) (aI hc1 (aI hc2 (aI hc5 (aI (wI64 (a:=((1:Int)+(r0:Int))) (r:=(m:Int))) (aI hc8 (aI (ix (r1:Int) ((4:Nat):Int) 0 1 r1) (aI hd (aI hc10 (aI hc11 (aI hc12 (aI (dF (p:=(((istr (y:Int)).size:Nat):Int)>(40:Int))) tt)))))))))))
theorem lrn_r(z0:Int)(y n m r0 r1 i:Nat)(lo hi:ByteArray)(j:List Value)(hi_:i<n)(hn:n≤20)(w0:ByteArray)(hc1:(FT 41 #[(.string lo),(z_14e_0 y)] 7 [] (.string w0) [] []))(hc2:(FT 40 #[(z_14e_0 y),(.string (bts [49]))] 7 [] (z_14e_3 y) [] []))(w1:ByteArray)(hc4:(FT 41 #[(.string hi),(z_14e_3 y)] 7 [] (.string w1) [] [])):GT (lrn_h z0 y n m r0 r1 i lo hi j) (lrn_h z0 y n m r0 r1 (i+1) w0 w1 [(nI i),(nI n),bT,(nI i),(nI (i+1)),(.string lo),(z_14e_0 y),(.string w0),(.string hi),(z_14e_0 y),(z_14e_3 y),(.string w1)]):=
 sR (sc:=[(5,.op (.rwB true)),(8,.call [] (.string w0) [] []),(2,.call [] (z_14e_3 y) [] []),(0,.call [] (.string w1) [] []),(6,.op (.rwI (((i+1):Nat):Int))),(3,.stay)]) (by kernel_rfl) (aI (dT (p:=(i:Int)<(n:Int))) (aI hc1 (aI hc2 (aI hc4 (aI (wI64 (a:=((i:Int)+(1:Int))) (r:=(((i+1):Nat):Int))) tt)))))
theorem lrn_o(z0:Int)(y n m r0 r1 i:Nat)(lo hi:ByteArray)(j:List Value)(hi_:n≤i)(q0:Int)(hq0:q0≤0)(hc1:(FT 42 #[(.string lo),(z_14e_1 z0)] 7 [] (.int .i64 q0) [] []))(q1:Int)(hq1:q1<0)(hc3:(FT 42 #[(z_14e_1 z0),(.string hi)] 7 [] (.int .i64 q1) [] []))(hr:GT ⟨Frame.enter Tryz.prog 12 #[(.slice none 0 0)] .normal,[],mkH 5 z_14e_4⟩ (lrn_h z0 y n m r0 r1 i lo hi j)):CT 12 #[(.slice none 0 0)] (mkH 5 z_14e_4) bT (mkH 7 z_14e_4):=
 sF (sc:=[(5,.op (.rwB false)),(7,.call [] (.int .i64 q0) [] []),(0,.op (.rwB true)),(3,.call [] (.int .i64 q1) [] []),(0,.op (.rwB true)),(2,.call [0,1,2,3] bT [(0,some Cn.gob0),(1,some gob1),(2,some Cn.gob2),(3,some Cn.gob3)] []),(4,.stay)]) (by kernel_rfl) (aI (dF (p:=(i:Int)<(n:Int))) (aI hc1 (aI (dT (p:=q0≤(0:Int))) (aI hc3 (aI (dT (p:=q1<(0:Int))) (aI (counted_c 7) tt)))))) hr
theorem lrn_loop{z0:Int}{y n m r0 r1:Nat}{s0:AS}(hn:n≤20)(hy:y<10^30): ∀(k i:Nat) (j:List Value),k=n-i→i≤n→GT s0 (lrn_h z0 y n m r0 r1 i (istr ((((y^i:Nat)):Int))) (istr (((((y+1)^i:Nat)):Int))) j)→
  ∃j',GT s0 (lrn_h z0 y n m r0 r1 n (istr ((((y^n:Nat)):Int))) (istr (((((y+1)^n:Nat)):Int))) j'):=by
 intro k
 induction k with
 |zero=>
  intro i j hk hi hr
  have:i=n:=by omega
  subst this
  exact⟨j,hr⟩
 |succ k ih=>
  intro i j hk hi hr
  have T1:=tn_nn (y^i) y 7 (by decide) (plen hy (by omega)) (plen1 hy)
  have T2:=pl_n y 7 (by decide) (Nat.le_trans (plen1 hy) (by decide))
  have T3:=tn_nn ((y+1)^i) (y+1) 7 (by decide) (plen' hy (by omega)) (by have:=plen' (i:=1) hy (by decide);rwa [Nat.pow_one]at this)
  rw[←Nat.pow_succ]at T1 T3
  exact ih _ _ (by omega) (by omega) (hr.trans (lrn_r z0 y n m r0 r1 i _ _ j (by omega) hn _ T1 T2 _ T3))
theorem wholeRooted_n:CT 12 #[(.slice none 0 0)] (mkH 5 [(0,Cn.gob0),(1,gob1),(2,Cn.gob2),(3,Cn.gob3)]) bT (mkH 7 [(0,Cn.gob0),(1,gob1),(2,Cn.gob2),(3,Cn.gob3)]):=by
 obtain⟨z0,i0,u0,hz,hi0,T1⟩:=wholen_c 6 5 0 7640891576956012809 30 (by omega) (by omega) (by omega) (by omega)
 obtain⟨v0,r0,hr0,T3⟩:=upn_c 6 5 i0 u0 19 (by omega) (by omega) (by omega)
 obtain⟨m,hm⟩: ∃m,m=1+r0:=⟨_,rfl⟩
 obtain⟨v1,r1,hr1,T4⟩:=upn_c 7 5 (i0+1) v0 3 (by omega) (by omega) (by omega)
 obtain⟨n,hn,hd⟩:=pick_four (m:=m) hr1 (by omega)
 have hA:=lt_of_ndig hz
 have hA2:=ndig_lt 30 _ hA
 obtain⟨y,hy1,hy2,T5⟩:=Root_i 7 z0.natAbs n (by decide) (by omega) hn
 have hyA:y≤z0.natAbs:=Nat.le_trans (Nat.le_self_pow (by omega) _) hy1
 have hy:y<10^30:=Nat.lt_of_le_of_lt hyA hA
 have hyl:(digs (((y:Nat):Int)).natAbs).length≤30:=by rw[Int.natAbs_natCast];exact digs_len_le (ndig_lt 30 _ hy) (by decide)
 have h0:=lrn_in z0 i0 u0 T1 (ab_n z0 6 (by decide)) v0 r0 hr0 m hm T3 v1 r1 hr1 n hd hn T4 y (by have:=istr_size_le ((y:Nat):Int);omega) T5 (ck_i _ 7 (by decide) (by omega)) (ne_i' _ false (by simp) 7 (by decide))
 have e0: ∀x:Nat,(istr ((((x^0:Nat)):Int)))=bts [49]:=fun x=>by rw[Nat.pow_zero];exact istr_one
 obtain⟨j,h1⟩:=lrn_loop hn.2 hy n 0 _ (by omega) (Nat.zero_le _) (by rw[e0,e0];exact h0)
 have Q2:=cp_i (((z0.natAbs:Nat)):Int) ((((y+1)^n:Nat)):Int) (by omega) (by omega) 7 (by decide) (by rw[Int.natAbs_natCast];omega) (by rw[Int.natAbs_natCast];exact plen' hy hn.2)
 rcases Nat.lt_or_ge (y^n) z0.natAbs with h|h
 ·have Q1:=cp_i (((y^n:Nat)):Int) (((z0.natAbs:Nat)):Int) (by omega) (by omega) 7 (by decide) (by rw[Int.natAbs_natCast];exact plen hy hn.2) (by rw[Int.natAbs_natCast];omega)
  exact lrn_o z0 y n m r0 r1 n _ _ j (Nat.le_refl _) _ (by decide) Q1 _ (by decide) Q2 h1
 ·have Q1:=ce_i (((y^n:Nat)):Int) (((z0.natAbs:Nat)):Int) (by omega) (by omega) 7 (by decide) (by rw[Int.natAbs_natCast];exact plen hy hn.2) (by rw[Int.natAbs_natCast];omega)
  exact lrn_o z0 y n m r0 r1 n _ _ j (Nat.le_refl _) _ (by decide) Q1 _ (by decide) Q2 h1
end Go.Proofs.YtldoiilgfcpipaaGreatDoor
