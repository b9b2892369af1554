import Derived.Test.YtldoiilgfcpipaaGreatDoorPCnt
import Derived.Test.YtldoiilgfcpipaaGreatDoorLE
import Derived.Test.YtldoiilgfcpipaaGreatDoorK
import Derived.Test.YtldoiilgfcpipaaGreatDoorPLoseMany
import Derived.Test.YtldoiilgfcpipaaGreatDoorPDigits
import Derived.Test.YtldoiilgfcpipaaGreatDoorLF
set_option linter.unusedVariables false
set_option linter.unusedSimpArgs false
set_option maxRecDepth 100000
namespace Go.Proofs.YtldoiilgfcpipaaGreatDoor
open Go Go.AE Seg
theorem nf_o(x a b:Nat)(ha:a=x%1000000000)(hb:b=x/1000000000)(hx:x<1000000000000000000):CT 157 #[(nU x)] (mkH 5 []) (sl 5 (top ([a,b]) 2) (top ([a,b]) 2)) (mkH 6 [(5,(cU ([a,b])))]):=
 sF (sc:=[(7,.op (.rwI (a:Int))),(0,.op (.rwI (a:Int))),(1,.op (.rwI (b:Int))),(0,.op (.rwI (b:Int))),(1,.call [5] (sl 5 (top ([a,b]) 2) (top ([a,b]) 2)) [(5,some (cU ([a,b])))] []),(3,.stay)]) (by kernel_rfl) (aI (show (Int.tmod (x:Int) (1000000000:Int))=(a:Int) from (by rw[Int.tmod_eq_emod_of_nonneg (by omega)]<;>omega)) (aI (wU32 (a:=(a:Int)) (r:=(a:Int))) (aI (show IntKind.wrap .u64 (Int.tdiv (x:Int) (1000000000:Int))=(b:Int) from (by rw[Int.tdiv_eq_ediv_of_nonneg (by omega),wrap_u64 (by omega) (by omega)]<;>omega)) (aI (wU32 (a:=(b:Int)) (r:=(b:Int))) (aI (trim_c 6 5 ([a,b]) 2 2 (by first|omega|exact Nat.le_refl _) (by first|omega|exact Nat.le_refl _) (by first|omega|exact Nat.le_refl _) (by first|omega|exact Nat.le_refl _)) tt))))) (Gets.refl _)
theorem two_val(a b:Nat):val [a,b]=a+1000000000*b:=by simp[val]
theorem nf_c(n0 x:Nat)(hG:5≤n0)(hx:x<1000000000000000000): ∃xs t,Lim xs∧xs.length=2∧t≤2∧(0<t→xs.getD (t-1) 0≠0)∧val (xs.take t)=x∧
  FT 157 #[.int .u64 (x:Nat)] n0 [] (sl n0 t t) [] [cU xs]:=by
 obtain⟨a,ha⟩: ∃a,a=x%1000000000:=⟨_,rfl⟩
 obtain⟨b,hb⟩: ∃b,b=x/1000000000:=⟨_,rfl⟩
 refine⟨[a,b],top [a,b] 2,?_,rfl,top_le _ _,top_pos _ _,?_,fsp_flat [] [] [] [5] [.cells (ns .u32 [a,b]) 121 none false] n0 (nf_o x a b ha hb hx) rfl rfl rfl (by simp) (by simp) hG rfl rfl (by simp[flat,ns_closed,AObj.ro]) (by simp) (by simp) rfl rfl rfl⟩
 ·intro z hz
  simp at hz
  omega
 ·rw[top_val,show List.take 2 [a,b]=[a,b] from rfl,two_val]
  omega
theorem cmpu_lt(a b:Nat)(h:a<b):CT 191 #[(nW a),(nW b)] (mkH 5 []) (.int .i64 (.negSucc 0)) (mkH 5 []):=
 sF (sc:=[(16,.op (.rwB false)),(18,.op (.rwB false)),(25,.op (.rwB true)),(7,.stay)]) (by kernel_rfl) (aI (nF (a:=(a:Int)) (b:=(a:Int))) (aI (nF (a:=(b:Int)) (b:=(b:Int))) (aI (dT (p:=(a:Int)<(b:Int))) tt))) (Gets.refl _)
theorem cmpu_gt(a b:Nat)(h:b<a):CT 191 #[(nW a),(nW b)] (mkH 5 []) (lI 1) (mkH 5 []):=
 sF (sc:=[(16,.op (.rwB false)),(18,.op (.rwB false)),(25,.op (.rwB false)),(8,.op (.rwB true)),(7,.stay)]) (by kernel_rfl) (aI (nF (a:=(a:Int)) (b:=(a:Int))) (aI (nF (a:=(b:Int)) (b:=(b:Int))) (aI (dF (p:=(a:Int)<(b:Int))) (aI (dT (p:=(a:Int)>(b:Int))) tt)))) (Gets.refl _)
theorem cmpu_eq(a b:Nat)(h:a=b):CT 191 #[(nW a),(nW b)] (mkH 5 []) (lI 0) (mkH 5 []):=
 sF (sc:=[(16,.op (.rwB false)),(18,.op (.rwB false)),(25,.op (.rwB false)),(8,.op (.rwB false)),(8,.stay)]) (by kernel_rfl) (aI (nF (a:=(a:Int)) (b:=(a:Int))) (aI (nF (a:=(b:Int)) (b:=(b:Int))) (aI (dF (p:=(a:Int)<(b:Int))) (aI (dF (p:=(a:Int)>(b:Int))) tt)))) (Gets.refl _)
theorem cmpu_c(n0 a b:Nat)(hG:5≤n0):FT 191 #[.int .u32 (a:Nat),.int .u32 (b:Nat)] n0 [] (.int .i64 (cmpN a b)) [] []:=by
 have S:CT 191 #[(nW a),(nW b)] (mkH 5 []) (.int .i64 (cmpN a b)) (mkH 5 []):=by
  rcases Nat.lt_trichotomy a b with h|h|h
  ·rw[cmpN_lt h];exact cmpu_lt a b h
  ·rw[cmpN_eq h];exact cmpu_eq a b h
  ·rw[cmpN_gt h];exact cmpu_gt a b h
 exact fsp_flat [] [] [] [] [] n0 S rfl rfl rfl (by simp) (by simp) hG rfl rfl rfl (by simp) (by simp) rfl rfl rfl
noncomputable section
abbrev z_c9b_0(xs ys:List Nat):List (Nat×AObj):=[(5,(cU xs)),(6,(cU ys))]
end
theorem cmp_lt(xs ys:List Nat)(n c k e:Nat)(hn:n<1099511627776)(hkm:k<1099511627776)(hlt:n<k):CT 152 #[(sl 5 n c),(sl 6 k e)] (mkH 7 (z_c9b_0 xs ys)) (.int .i64 (.negSucc 0)) (mkH 7 (z_c9b_0 xs ys)):=
 sF (sc:=[(11,.op (.rwB true)),(25,.op (.rwB false)),(18,.op (.rwB false)),(25,.op (.rwB true)),(11,.stay)]) (by kernel_rfl) (aI (nT (a:=(n:Int)) (b:=(k:Int))) (aI (nF (a:=(n:Int)) (b:=(n:Int))) (aI (nF (a:=(k:Int)) (b:=(k:Int))) (aI (dT (p:=(n:Int)<(k:Int))) tt)))) (Gets.refl _)
theorem cmp_gt(xs ys:List Nat)(n c k e:Nat)(hn:n<1099511627776)(hkm:k<1099511627776)(hlt:k<n):CT 152 #[(sl 5 n c),(sl 6 k e)] (mkH 7 (z_c9b_0 xs ys)) (lI 1) (mkH 7 (z_c9b_0 xs ys)):=
 sF (sc:=[(11,.op (.rwB true)),(25,.op (.rwB false)),(18,.op (.rwB false)),(25,.op (.rwB false)),(8,.op (.rwB true)),(11,.stay)]) (by kernel_rfl) (aI (nT (a:=(n:Int)) (b:=(k:Int))) (aI (nF (a:=(n:Int)) (b:=(n:Int))) (aI (nF (a:=(k:Int)) (b:=(k:Int))) (aI (dF (p:=(n:Int)<(k:Int))) (aI (dT (p:=(n:Int)>(k:Int))) tt))))) (Gets.refl _)
noncomputable def cmp_h_f(xs ys:List Nat)(n c k e:Nat)(i:Int)(j:List Value):Frame:=⟨152,List.toArray [(sl 5 n c),(sl 6 k e),uu,uu,(J j 0),(.int .i64 i),(J j 1),(J j 2),(J j 3),(J j 4),bF,uu,uu,uu,uu,uu,(J j 5),(J j 6),(J j 7),(J j 8),(J j 9),(J j 10),(J j 11),(J j 12),(J j 13),(J j 14),(J j 15),(J j 16),(J j 17),(J j 18),(J j 19),(J j 20),(J j 21),(J j 22),(J j 23),(J j 24),(J j 25),(J j 26),(J j 27),(J j 28),(J j 29)],[.code (cd Tryz.f152 [1,1,0,1,0,0]),.inLoop (cd Tryz.f152 [1,1,0,1,0,0]),.inBlock 0,.code (cd Tryz.f152 [1,1,1])],[],.run,.normal,none⟩
noncomputable def cmp_h_o(xs ys:List Nat)(n c k e:Nat)(i:Int):List (Nat×AObj):=(z_c9b_0 xs ys)
noncomputable def cmp_h(xs ys:List Nat)(n c k e:Nat)(i:Int)(j:List Value):AS:=⟨cmp_h_f xs ys n c k e i j,[],mkH 7 (cmp_h_o xs ys n c k e i)⟩
theorem cmp_in(xs ys:List Nat)(n c k e:Nat)(hn:n<1099511627776)(hkm:k<1099511627776)(hnk:n=k):GT ⟨Frame.enter Tryz.prog 152 #[(sl 5 n c),(sl 6 k e)] .normal,[],mkH 7 (z_c9b_0 xs ys)⟩ (cmp_h xs ys n c k e ((n:Int)-1) [(lI 0),(sl 5 n c),(nI n),(sl 6 k e),(nI k),(sl 5 n c),(nI n),(.int .i64 ((n:Int)-1)),undef,undef,undef,undef,undef,undef,undef,undef,undef,undef,undef,undef,undef,undef,undef,undef,undef,undef,undef,undef,undef,undef]):=
 sR (sc:=[(11,.op (.rwB false)),(8,.op (.rwI ((n:Int)-1))),(4,.stay)]) (by kernel_rfl) (aI (nF (a:=(n:Int)) (b:=(k:Int))) (aI (wI64 (a:=((n:Int)-(1:Int))) (r:=((n:Int)-1))) tt))
theorem cmp_r(xs ys:List Nat)(n c k e:Nat)(i:Nat)(a b:Nat)(j:List Value)(hi:i<n)(hnk:n=k)(hc:n≤xs.length)(hk:k≤ys.length)(hn:n<1099511627776)(hx:(ns .u32 xs)[i]? =some (nW a))(hy:(ns .u32 ys)[i]? =some (nW b))(hab:a=b):GT (cmp_h xs ys n c k e (i:Int) j) (cmp_h xs ys n c k e ((i:Int)-1) [(J j 0),(J j 1),(J j 2),(J j 3),(J j 4),(J j 5),(J j 6),(J j 7),(nI i),bT,(nI i),(.int .i64 ((i:Int)-1)),(sl 5 n c),(nI i),(.pointer (some ⟨5,i,none⟩)),(nW a),(sl 6 k e),(nI i),(.pointer (some ⟨6,i,none⟩)),(nW b),bF,(J j 21),(J j 22),(J j 23),(J j 24),(J j 25),(J j 26),(J j 27),(J j 28),(J j 29)]):=
 sR (sc:=[(4,.op (.rwB true)),(6,.drw [(2,.idx i),(3,.ld (nW a)),(6,.idx i),(7,.ld (nW b)),(8,.rwB false)]),(5,.op (.rwI ((i:Int)-1))),(3,.stay)]) (by kernel_rfl) (aI (dT (p:=(i:Int)≥(0:Int))) (aI (aI tt (aI tt (aI (ix (i:Int) (n:Int) 0 1 i) (aI hx (aI tt (aI tt (aI (ix (i:Int) (k:Int) 0 1 i) (aI hy (aI (nF (a:=(a:Int)) (b:=(b:Int))) tt))))))))) (aI (wI64 (a:=((i:Int)-(1:Int))) (r:=((i:Int)-1))) tt)))
theorem cmp_o(xs ys:List Nat)(n c k e:Nat)(i:Nat)(a b:Nat)(j:List Value)(hi:i<n)(hnk:n=k)(hc:n≤xs.length)(hk:k≤ys.length)(hn:n<1099511627776)(hx:(ns .u32 xs)[i]? =some (nW a))(hy:(ns .u32 ys)[i]? =some (nW b))(hab:a≠b)(hr:GT ⟨Frame.enter Tryz.prog 152 #[(sl 5 n c),(sl 6 k e)] .normal,[],mkH 7 (z_c9b_0 xs ys)⟩ (cmp_h xs ys n c k e (i:Int) j)):CT 152 #[(sl 5 n c),(sl 6 k e)] (mkH 7 (z_c9b_0 xs ys)) (.int .i64 (cmpN a b)) (mkH 7 (z_c9b_0 xs ys)):=
 sF (sc:=[(4,.op (.rwB true)),(6,.drw [(2,.idx i),(3,.ld (nW a)),(6,.idx i),(7,.ld (nW b)),(8,.rwB true)]),(2,.drwM [(2,.idx i),(3,.ld (nW a)),(6,.idx i),(7,.ld (nW b))] [⟨8,[],(.int .i64 (cmpN a b)),[],[]⟩]),(1,.stay)]) (by kernel_rfl) (aI (dT (p:=(i:Int)≥(0:Int))) (aI (aI tt (aI tt (aI (ix (i:Int) (n:Int) 0 1 i) (aI hx (aI tt (aI tt (aI (ix (i:Int) (k:Int) 0 1 i) (aI hy (aI (nT (a:=(a:Int)) (b:=(b:Int))) tt))))))))) (aI (aI tt (aI tt (aI (ix (i:Int) (n:Int) 0 1 i) (aI hx (aI tt (aI tt (aI (ix (i:Int) (k:Int) 0 1 i) (aI hy (aI (cmpu_c 7 a b (by omega)) (aI tt tt)))))))))) tt))) hr
theorem cmp_e(xs ys:List Nat)(n c k e:Nat)(i:Int)(j:List Value)(hi:i<0)(hr:GT ⟨Frame.enter Tryz.prog 152 #[(sl 5 n c),(sl 6 k e)] .normal,[],mkH 7 (z_c9b_0 xs ys)⟩ (cmp_h xs ys n c k e i j)):CT 152 #[(sl 5 n c),(sl 6 k e)] (mkH 7 (z_c9b_0 xs ys)) (lI 0) (mkH 7 (z_c9b_0 xs ys)):=
 sF (sc:=[(4,.op (.rwB false)),(8,.stay)]) (by kernel_rfl) (aI (dF (p:=i≥(0:Int))) tt) hr
theorem cmp_loop{n c e:Nat}{xs ys:List Nat}(hlx:Lim xs)(hly:Lim ys)(hc:n≤xs.length)(hk:n≤ys.length)(hn:n<1099511627776): ∀(i:Nat) (j:List Value),i≤n→cmpN (val (xs.take n)) (val (ys.take n))=cmpN (val (xs.take i)) (val (ys.take i))→
  GT ⟨Frame.enter Tryz.prog 152 #[(sl 5 n c),(sl 6 n e)] .normal,[],mkH 7 [(5,(cU xs)),(6,(cU ys))]⟩ (cmp_h xs ys n c n e ((i:Int)-1) j)→CT 152 #[(sl 5 n c),(sl 6 n e)] (mkH 7 [(5,(cU xs)),(6,(cU ys))]) (.int .i64 (cmpN (val (xs.take n)) (val (ys.take n)))) (mkH 7 [(5,(cU xs)),(6,(cU ys))]):=by
 intro i
 induction i with
 |zero=>
  intro j _ ht hr
  have:=cmp_e xs ys n c n e _ j (by omega) hr
  rw[ht]
  exact this
 |succ i ih=>
  intro j hi ht hr
  rw[show ((i+1:Nat):Int)-1=(i:Int) by omega]at hr
  by_cases ha:xs.getD i 0=ys.getD i 0
  ·have r:=cmp_r xs ys n c n e i (xs.getD i 0) (ys.getD i 0) j (by omega) rfl hc hk hn (ns_get) (ns_get) ha
   exact ih _ (by omega) (by rw[ht,val_take_succ,val_take_succ,ha];exact cmpN_add _ _ _) (hr.trans r)
  ·have:=cmp_o xs ys n c n e i (xs.getD i 0) (ys.getD i 0) j (by omega) rfl hc hk hn (ns_get) (ns_get) ha hr
   rw[ht,val_take_succ,val_take_succ,cmpN_top (by have:=val_lt (hlx.take i);rw[List.length_take,Nat.min_eq_left (by omega)]at this;exact this) (by have:=val_lt (hly.take i);rw[List.length_take,Nat.min_eq_left (by omega)]at this;exact this) ha]
   exact this
theorem cmp_c(n0 bx byy:Nat)(xs ys:List Nat)(n c k e:Nat)(hb:5≤bx∧bx<n0∧5≤byy∧byy<n0∧bx≠byy)(hlx:Lim xs)(hly:Lim ys)(hc:n≤xs.length)(hk:k≤ys.length)(hn:n<1099511627776)(hkm:k<1099511627776)
  (hx:0<n→xs.getD (n-1) 0≠0) (hy:0<k→ys.getD (k-1) 0≠0):
  FT 152 #[sl bx n c,sl byy k e] n0 [(bx,cU xs),(byy,cU ys)] (.int .i64 (cmpN (val (xs.take n)) (val (ys.take k))))
    [(bx,some (cU xs)),(byy,some (cU ys))] []:=by
 have S:CT 152 #[(sl 5 n c),(sl 6 k e)] (mkH 7 [(5,(cU xs)),(6,(cU ys))]) (.int .i64 (cmpN (val (xs.take n)) (val (ys.take k)))) (mkH 7 [(5,(cU xs)),(6,(cU ys))]):=by
  by_cases hnk:n=k
  ·subst hnk
   refine cmp_loop hlx hly hc hk hn n _ (Nat.le_refl _) rfl (cmp_in xs ys n c n e hn hkm rfl)
  ·by_cases hlt:n<k
   ·rw[cmpN_lt (val_lt_of_len hlx hc hlt hy)]
    exact cmp_lt xs ys n c k e hn hkm hlt
   ·rw[cmpN_gt (val_lt_of_len hly hk (by omega) hx)]
    exact cmp_gt xs ys n c k e hn hkm (by omega)
 refine fsp_flat [bx,byy] [cU xs,cU ys] [cU xs,cU ys] [] [] n0 S rfl rfl rfl ?_ ?_ (by omega) ?_ ?_ rfl (by simp) (by simp) rfl rfl rfl
 ·simp[hb.2.2.2.2]
 ·simp;omega
 ·simp[flat,ns_closed]
 ·simp[flat,ns_closed]
theorem ov_l(xs ys:List Nat)(n c k e:Nat)(q:Int)(hq:q<0)(hc0:FT 152 #[(sl 5 n c),(sl 6 k e)] 7 [(5,(cU xs)),(6,(cU ys))] (.int .i64 q) [(5,some (cU xs)),(6,some (cU ys))] []):CT 116 #[(sl 5 n c),(sl 6 k e)] (mkH 7 [(5,(cU xs)),(6,(cU ys))]) (.tuple #[(.slice none 0 0),(sl 5 n c)]) (mkH 7 [(5,(cU xs)),(6,(cU ys))]):=
 sF (sc:=[(10,.call [5,6] (.int .i64 q) [(5,some (cU xs)),(6,some (cU ys))] []),(0,.op (.rwB true)),(9,.stay)]) (by kernel_rfl) (aI hc0 (aI (dT (p:=q<(0:Int))) tt)) (Gets.refl _)
theorem ov_1(xs ys:List Nat)(n c k e:Nat)(q:Int)(hq: ¬q<0)(hc:n≤xs.length)(hm:n<1099511627776)(ha:ys.getD 0 0<1000000000)(hy:1≤ys.length)(hc0:FT 152 #[(sl 5 n c),(sl 6 1 e)] 7 [(5,(cU xs)),(6,(cU ys))] (.int .i64 q) [(5,some (cU xs)),(6,some (cU ys))] [])(zs:List Nat)(r:Nat)(hz:zs.length=n)(hc2:FT 155 #[(sl 7 n n),(nU (ys.getD 0 0))] 8 [(7,(.cells (ns .u32 (xs.take n++List.replicate (n-n) 0)) 121 none false))] (nU r) [(7,some (cU zs))] [])(rs:List Nat)(u:Nat)(hc4:FT 157 #[(nU r)] 8 [] (sl 8 u u) [] [(cU rs)]):CT 116 #[(sl 5 n c),(sl 6 1 e)] (mkH 7 [(5,(cU xs)),(6,(cU ys))]) (.tuple #[(sl 7 (top zs n) (top zs n)),(sl 8 u u)]) (mkH 9 [(5,(cU xs)),(6,(cU ys)),(7,(cU zs)),(8,(cU rs))]):=
 sF (sc:=[(10,.call [5,6] (.int .i64 q) [(5,some (cU xs)),(6,some (cU ys))] []),(0,.op (.rwB false)),(16,.call [5] (sl 7 n n) [(5,some (cU xs))] [(.cells (ns .u32 (xs.take n++List.replicate (n-n) 0)) 121 none false)]),(7,.op (.ld (nW (ys.getD 0 0)))),(0,.op (.rwI (((ys.getD 0 0):Nat):Int))),(0,.call [7] (nU r) [(7,some (cU zs))] []),(5,.call [7] (sl 7 (top zs n) (top zs n)) [(7,some (cU zs))] []),(1,.call [] (sl 8 u u) [] [(cU rs)]),(4,.stay)]) (by kernel_rfl) (aI hc0 (aI (dF (p:=q<(0:Int))) (aI (copied_c 7 5 xs n c n (by omega) (by omega) (by omega) (by omega)) (aI (ns_get (k:=.u32) (xs:=ys) (i:=0)) (aI (wU64 (a:=(((ys.getD 0 0):Nat):Int)) (r:=(((ys.getD 0 0):Nat):Int))) (aI hc2 (aI (trim_c 8 7 zs n n (by omega) (by omega) (by omega) (by omega)) (aI hc4 tt)))))))) (Gets.refl _)
theorem ov_2(xs ys:List Nat)(n c k e:Nat)(q:Int)(hq: ¬q<0)(hc0:FT 152 #[(sl 5 n c),(sl 6 (k+2) e)] 7 [(5,(cU xs)),(6,(cU ys))] (.int .i64 q) [(5,some (cU xs)),(6,some (cU ys))] [])(zs rs:List Nat)(t u:Nat)(hc2:FT 158 #[(sl 5 n c),(sl 6 (k+2) e)] 7 [(5,(cU xs)),(6,(cU ys))] (.tuple #[(sl 7 t t),(sl 8 u u)]) [(5,some (cU xs)),(6,some (cU ys))] [(cU zs),(cU rs)]):CT 116 #[(sl 5 n c),(sl 6 (k+2) e)] (mkH 7 [(5,(cU xs)),(6,(cU ys))]) (.tuple #[(sl 7 t t),(sl 8 u u)]) (mkH 9 [(5,(cU xs)),(6,(cU ys)),(7,(cU zs)),(8,(cU rs))]):=
 sF (sc:=[(10,.call [5,6] (.int .i64 q) [(5,some (cU xs)),(6,some (cU ys))] []),(0,.op (.rwB false)),(8,.op (.rwB false)),(7,.call [5,6] (.tuple #[(sl 7 t t),(sl 8 u u)]) [(5,some (cU xs)),(6,some (cU ys))] [(cU zs),(cU rs)]),(6,.stay)]) (by kernel_rfl) (aI hc0 (aI (dF (p:=q<(0:Int))) (aI (eF (a:=(((k+2):Nat):Int)) (b:=(1:Int))) (aI hc2 tt)))) (Gets.refl _)
theorem ov_c(n0 bx byy:Nat)(xs ys:List Nat)(n c k e:Nat)(hb:5≤bx∧bx<n0∧5≤byy∧byy<n0∧bx≠byy)(hlx:Lim xs)(hly:Lim ys)(hc:n≤xs.length)(hk:k≤ys.length)(hm:n+1<1099511627776)(hkm:k<1099511627776)(hx:0<n→xs.getD (n-1) 0≠0)(hy:0<k→ys.getD (k-1) 0≠0)(h0:0<k):
  (val (xs.take n)<val (ys.take k)∧FT 116 #[sl bx n c,sl byy k e] n0 [(bx,cU xs),(byy,cU ys)] (.tuple #[.slice none 0 0,sl bx n c]) [(bx,some (cU xs)),(byy,some (cU ys))] [])∨
  (val (ys.take k)≤val (xs.take n)∧ ∃zs t rs u,Lim zs∧t≤zs.length∧t≤n∧(0<t→zs.getD (t-1) 0≠0)∧val (zs.take t)=val (xs.take n)/val (ys.take k)∧
   Lim rs∧u≤rs.length∧u≤n+2∧(0<u→rs.getD (u-1) 0≠0)∧val (rs.take u)=val (xs.take n)%val (ys.take k)∧
   FT 116 #[sl bx n c,sl byy k e] n0 [(bx,cU xs),(byy,cU ys)] (.tuple #[sl n0 t t,.slice (some ⟨(n0+1),0,none⟩) u u]) [(bx,some (cU xs)),(byy,some (cU ys))] [cU zs,cU rs]):=by
 have hq:=cmp_c 7 5 6 xs ys n c k e (by omega) hlx hly hc hk (by omega) hkm hx hy
 by_cases hlt:val (xs.take n)<val (ys.take k)
 ·left
  refine⟨hlt,?_⟩
  have S:=ov_l xs ys n c k e _ (cmpN_neg.2 hlt) hq
  exact fsp_flat [bx,byy] [cU xs,cU ys] [cU xs,cU ys] [] [] n0 S rfl rfl rfl (by simp[hb.2.2.2.2]) (by simp;omega) (by omega) (by simp[flat,ns_closed]) (by simp[flat,ns_closed]) rfl (by simp) (by simp) rfl rfl rfl
 ·right
  have hge: ¬cmpN (val (xs.take n)) (val (ys.take k))<0:=fun q=>hlt (cmpN_neg.1 q)
  have hkn:k≤n:=by
   rcases Nat.lt_or_ge n k with h|h
   ·exact absurd (val_lt_of_len hlx hc h hy) hlt
   ·exact h
  refine⟨by omega,?_⟩
  have hk2:k=1∨ ∃k',k=k'+2:=by
   rcases Nat.lt_or_ge k 2 with h|h
   ·exact .inl (by omega)
   ·exact .inr ⟨k-2,by omega⟩
  rcases hk2 with rfl|⟨k',rfl⟩
  ·have ha:=hly.get 0
   have ha0:ys.getD 0 0≠0:=hy h0
   have lx:(xs.take n++List.replicate (n-n) 0).length=n:=by rw[List.length_append,List.length_take,List.length_replicate];omega
   have vx:val (xs.take n++List.replicate (n-n) 0)=val (xs.take n):=by rw[val_append,val_replicate,Nat.mul_zero,Nat.add_zero]
   have vy:val (ys.take 1)=ys.getD 0 0:=by rw[show (1:Nat)=0+1 from rfl,val_take_succ,List.take_zero,show val []=0 from rfl];simp
   obtain⟨zs,r,a1,a2,a3,a4,T⟩:=sh_c 8 7 (xs.take n++List.replicate (n-n) 0) n n (ys.getD 0 0) (by omega) ((hlx.take n).append (Lim.replicate _)) lx (by omega) (by omega) (by omega)
   rw[vx]at a4
   obtain⟨rs,u,b1,b2,b3,b4,b5,T2⟩:=nf_c 8 r (by omega) (by omega)
   have S:=ov_1 xs ys n c 1 e _ hge hc (by omega) ha (by omega) hq zs r a1 T rs u T2
   have htq:=top_le zs n
   have hdm:=(Nat.div_mod_unique (show 0<ys.getD 0 0 by omega)).2 (show r+ys.getD 0 0*val zs=val (xs.take n)∧r<ys.getD 0 0 from⟨by omega,a3⟩)
   refine⟨zs,top zs n,rs,u,a2,by omega,htq,top_pos _ _,?_,b1,by omega,by omega,b4,?_,fsp_flat [bx,byy] [cU xs,cU ys] [cU xs,cU ys] [7,8] [cU zs,cU rs] n0 S rfl rfl rfl (by simp[hb.2.2.2.2]) (by simp;omega) (by omega) (by simp[flat,ns_closed]) (by simp[flat,ns_closed]) (by simp[flat,ns_closed,AObj.ro]) (by simp) (by simp) rfl rfl rfl⟩
   ·rw[top_val,List.take_of_length_le (by omega),vy,hdm.1]
   ·rw[b5,vy,hdm.2]
  ·obtain⟨zs,t,rs,u,a1,a2,a3,a4,a5,b1,b2,b3,b4,b5,T⟩:=ld_c 7 5 6 xs ys n c k' e (n-(k'+2)) (by omega) hlx hly hc hk (by omega) (by omega) (hy h0)
   have S:=ov_2 xs ys n c k' e _ hge hq zs rs t u T
   exact⟨zs,t,rs,u,a1,a2,a3,a4,a5,b1,b2,by omega,b4,b5,fsp_flat [bx,byy] [cU xs,cU ys] [cU xs,cU ys] [7,8] [cU zs,cU rs] n0 S rfl rfl rfl (by simp[hb.2.2.2.2]) (by simp;omega) (by omega) (by simp[flat,ns_closed]) (by simp[flat,ns_closed]) (by simp[flat,ns_closed,AObj.ro]) (by simp) (by simp) rfl rfl rfl⟩
noncomputable section
abbrev z_35d_0(a q i k e n c:Nat)(j:List Value):List Value:=[(nW (a+q)),(nI i),(sl 6 k e),(nI k),bF,bF,(nW q),bT,bT,(nI i),(nI (i+1)),(sl 5 n c),(nI i),(.pointer (some ⟨5,i,none⟩)),(nW a),(nW q),(nW (a+q)),(nI i),(sl 6 k e),(nI k),bF,(J j 21),(J j 22),(J j 23),(J j 24),(J j 25),(J j 26),(nW (a+q)),(nW ((a+q)/1000000000)),(sl 5 n c),(nI i),(nW (a+q)),(nW ((a+q)%1000000000)),(.pointer (some ⟨5,i,none⟩))]
end
noncomputable def gain_h_f(xs ys:List Nat)(n c k e:Nat)(q i:Nat)(j:List Value):Frame:=⟨189,List.toArray [(sl 5 n c),(sl 6 k e),uu,uu,(nW q),(nI i),(J j 0),(J j 1),(J j 2),(J j 3),(J j 4),(J j 5),(J j 6),(J j 7),(J j 8),(J j 9),(J j 10),(J j 11),(J j 12),(J j 13),(J j 14),(J j 15),(J j 16),(J j 17),(J j 18),(J j 19),(J j 20),(J j 21),(J j 22),(J j 23),(J j 24),(J j 25),(J j 26),(J j 27),(J j 28),(J j 29),(J j 30),(J j 31),(J j 32),(J j 33)],[.code (cd Tryz.f189 [1,1,0,0]),.inLoop (cd Tryz.f189 [1,1,0,0]),.inBlock 0],[],.run,.normal,none⟩
noncomputable def gain_h_o(xs ys:List Nat)(n c k e:Nat)(q i:Nat):List (Nat×AObj):=[(5,(cU xs)),(6,(cU ys))]
noncomputable def gain_h(xs ys:List Nat)(n c k e:Nat)(q i:Nat)(j:List Value):AS:=⟨gain_h_f xs ys n c k e q i j,[],mkH 7 (gain_h_o xs ys n c k e q i)⟩
theorem gain_in(xs ys:List Nat)(n c k e:Nat):GT ⟨Frame.enter Tryz.prog 189 #[(sl 5 n c),(sl 6 k e)] .normal,[],mkH 7 [(5,(cU xs)),(6,(cU ys))]⟩ (gain_h xs ys n c k e 0 0 [undef,undef,undef,undef,undef,undef,undef,undef,undef,undef,undef,undef,undef,undef,undef,undef,undef,undef,undef,undef,undef,undef,undef,undef,undef,undef,undef,undef,undef,undef,undef,undef,undef,undef]):=
 sR (sc:=[(10,.stay)]) (by kernel_rfl) tt
theorem gain_r1(xs ys:List Nat)(n c k e q i a b:Nat)(j:List Value)(hi:i<k)(hn:i<n)(hc:n≤xs.length)(hm:n<9223372036854775807)(hkm:k<9223372036854775807)(hb:b<1000000000)(ha:a<1000000000)(hq:q≤1)(hx:(ns .u32 xs)[i]? =some (nW a))(hy:(ns .u32 ys)[i]? =some (nW b)):GT (gain_h xs ys n c k e q i j) (gain_h (xs.set i (((a+q)+b)%1000000000)) ys n c k e (((a+q)+b)/1000000000) (i+1) [(nW ((a+q)+b)),(nI i),(sl 6 k e),(nI k),bT,bT,undef,undef,bT,(nI i),(nI (i+1)),(sl 5 n c),(nI i),(.pointer (some ⟨5,i,none⟩)),(nW a),(nW q),(nW (a+q)),(nI i),(sl 6 k e),(nI k),bT,(nW (a+q)),(sl 6 k e),(nI i),(.pointer (some ⟨6,i,none⟩)),(nW b),(nW ((a+q)+b)),(nW ((a+q)+b)),(nW (((a+q)+b)/1000000000)),(sl 5 n c),(nI i),(nW ((a+q)+b)),(nW (((a+q)+b)%1000000000)),(.pointer (some ⟨5,i,none⟩))]):=
 sR (sc:=[(6,.op (.rwB true)),(13,.op (.idx i)),(0,.op (.ld (nW a))),(1,.op (.rwI (((a+q):Nat):Int))),(8,.op (.rwB true)),(6,.op (.idx i)),(0,.op (.ld (nW b))),(0,.op (.rwI ((((a+q)+b):Nat):Int))),(5,.op (.rwI (((((a+q)+b)/1000000000):Nat):Int))),(6,.op (.rwI (((((a+q)+b)%1000000000):Nat):Int))),(0,.op (.idx i)),(0,.op (.st (ns .u32 (xs.set i (((a+q)+b)%1000000000))))),(4,.op (.rwI (((i+1):Nat):Int))),(3,.stay)]) (by kernel_rfl) (aI (dT (p:=(i:Int)<(k:Int))) (aI (ix (i:Int) (n:Int) 0 1 i) (aI hx (aI (wU32 (a:=((a:Int)+(q:Int))) (r:=(((a+q):Nat):Int))) (aI (dT (p:=(i:Int)<(k:Int))) (aI (ix (i:Int) (k:Int) 0 1 i) (aI hy (aI (wU32 (a:=((((a+q):Nat):Int)+(b:Int))) (r:=((((a+q)+b):Nat):Int))) (aI (show IntKind.wrap .u32 (Int.tdiv ((((a+q)+b):Nat):Int) (1000000000:Int))=(((((a+q)+b)/1000000000):Nat):Int) from (by rw[Int.tdiv_eq_ediv_of_nonneg (by omega),wrap_u32 (by omega) (by omega)]<;>omega)) (aI (show (Int.tmod ((((a+q)+b):Nat):Int) (1000000000:Int))=(((((a+q)+b)%1000000000):Nat):Int) from (by rw[Int.tmod_eq_emod_of_nonneg (by omega)]<;>omega)) (aI (ix (i:Int) (n:Int) 0 1 i) (aI (show i+1≤(ns .u32 xs).length∧lspl (ns .u32 xs) i [(nW (((a+q)+b)%1000000000))]=(ns .u32 (xs.set i (((a+q)+b)%1000000000))) from (ns_set)) (aI (wI64 (a:=((i:Int)+(1:Int))) (r:=(((i+1):Nat):Int))) tt)))))))))))))
theorem gain_r2(xs ys:List Nat)(n c k e q i a:Nat)(j:List Value)(hi:k≤i)(hn:i<n)(hc:n≤xs.length)(hm:n<9223372036854775807)(hq:q=1)(ha:a<1000000000)(hx:(ns .u32 xs)[i]? =some (nW a)):GT (gain_h xs ys n c k e q i j) (gain_h (xs.set i ((a+q)%1000000000)) ys n c k e ((a+q)/1000000000) (i+1) (z_35d_0 a q i k e n c j)):=
 sR (sc:=[(6,.op (.rwB false)),(2,.op (.rwB true)),(10,.op (.idx i)),(0,.op (.ld (nW a))),(1,.op (.rwI (((a+q):Nat):Int))),(8,.op (.rwB false)),(6,.op (.rwI ((((a+q)/1000000000):Nat):Int))),(6,.op (.rwI ((((a+q)%1000000000):Nat):Int))),(0,.op (.idx i)),(0,.op (.st (ns .u32 (xs.set i ((a+q)%1000000000))))),(4,.op (.rwI (((i+1):Nat):Int))),(3,.stay)]) (by kernel_rfl) (aI (dF (p:=(i:Int)<(k:Int))) (aI (dT (p:=(q:Int)>(0:Int))) (aI (ix (i:Int) (n:Int) 0 1 i) (aI hx (aI (wU32 (a:=((a:Int)+(q:Int))) (r:=(((a+q):Nat):Int))) (aI (dF (p:=(i:Int)<(k:Int))) (aI (show IntKind.wrap .u32 (Int.tdiv (((a+q):Nat):Int) (1000000000:Int))=((((a+q)/1000000000):Nat):Int) from (by rw[Int.tdiv_eq_ediv_of_nonneg (by omega),wrap_u32 (by omega) (by omega)]<;>omega)) (aI (show (Int.tmod (((a+q):Nat):Int) (1000000000:Int))=((((a+q)%1000000000):Nat):Int) from (by rw[Int.tmod_eq_emod_of_nonneg (by omega)]<;>omega)) (aI (ix (i:Int) (n:Int) 0 1 i) (aI (show i+1≤(ns .u32 xs).length∧lspl (ns .u32 xs) i [(nW ((a+q)%1000000000))]=(ns .u32 (xs.set i ((a+q)%1000000000))) from (ns_set)) (aI (wI64 (a:=((i:Int)+(1:Int))) (r:=(((i+1):Nat):Int))) tt)))))))))))
theorem gain_out(xs0 xs ys:List Nat)(n c k e q i:Nat)(j:List Value)(hi:k≤i)(hq:q=0)(hr:GT ⟨Frame.enter Tryz.prog 189 #[(sl 5 n c),(sl 6 k e)] .normal,[],mkH 7 [(5,(cU xs0)),(6,(cU ys))]⟩ (gain_h xs ys n c k e q i j)):CT 189 #[(sl 5 n c),(sl 6 k e)] (mkH 7 [(5,(cU xs0)),(6,(cU ys))]) undef (mkH 7 [(5,(cU xs)),(6,(cU ys))]):=
 sF (sc:=[(6,.op (.rwB false)),(2,.op (.rwB false)),(5,.stay)]) (by kernel_rfl) (aI (dF (p:=(i:Int)<(k:Int))) (aI (dF (p:=(q:Int)>(0:Int))) tt)) hr
theorem gain_loop{s0:AS}{ys:List Nat}{n k e T:Nat}(hly:Lim ys)(hk:k≤ys.length)(hkn:k≤n)(hn:n<9223372036854775807)(hT:T<1000000000^n):
  ∀(m:Nat) (xs:List Nat) (q i:Nat) (j:List Value),m=n-i→xs.length=n→Lim xs→i≤n→q≤1→val xs+q*1000000000^i+1000000000^i*val ((ys.take k).drop i)=T→
   GT s0 (gain_h xs ys n n k e q i j)→ ∃zs i' j',k≤i'∧zs.length=n∧Lim zs∧val zs=T∧GT s0 (gain_h zs ys n n k e 0 i' j'):=by
 intro m
 induction m with
 |zero=>
  intro xs q i j hm hx hl hi hq hv hr
  have hin:i=n:=by omega
  subst hin
  have hq0:q=0:=by
   rcases Nat.eq_zero_or_pos q with h|h
   ·exact h
   ·have:=Nat.mul_le_mul_right (1000000000^i) h
    omega
  subst hq0
  refine⟨xs,i,j,hkn,hx,hl,?_,hr⟩
  rw[List.drop_eq_nil_of_le (by rw[List.length_take];omega)]at hv
  exact nil_end hv
 |succ m ih=>
  intro xs q i j hm hx hl hi hq hv hr
  have hP:1000000000^(i+1)=1000000000^i*1000000000:=Nat.pow_succ ..
  by_cases hik:i<k
  ·have ha:=hl.get i
   have hb:=hly.get i
   have r:=gain_r1 xs ys n n k e q i (xs.getD i 0) (ys.getD i 0) j hik (by omega) (by omega) hn (by omega) hb ha hq (ns_get) (ns_get)
   refine ih _ _ _ _ (by omega) (by simpa using hx) (hl.set (Nat.mod_lt _ (by decide))) (by omega) (by omega) ?_ (hr.trans r)
   have h1:=val_set xs i ((xs.getD i 0+q+ys.getD i 0)%1000000000) (by omega)
   have h2:val ((ys.take k).drop i)=ys.getD i 0+1000000000*val ((ys.take k).drop (i+1)):=by
    rw[val_drop (by rw[List.length_take];omega),getD_take hik]
   rw[h2]at hv
   rw[hP]
   exact carry_step h1 hv
  ·by_cases hq1:q=1
   ·subst hq1
    have hin:i<n:=by
     rcases Nat.lt_or_ge i n with h|h
     ·exact h
     ·have:=pow_le h
      omega
    have ha:=hl.get i
    have r:=gain_r2 xs ys n n k e 1 i (xs.getD i 0) j (by omega) hin (by omega) hn rfl ha (ns_get)
    refine ih _ _ _ _ (by omega) (by simpa using hx) (hl.set (Nat.mod_lt _ (by decide))) (by omega) (by omega) ?_ (hr.trans r)
    have h1:=val_set xs i ((xs.getD i 0+1)%1000000000) (by omega)
    rw[List.drop_eq_nil_of_le (by rw[List.length_take];omega)]at hv ⊢
    rw[hP]
    exact nil_add (carry_step0 h1 (nil_one hv))
   ·have hq0:q=0:=by omega
    subst hq0
    refine⟨xs,i,j,by omega,hx,hl,?_,hr⟩
    rw[List.drop_eq_nil_of_le (by rw[List.length_take];omega)]at hv
    exact nil_end hv
theorem gain_c(n0 bx byy:Nat)(xs ys:List Nat)(k e:Nat)(hb:5≤bx∧bx<n0∧5≤byy∧byy<n0∧bx≠byy)(hlx:Lim xs)(hly:Lim ys)(hk:k≤ys.length)(hkn:k≤xs.length)(hn:xs.length<9223372036854775807)
  (hT:val xs+val (ys.take k)<1000000000^xs.length):
  ∃zs,zs.length=xs.length∧Lim zs∧val zs=val xs+val (ys.take k)∧
   FT 189 #[sl bx xs.length xs.length,sl byy k e] n0 [(bx,cU xs),(byy,cU ys)] undef
    [(bx,some (cU zs)),(byy,some (cU ys))] []:=by
 have r:=gain_in xs ys xs.length xs.length k e
 obtain⟨zs,i',j',h1,h2,h3,h4,h5⟩:=gain_loop (T:=val xs+val (ys.take k)) hly hk hkn hn hT _ xs 0 0 _ rfl rfl hlx (by omega) (by omega) (by simp) r
 have S:=gain_out xs zs ys xs.length xs.length k e 0 i' j' h1 rfl h5
 refine⟨zs,h2,h3,h4,fsp_flat [bx,byy] [cU xs,cU ys] [cU zs,cU ys] [] [] n0 S rfl rfl rfl ?_ ?_ (by omega) ?_ ?_ rfl (by simp) (by simp) rfl rfl rfl⟩
 ·simp[hb.2.2.2.2]
 ·simp;omega
 ·simp[flat,ns_closed]
 ·simp[flat,ns_closed]
theorem plus_o(xs ys:List Nat)(n c k e:Nat)(hc:n≤xs.length)(hk:k≤ys.length)(hn:n<1099511627776)(hkm:k<1099511627776)(zs0:List Nat)(hz:zs0.length=max n k+1)(hc1:FT 189 #[(sl 7 ((max n k)+1) ((max n k)+1)),(sl 6 k e)] 8 [(7,(.cells (ns .u32 (xs.take n++List.replicate (((max n k)+1)-n) 0)) 121 none false)),(6,(cU ys))] undef [(7,some (cU zs0)),(6,some (cU ys))] []):CT 151 #[(sl 5 n c),(sl 6 k e)] (mkH 7 [(5,(cU xs)),(6,(cU ys))]) (sl 7 (top zs0 ((max n k)+1)) (top zs0 ((max n k)+1))) (mkH 8 [(5,(cU xs)),(6,(cU ys)),(7,(cU zs0))]):=
 sF (sc:=[(11,.op (.rwI (((max n k):Nat):Int))),(0,.op (.rwI ((((max n k)+1):Nat):Int))),(0,.call [5] (sl 7 ((max n k)+1) ((max n k)+1)) [(5,some (cU xs))] [(.cells (ns .u32 (xs.take n++List.replicate (((max n k)+1)-n) 0)) 121 none false)]),(6,.call [7,6] uu [(7,some (cU zs0)),(6,some (cU ys))] []),(4,.call [7] (sl 7 (top zs0 ((max n k)+1)) (top zs0 ((max n k)+1))) [(7,some (cU zs0))] []),(3,.stay)]) (by kernel_rfl) (aI (show (if (k:Int)>(n:Int) then (k:Int) else (n:Int))=(((max n k):Nat):Int) from (by omega)) (aI (wI64 (a:=((((max n k):Nat):Int)+(1:Int))) (r:=((((max n k)+1):Nat):Int))) (aI (copied_c 7 5 xs n c ((max n k)+1) (by omega) (by omega) (by omega) (by omega)) (aI hc1 (aI (trim_c 8 7 zs0 ((max n k)+1) ((max n k)+1) (by omega) (by rw[hz];exact Nat.le_refl _) (by omega) (by omega)) tt))))) (Gets.refl _)
theorem plus_c(n0 bx byy:Nat)(xs ys:List Nat)(n c k e:Nat)(hb:5≤bx∧bx<n0∧5≤byy∧byy<n0∧bx≠byy)(hlx:Lim xs)(hly:Lim ys)(hc:n≤xs.length)(hk:k≤ys.length)(hn:n<1099511627776)(hkm:k<1099511627776):
  ∃zs t,Lim zs∧t≤zs.length∧t≤max n k+1∧(0<t→zs.getD (t-1) 0≠0)∧val (zs.take t)=val (xs.take n)+val (ys.take k)∧
   FT 151 #[sl bx n c,sl byy k e] n0 [(bx,cU xs),(byy,cU ys)] (sl n0 t t)
    [(bx,some (cU xs)),(byy,some (cU ys))] [cU zs]:=by
 have hl1:(xs.take n++List.replicate (max n k+1-n) 0).length=max n k+1:=by rw[List.length_append,List.length_take,List.length_replicate];omega
 have hv1:val (xs.take n++List.replicate (max n k+1-n) 0)=val (xs.take n):=by rw[val_append,val_replicate,Nat.mul_zero,Nat.add_zero]
 have hx1:=val_lt (hlx.take n)
 have hy1:=val_lt (hly.take k)
 have hx2:val (xs.take n)<1000000000^max n k:=Nat.lt_of_lt_of_le hx1 (pow_le (by rw[List.length_take];omega))
 have hy2:val (ys.take k)<1000000000^max n k:=Nat.lt_of_lt_of_le hy1 (pow_le (by rw[List.length_take];omega))
 obtain⟨zs,h1,h2,h3,h4⟩:=gain_c 8 7 6 (xs.take n++List.replicate (max n k+1-n) 0) ys k e (by omega) ((hlx.take n).append (Lim.replicate _)) hly hk (by rw[hl1];omega) (by rw[hl1];omega) (by rw[hl1,hv1];exact sum_lt hx2 hy2)
 rw[hl1]at h1 h4
 have S:=plus_o xs ys n c k e hc hk hn hkm zs h1 h4
 have htl:=top_le zs (max n k+1)
 refine⟨zs,top zs (max n k+1),h2,by rw[h1];exact htl,htl,top_pos zs _,?_,fsp_flat [bx,byy] [cU xs,cU ys] [cU xs,cU ys] [7] [cU zs] n0 S rfl rfl rfl ?_ ?_ (by omega) ?_ ?_ ?_ (by simp) (by simp) rfl rfl rfl⟩
 ·rw[top_val,List.take_of_length_le (by rw[h1];exact Nat.le_refl _),h3,hv1]
 ·simp[hb.2.2.2.2]
 ·simp;omega
 ·simp[flat,ns_closed]
 ·simp[flat,ns_closed]
 ·simp[flat,ns_closed,AObj.ro]
noncomputable section
abbrev z_830_9(k e:Nat):Value:=.tuple #[(.slice none 0 0),(sl 5 k e)]
abbrev z_830_0(ovt1 k e t n n1 pc nft0 mt plt oru1 nft3:Nat)(q:Int):List Value:=[(sl 7 ovt1 ovt1),(sl 5 k e),(z_830_9 k e),(sl 5 k e),(sl 8 t t),(nI n),(nI n1),(sl 9 pc pc),(z_830_9 k e),(.slice none 0 0),(sl 5 k e),(.slice none 0 0),(sl 8 t t),(nI n),(nI n1),(nU n1),(sl 10 nft0 nft0),(sl 11 2 2),(sl 12 mt mt),(sl 13 plt plt),(.tuple #[(sl 7 ovt1 ovt1),(sl 14 oru1 oru1)]),(sl 13 plt plt),(nI n),(nU n),(sl 15 nft3 nft3),(.tuple #[(sl 7 ovt1 ovt1),(sl 14 oru1 oru1)]),(sl 7 ovt1 ovt1),(sl 14 oru1 oru1),(sl 7 ovt1 ovt1),(sl 8 t t),(.int .i64 q),bT,(sl 7 ovt1 ovt1)]
abbrev z_830_1(ovt3 oru0 ovt0 k e t n n1 pc nft0 mt plt oru3 nft3:Nat)(q:Int):List Value:=[(sl 7 ovt3 ovt3),(sl 8 oru0 oru0),(.tuple #[(sl 9 ovt0 ovt0),(sl 8 oru0 oru0)]),(sl 5 k e),(sl 10 t t),(nI n),(nI n1),(sl 11 pc pc),(.tuple #[(sl 9 ovt0 ovt0),(sl 8 oru0 oru0)]),(sl 9 ovt0 ovt0),(sl 8 oru0 oru0),(sl 9 ovt0 ovt0),(sl 10 t t),(nI n),(nI n1),(nU n1),(sl 12 nft0 nft0),(sl 13 2 2),(sl 14 mt mt),(sl 15 plt plt),(.tuple #[(sl 7 ovt3 ovt3),(sl 16 oru3 oru3)]),(sl 15 plt plt),(nI n),(nU n),(sl 17 nft3 nft3),(.tuple #[(sl 7 ovt3 ovt3),(sl 16 oru3 oru3)]),(sl 7 ovt3 ovt3),(sl 16 oru3 oru3),(sl 7 ovt3 ovt3),(sl 10 t t),(.int .i64 q),bT,(sl 7 ovt3 ovt3)]
abbrev z_830_2:List Value:=[undef,undef,undef,undef,undef,undef,undef,undef,undef,undef,undef,undef,undef,undef,undef,undef,undef,undef,undef,undef,undef,undef,undef,undef,undef,undef,undef,undef,undef,undef,undef,undef,undef]
abbrev z_830_3(t n1 pc:Nat)(zs ps:List Nat):Prop:=FT 140 #[(sl 7 t t),(nI n1),(lI 800)] 19 [(7,(cU zs))] (sl 19 pc pc) [(7,some (cU zs))] [(cU ps)]
abbrev z_830_4(ovt0 oru0:Nat):Value:=.tuple #[(sl 20 ovt0 ovt0),(sl 21 oru0 oru0)]
abbrev z_830_5(t nft0:Nat):AObj:=.cells [(sl 7 t t),(sl 22 nft0 nft0)] 75 none false
abbrev z_830_6(ovt3 oru3:Nat):Value:=.tuple #[(sl 27 ovt3 ovt3),(sl 28 oru3 oru3)]
abbrev z_830_7(t nft0:Nat):AObj:=.cells [(sl 7 t t),(sl 20 nft0 nft0)] 75 none false
abbrev z_830_8(ovt1 oru1:Nat):Value:=.tuple #[(sl 25 ovt1 ovt1),(sl 26 oru1 oru1)]
end
noncomputable def ro_h_f(xs zs:List Nat)(k e n g gn z gc t:Nat)(j:List Value):Frame:=⟨142,List.toArray [(sl 5 k e),(nI n),uu,uu,(.slice none 0 0),(sl 7 t t),(J j 0),(J j 1),(sl 5 k e),(nI k),bF,(sl 5 k e),(nI g),(nI n),(nI (g+n)),(nI gn),(nI n),(nI z),(sl 6 gc gc),(J j 2),(J j 3),(J j 4),(J j 5),(J j 6),(J j 7),(J j 8),(J j 9),(J j 10),(J j 11),(J j 12),(J j 13),(J j 14),(J j 15),(J j 16),(J j 17),(J j 18),(J j 19),(J j 20),(J j 21),(J j 22),(J j 23),(J j 24),(J j 25),(J j 26),(J j 27),(J j 28),(J j 29),(J j 30),(J j 31),(J j 32),uu],[.code (cd Tryz.f142 [1,0,1,1,1]),.inScope (cd Tryz.f142 [1,0])],[],.run,.normal,none⟩
noncomputable def ro_h_o(xs zs:List Nat)(k e n g gn z gc t:Nat):List (Nat×AObj):=[(5,(cU xs)),(7,(cU zs))]
noncomputable def ro_h(xs zs:List Nat)(k e n g gn z gc t:Nat)(j:List Value):AS:=⟨ro_h_f xs zs k e n g gn z gc t j,[],mkH 19 (ro_h_o xs zs k e n g gn z gc t)⟩
theorem ro_in{s0:AS}(hs0:s0.h.next=6)(xs:List Nat)(k e n n1:Nat)(hk:0<k)(hn:0<n)(hn2:n<64)(hn1:n1+1=n)(g:Nat)(gn z:Nat)(hg:g<1000)(hgn:gn+1=g+n)(hz:z=gn/n)(hc1:(FT 148 #[(sl 5 k e)] 6 [(5,(cU xs))] (nI g) [(5,some (cU xs))] []))(gs:List Nat)(gc:Nat)(hc3:(FT 181 #[(nI z)] 6 [] (sl 6 gc gc) [] [(cU gs)]))(hr:GT s0 ⟨Frame.enter Tryz.prog 142 #[(sl 5 k e),(nI n)] .normal,[],mkH 6 [(5,(cU xs))]⟩):GT s0 (ro_h xs gs k e n g gn z gc gc z_830_2):=by
 have h1:=hr.trans (sR (sc:=[(10,.op (.rwB false)),(6,.call [5] (nI g) [(5,some (cU xs))] []),(1,.op (.rwI (((g+n):Nat):Int))),(0,.op (.rwI (gn:Int))),(1,.op (.div (z:Int))),(0,.call [] (sl 6 gc gc) [] [(cU gs)]),(4,.stay)]) (fr1:=⟨142,List.toArray [(sl 5 k e),(nI n),uu,uu,(.slice none 0 0),(sl 6 gc gc),uu,uu,(sl 5 k e),(nI k),bF,(sl 5 k e),(nI g),(nI n),(nI (g+n)),(nI gn),(nI n),(nI z),(sl 6 gc gc),uu,uu,uu,uu,uu,uu,uu,uu,uu,uu,uu,uu,uu,uu,uu,uu,uu,uu,uu,uu,uu,uu,uu,uu,uu,uu,uu,uu,uu,uu,uu,uu],[.code (cd Tryz.f142 [1,0,1,1,1]),.inScope (cd Tryz.f142 [1,0])],[],.run,.normal,none⟩) (next:=7) (l:=[(5,(cU xs)),(6,(cU gs))]) (by kernel_rfl) (aI (show ((k:Int)==(0:Int))=false from (by simp;omega)) (aI hc1 (aI (show IntKind.wrap .i64 ((g:Int)+(n:Int))=(((g+n):Nat):Int) from (wrap_i64 (by omega) (by omega))) (aI (wI64 (a:=((((g+n):Nat):Int)-(1:Int))) (r:=(gn:Int))) (aI (show (n:Int)≠0∧IntKind.wrap .i64 (Int.tdiv (gn:Int) (n:Int))=(z:Int) from⟨by omega,by rw[hz];exact quo_wrap (by omega)⟩) (aI hc3 tt)))))))
 exact gets_tau (fr:=ro_h_f xs gs k e n g gn z gc gc z_830_2) (fr1:=⟨142,List.toArray [(sl 5 k e),(nI n),undef,undef,(.slice none 0 0),(sl 6 gc gc),undef,undef,(sl 5 k e),(nI k),bF,(sl 5 k e),(nI g),(nI n),(nI (g+n)),(nI gn),(nI n),(nI z),(sl 6 gc gc),undef,undef,undef,undef,undef,undef,undef,undef,undef,undef,undef,undef,undef,undef,undef,undef,undef,undef,undef,undef,undef,undef,undef,undef,undef,undef,undef,undef,undef,undef,undef,undef],[.code (cd Tryz.f142 [1,0,1,1,1]),.inScope (cd Tryz.f142 [1,0])],[],.run,.normal,none⟩) (nx1:=7) (nx2:=19) (b:=7) (c:=0) (tbl:=[6,0,0,0,0,0,0,0,0,0,0,0]) (l1:=[(5,(cU xs)),(6,(cU gs))]) (l2:=ro_h_o xs gs k e n g gn z gc gc) h1 (by kernel_rfl) rfl rfl rfl (by kernel_rfl) (by rw[hs0];decide) (by rw[hs0];decide) (by decide) (by decide) (by rfl) (by simp only[ro_h_o,List.map_cons,List.map_nil,mvO,closedL_mv _ _ (ns_closed _ _)]) (by kernel_rfl) (by kernel_rfl)
theorem ro_r{s0:AS}(hs0:s0.h.next=6)(xs zs:List Nat)(k e n g gn z gc t n1:Nat)(j:List Value)(hk:0<k)(hn:0<n)(hn2:n<64)(hn1:n1+1=n)(ps:List Nat)(pc:Nat)(hc1:(z_830_3 t n1 pc zs ps))(ovs0:List Nat)(ovt0:Nat)(ors0:List Nat)(oru0:Nat)(hc3:(FT 116 #[(sl 5 k e),(sl 19 pc pc)] 20 [(5,(cU xs)),(19,(cU ps))] (z_830_4 ovt0 oru0) [(5,some (cU xs)),(19,some (cU ps))] [(cU ovs0),(cU ors0)]))(nfs0:List Nat)(nft0:Nat)(hc5:(FT 157 #[(nU n1)] 22 [] (sl 22 nft0 nft0) [] [(cU nfs0)]))(ms:List Nat)(mt:Nat)(hc7:(FT 179 #[(sl 23 2 2)] 24 [(23,(z_830_5 t nft0)),(7,(cU zs)),(22,(cU nfs0))] (sl 24 mt mt) [(23,some (z_830_5 t nft0)),(7,some (cU zs)),(22,some (cU nfs0))] [(cU ms)]))(pls:List Nat)(plt:Nat)(hc9:(FT 151 #[(sl 20 ovt0 ovt0),(sl 24 mt mt)] 25 [(20,(cU ovs0)),(24,(cU ms))] (sl 25 plt plt) [(20,some (cU ovs0)),(24,some (cU ms))] [(cU pls)]))(nfs3:List Nat)(nft3:Nat)(hc11:(FT 157 #[(nU n)] 26 [] (sl 26 nft3 nft3) [] [(cU nfs3)]))(ovs3:List Nat)(ovt3:Nat)(ors3:List Nat)(oru3:Nat)(hc13:(FT 116 #[(sl 25 plt plt),(sl 26 nft3 nft3)] 27 [(25,(cU pls)),(26,(cU nfs3))] (z_830_6 ovt3 oru3) [(25,some (cU pls)),(26,some (cU nfs3))] [(cU ovs3),(cU ors3)]))(q:Int)(hq:q<0)(hc15:(FT 152 #[(sl 27 ovt3 ovt3),(sl 7 t t)] 29 [(27,(cU ovs3)),(7,(cU zs))] (.int .i64 q) [(27,some (cU ovs3)),(7,some (cU zs))] []))(hr:GT s0 (ro_h xs zs k e n g gn z gc t j)):GT s0 (ro_h xs ovs3 k e n g gn z gc ovt3 (z_830_1 ovt3 oru0 ovt0 k e t n n1 pc nft0 mt plt oru3 nft3 q)):=by
 have h1:=hr.trans (sR (sc:=[(5,.op (.rwI (n1:Int))),(0,.call [7] (sl 19 pc pc) [(7,some (cU zs))] [(cU ps)]),(0,.call [5,19] (z_830_4 ovt0 oru0) [(5,some (cU xs)),(19,some (cU ps))] [(cU ovs0),(cU ors0)]),(11,.op (.rwI (n1:Int))),(0,.op (.rwI (n1:Int))),(0,.call [] (sl 22 nft0 nft0) [] [(cU nfs0)]),(1,.call [23,7,22] (sl 24 mt mt) [(23,some (z_830_5 t nft0)),(7,some (cU zs)),(22,some (cU nfs0))] [(cU ms)]),(0,.call [20,24] (sl 25 plt plt) [(20,some (cU ovs0)),(24,some (cU ms))] [(cU pls)]),(6,.op (.rwI (n:Int))),(0,.call [] (sl 26 nft3 nft3) [] [(cU nfs3)]),(0,.call [25,26] (z_830_6 ovt3 oru3) [(25,some (cU pls)),(26,some (cU nfs3))] [(cU ovs3),(cU ors3)]),(10,.call [27,7] (.int .i64 q) [(27,some (cU ovs3)),(7,some (cU zs))] []),(0,.op (.rwB true)),(10,.stay)]) (fr1:=⟨142,List.toArray [(sl 5 k e),(nI n),uu,uu,(.slice none 0 0),(sl 27 ovt3 ovt3),(sl 27 ovt3 ovt3),(sl 21 oru0 oru0),(sl 5 k e),(nI k),bF,(sl 5 k e),(nI g),(nI n),(nI (g+n)),(nI gn),(nI n),(nI z),(sl 6 gc gc),(z_830_4 ovt0 oru0),(sl 5 k e),(sl 7 t t),(nI n),(nI n1),(sl 19 pc pc),(z_830_4 ovt0 oru0),(sl 20 ovt0 ovt0),(sl 21 oru0 oru0),(sl 20 ovt0 ovt0),(sl 7 t t),(nI n),(nI n1),(nU n1),(sl 22 nft0 nft0),(sl 23 2 2),(sl 24 mt mt),(sl 25 plt plt),(z_830_6 ovt3 oru3),(sl 25 plt plt),(nI n),(nU n),(sl 26 nft3 nft3),(z_830_6 ovt3 oru3),(sl 27 ovt3 ovt3),(sl 28 oru3 oru3),(sl 27 ovt3 ovt3),(sl 7 t t),(.int .i64 q),bT,(sl 27 ovt3 ovt3),uu],[.code (cd Tryz.f142 [1,0,1,1,1]),.inScope (cd Tryz.f142 [1,0])],[],.run,.normal,none⟩) (next:=29) (l:=[(5,(cU xs)),(27,(cU ovs3))]) (by kernel_rfl) (aI (wI64 (a:=((n:Int)-(1:Int))) (r:=(n1:Int))) (aI hc1 (aI hc3 (aI (wI64 (a:=((n:Int)-(1:Int))) (r:=(n1:Int))) (aI (show IntKind.wrap .u64 (n1:Int)=(n1:Int) from (wrap_u64 (by omega) (by omega))) (aI hc5 (aI hc7 (aI hc9 (aI (show IntKind.wrap .u64 (n:Int)=(n:Int) from (wrap_u64 (by omega) (by omega))) (aI hc11 (aI hc13 (aI hc15 (aI (show decide (q<(0:Int))=true from (by rw[decide_eq_true_eq];omega)) tt))))))))))))))
 exact gets_tau (fr:=ro_h_f xs ovs3 k e n g gn z gc ovt3 (z_830_1 ovt3 oru0 ovt0 k e t n n1 pc nft0 mt plt oru3 nft3 q)) (fr1:=⟨142,List.toArray [(sl 5 k e),(nI n),undef,undef,(.slice none 0 0),(sl 27 ovt3 ovt3),(sl 27 ovt3 ovt3),(sl 21 oru0 oru0),(sl 5 k e),(nI k),bF,(sl 5 k e),(nI g),(nI n),(nI (g+n)),(nI gn),(nI n),(nI z),(sl 6 gc gc),(z_830_4 ovt0 oru0),(sl 5 k e),(sl 7 t t),(nI n),(nI n1),(sl 19 pc pc),(z_830_4 ovt0 oru0),(sl 20 ovt0 ovt0),(sl 21 oru0 oru0),(sl 20 ovt0 ovt0),(sl 7 t t),(nI n),(nI n1),(nU n1),(sl 22 nft0 nft0),(sl 23 2 2),(sl 24 mt mt),(sl 25 plt plt),(z_830_6 ovt3 oru3),(sl 25 plt plt),(nI n),(nU n),(sl 26 nft3 nft3),(z_830_6 ovt3 oru3),(sl 27 ovt3 ovt3),(sl 28 oru3 oru3),(sl 27 ovt3 ovt3),(sl 7 t t),(.int .i64 q),bT,(sl 27 ovt3 ovt3),undef],[.code (cd Tryz.f142 [1,0,1,1,1]),.inScope (cd Tryz.f142 [1,0])],[],.run,.normal,none⟩) (nx1:=29) (nx2:=19) (b:=7) (c:=10) (tbl:=[27,21,20,7,19,22,23,24,25,28,26,0]) (l1:=[(5,(cU xs)),(27,(cU ovs3))]) (l2:=ro_h_o xs ovs3 k e n g gn z gc ovt3) h1 (by kernel_rfl) rfl rfl rfl (by kernel_rfl) (by rw[hs0];decide) (by rw[hs0];decide) (by decide) (by decide) (by rfl) (by simp only[ro_h_o,List.map_cons,List.map_nil,mvO,closedL_mv _ _ (ns_closed _ _)]) (by kernel_rfl) (by kernel_rfl)
theorem ro_r_o(xs zs:List Nat)(k e n g gn z gc t n1:Nat)(j:List Value)(hk:0<k)(hn:0<n)(hn2:n<64)(hn1:n1+1=n)(ps:List Nat)(pc:Nat)(hc1:(z_830_3 t n1 pc zs ps))(ovs0:List Nat)(ovt0:Nat)(ors0:List Nat)(oru0:Nat)(hc3:(FT 116 #[(sl 5 k e),(sl 19 pc pc)] 20 [(5,(cU xs)),(19,(cU ps))] (z_830_4 ovt0 oru0) [(5,some (cU xs)),(19,some (cU ps))] [(cU ovs0),(cU ors0)]))(nfs0:List Nat)(nft0:Nat)(hc5:(FT 157 #[(nU n1)] 22 [] (sl 22 nft0 nft0) [] [(cU nfs0)]))(ms:List Nat)(mt:Nat)(hc7:(FT 179 #[(sl 23 2 2)] 24 [(23,(z_830_5 t nft0)),(7,(cU zs)),(22,(cU nfs0))] (sl 24 mt mt) [(23,some (z_830_5 t nft0)),(7,some (cU zs)),(22,some (cU nfs0))] [(cU ms)]))(pls:List Nat)(plt:Nat)(hc9:(FT 151 #[(sl 20 ovt0 ovt0),(sl 24 mt mt)] 25 [(20,(cU ovs0)),(24,(cU ms))] (sl 25 plt plt) [(20,some (cU ovs0)),(24,some (cU ms))] [(cU pls)]))(nfs3:List Nat)(nft3:Nat)(hc11:(FT 157 #[(nU n)] 26 [] (sl 26 nft3 nft3) [] [(cU nfs3)]))(ovs3:List Nat)(ovt3:Nat)(ors3:List Nat)(oru3:Nat)(hc13:(FT 116 #[(sl 25 plt plt),(sl 26 nft3 nft3)] 27 [(25,(cU pls)),(26,(cU nfs3))] (z_830_6 ovt3 oru3) [(25,some (cU pls)),(26,some (cU nfs3))] [(cU ovs3),(cU ors3)]))(q:Int)(hq:0≤q)(hc15:(FT 152 #[(sl 27 ovt3 ovt3),(sl 7 t t)] 29 [(27,(cU ovs3)),(7,(cU zs))] (.int .i64 q) [(27,some (cU ovs3)),(7,some (cU zs))] []))(hr:GT ⟨Frame.enter Tryz.prog 142 #[(sl 5 k e),(nI n)] .normal,[],mkH 6 [(5,(cU xs))]⟩ (ro_h xs zs k e n g gn z gc t j)):CT 142 #[(sl 5 k e),(nI n)] (mkH 6 [(5,(cU xs))]) (sl 7 t t) (mkH 29 [(5,(cU xs)),(7,(cU zs))]):=
 sF (sc:=[(5,.op (.rwI (n1:Int))),(0,.call [7] (sl 19 pc pc) [(7,some (cU zs))] [(cU ps)]),(0,.call [5,19] (z_830_4 ovt0 oru0) [(5,some (cU xs)),(19,some (cU ps))] [(cU ovs0),(cU ors0)]),(11,.op (.rwI (n1:Int))),(0,.op (.rwI (n1:Int))),(0,.call [] (sl 22 nft0 nft0) [] [(cU nfs0)]),(1,.call [23,7,22] (sl 24 mt mt) [(23,some (z_830_5 t nft0)),(7,some (cU zs)),(22,some (cU nfs0))] [(cU ms)]),(0,.call [20,24] (sl 25 plt plt) [(20,some (cU ovs0)),(24,some (cU ms))] [(cU pls)]),(6,.op (.rwI (n:Int))),(0,.call [] (sl 26 nft3 nft3) [] [(cU nfs3)]),(0,.call [25,26] (z_830_6 ovt3 oru3) [(25,some (cU pls)),(26,some (cU nfs3))] [(cU ovs3),(cU ors3)]),(10,.call [27,7] (.int .i64 q) [(27,some (cU ovs3)),(7,some (cU zs))] []),(0,.op (.rwB false)),(9,.stay)]) (by kernel_rfl) (aI (wI64 (a:=((n:Int)-(1:Int))) (r:=(n1:Int))) (aI hc1 (aI hc3 (aI (wI64 (a:=((n:Int)-(1:Int))) (r:=(n1:Int))) (aI (show IntKind.wrap .u64 (n1:Int)=(n1:Int) from (wrap_u64 (by omega) (by omega))) (aI hc5 (aI hc7 (aI hc9 (aI (show IntKind.wrap .u64 (n:Int)=(n:Int) from (wrap_u64 (by omega) (by omega))) (aI hc11 (aI hc13 (aI hc15 (aI (show decide (q<(0:Int))=false from (by rw[decide_eq_false_iff_not];omega)) tt))))))))))))) hr
theorem ro_z{s0:AS}(hs0:s0.h.next=6)(xs zs:List Nat)(k e n g gn z gc t n1:Nat)(j:List Value)(hk:0<k)(hn:0<n)(hn2:n<64)(hn1:n1+1=n)(ps:List Nat)(pc:Nat)(hc1:(z_830_3 t n1 pc zs ps))(ovs0:Nat)(hc3:(FT 116 #[(sl 5 k e),(sl 19 pc pc)] 20 [(5,(cU xs)),(19,(cU ps))] (z_830_9 k e) [(5,some (cU xs)),(19,some (cU ps))] []))(nfs0:List Nat)(nft0:Nat)(hc5:(FT 157 #[(nU n1)] 20 [] (sl 20 nft0 nft0) [] [(cU nfs0)]))(ms:List Nat)(mt:Nat)(hc7:(FT 179 #[(sl 21 2 2)] 22 [(21,(z_830_7 t nft0)),(7,(cU zs)),(20,(cU nfs0))] (sl 22 mt mt) [(21,some (z_830_7 t nft0)),(7,some (cU zs)),(20,some (cU nfs0))] [(cU ms)]))(pls:List Nat)(plt:Nat)(hc9:(FT 151 #[(.slice none 0 0),(sl 22 mt mt)] 23 [(22,(cU ms))] (sl 23 plt plt) [(22,some (cU ms))] [(cU pls)]))(nfs3:List Nat)(nft3:Nat)(hc11:(FT 157 #[(nU n)] 24 [] (sl 24 nft3 nft3) [] [(cU nfs3)]))(ovs1:List Nat)(ovt1:Nat)(ors1:List Nat)(oru1:Nat)(hc13:(FT 116 #[(sl 23 plt plt),(sl 24 nft3 nft3)] 25 [(23,(cU pls)),(24,(cU nfs3))] (z_830_8 ovt1 oru1) [(23,some (cU pls)),(24,some (cU nfs3))] [(cU ovs1),(cU ors1)]))(q:Int)(hq:q<0)(hc15:(FT 152 #[(sl 25 ovt1 ovt1),(sl 7 t t)] 27 [(25,(cU ovs1)),(7,(cU zs))] (.int .i64 q) [(25,some (cU ovs1)),(7,some (cU zs))] []))(hr:GT s0 (ro_h xs zs k e n g gn z gc t j)):GT s0 (ro_h xs ovs1 k e n g gn z gc ovt1 (z_830_0 ovt1 k e t n n1 pc nft0 mt plt oru1 nft3 q)):=by
 have h1:=hr.trans (sR (sc:=[(5,.op (.rwI (n1:Int))),(0,.call [7] (sl 19 pc pc) [(7,some (cU zs))] [(cU ps)]),(0,.call [5,19] (z_830_9 k e) [(5,some (cU xs)),(19,some (cU ps))] []),(11,.op (.rwI (n1:Int))),(0,.op (.rwI (n1:Int))),(0,.call [] (sl 20 nft0 nft0) [] [(cU nfs0)]),(1,.call [21,7,20] (sl 22 mt mt) [(21,some (z_830_7 t nft0)),(7,some (cU zs)),(20,some (cU nfs0))] [(cU ms)]),(0,.call [22] (sl 23 plt plt) [(22,some (cU ms))] [(cU pls)]),(6,.op (.rwI (n:Int))),(0,.call [] (sl 24 nft3 nft3) [] [(cU nfs3)]),(0,.call [23,24] (z_830_8 ovt1 oru1) [(23,some (cU pls)),(24,some (cU nfs3))] [(cU ovs1),(cU ors1)]),(10,.call [25,7] (.int .i64 q) [(25,some (cU ovs1)),(7,some (cU zs))] []),(0,.op (.rwB true)),(10,.stay)]) (fr1:=⟨142,List.toArray [(sl 5 k e),(nI n),uu,uu,(.slice none 0 0),(sl 25 ovt1 ovt1),(sl 25 ovt1 ovt1),(sl 5 k e),(sl 5 k e),(nI k),bF,(sl 5 k e),(nI g),(nI n),(nI (g+n)),(nI gn),(nI n),(nI z),(sl 6 gc gc),(z_830_9 k e),(sl 5 k e),(sl 7 t t),(nI n),(nI n1),(sl 19 pc pc),(z_830_9 k e),(.slice none 0 0),(sl 5 k e),(.slice none 0 0),(sl 7 t t),(nI n),(nI n1),(nU n1),(sl 20 nft0 nft0),(sl 21 2 2),(sl 22 mt mt),(sl 23 plt plt),(z_830_8 ovt1 oru1),(sl 23 plt plt),(nI n),(nU n),(sl 24 nft3 nft3),(z_830_8 ovt1 oru1),(sl 25 ovt1 ovt1),(sl 26 oru1 oru1),(sl 25 ovt1 ovt1),(sl 7 t t),(.int .i64 q),bT,(sl 25 ovt1 ovt1),uu],[.code (cd Tryz.f142 [1,0,1,1,1]),.inScope (cd Tryz.f142 [1,0])],[],.run,.normal,none⟩) (next:=27) (l:=[(5,(cU xs)),(25,(cU ovs1))]) (by kernel_rfl) (aI (wI64 (a:=((n:Int)-(1:Int))) (r:=(n1:Int))) (aI hc1 (aI hc3 (aI (wI64 (a:=((n:Int)-(1:Int))) (r:=(n1:Int))) (aI (show IntKind.wrap .u64 (n1:Int)=(n1:Int) from (wrap_u64 (by omega) (by omega))) (aI hc5 (aI hc7 (aI hc9 (aI (show IntKind.wrap .u64 (n:Int)=(n:Int) from (wrap_u64 (by omega) (by omega))) (aI hc11 (aI hc13 (aI hc15 (aI (show decide (q<(0:Int))=true from (by rw[decide_eq_true_eq];omega)) tt))))))))))))))
 exact gets_tau (fr:=ro_h_f xs ovs1 k e n g gn z gc ovt1 (z_830_0 ovt1 k e t n n1 pc nft0 mt plt oru1 nft3 q)) (fr1:=⟨142,List.toArray [(sl 5 k e),(nI n),undef,undef,(.slice none 0 0),(sl 25 ovt1 ovt1),(sl 25 ovt1 ovt1),(sl 5 k e),(sl 5 k e),(nI k),bF,(sl 5 k e),(nI g),(nI n),(nI (g+n)),(nI gn),(nI n),(nI z),(sl 6 gc gc),(z_830_9 k e),(sl 5 k e),(sl 7 t t),(nI n),(nI n1),(sl 19 pc pc),(z_830_9 k e),(.slice none 0 0),(sl 5 k e),(.slice none 0 0),(sl 7 t t),(nI n),(nI n1),(nU n1),(sl 20 nft0 nft0),(sl 21 2 2),(sl 22 mt mt),(sl 23 plt plt),(z_830_8 ovt1 oru1),(sl 23 plt plt),(nI n),(nU n),(sl 24 nft3 nft3),(z_830_8 ovt1 oru1),(sl 25 ovt1 ovt1),(sl 26 oru1 oru1),(sl 25 ovt1 ovt1),(sl 7 t t),(.int .i64 q),bT,(sl 25 ovt1 ovt1),undef],[.code (cd Tryz.f142 [1,0,1,1,1]),.inScope (cd Tryz.f142 [1,0])],[],.run,.normal,none⟩) (nx1:=27) (nx2:=19) (b:=7) (c:=8) (tbl:=[25,7,19,20,21,22,23,26,24,0,0,0]) (l1:=[(5,(cU xs)),(25,(cU ovs1))]) (l2:=ro_h_o xs ovs1 k e n g gn z gc ovt1) h1 (by kernel_rfl) rfl rfl rfl (by kernel_rfl) (by rw[hs0];decide) (by rw[hs0];decide) (by decide) (by decide) (by rfl) (by simp only[ro_h_o,List.map_cons,List.map_nil,mvO,closedL_mv _ _ (ns_closed _ _)]) (by kernel_rfl) (by kernel_rfl)
theorem ro_z_o(xs zs:List Nat)(k e n g gn z gc t n1:Nat)(j:List Value)(hk:0<k)(hn:0<n)(hn2:n<64)(hn1:n1+1=n)(ps:List Nat)(pc:Nat)(hc1:(z_830_3 t n1 pc zs ps))(ovs0:Nat)(hc3:(FT 116 #[(sl 5 k e),(sl 19 pc pc)] 20 [(5,(cU xs)),(19,(cU ps))] (z_830_9 k e) [(5,some (cU xs)),(19,some (cU ps))] []))(nfs0:List Nat)(nft0:Nat)(hc5:(FT 157 #[(nU n1)] 20 [] (sl 20 nft0 nft0) [] [(cU nfs0)]))(ms:List Nat)(mt:Nat)(hc7:(FT 179 #[(sl 21 2 2)] 22 [(21,(z_830_7 t nft0)),(7,(cU zs)),(20,(cU nfs0))] (sl 22 mt mt) [(21,some (z_830_7 t nft0)),(7,some (cU zs)),(20,some (cU nfs0))] [(cU ms)]))(pls:List Nat)(plt:Nat)(hc9:(FT 151 #[(.slice none 0 0),(sl 22 mt mt)] 23 [(22,(cU ms))] (sl 23 plt plt) [(22,some (cU ms))] [(cU pls)]))(nfs3:List Nat)(nft3:Nat)(hc11:(FT 157 #[(nU n)] 24 [] (sl 24 nft3 nft3) [] [(cU nfs3)]))(ovs1:List Nat)(ovt1:Nat)(ors1:List Nat)(oru1:Nat)(hc13:(FT 116 #[(sl 23 plt plt),(sl 24 nft3 nft3)] 25 [(23,(cU pls)),(24,(cU nfs3))] (z_830_8 ovt1 oru1) [(23,some (cU pls)),(24,some (cU nfs3))] [(cU ovs1),(cU ors1)]))(q:Int)(hq:0≤q)(hc15:(FT 152 #[(sl 25 ovt1 ovt1),(sl 7 t t)] 27 [(25,(cU ovs1)),(7,(cU zs))] (.int .i64 q) [(25,some (cU ovs1)),(7,some (cU zs))] []))(hr:GT ⟨Frame.enter Tryz.prog 142 #[(sl 5 k e),(nI n)] .normal,[],mkH 6 [(5,(cU xs))]⟩ (ro_h xs zs k e n g gn z gc t j)):CT 142 #[(sl 5 k e),(nI n)] (mkH 6 [(5,(cU xs))]) (sl 7 t t) (mkH 27 [(5,(cU xs)),(7,(cU zs))]):=
 sF (sc:=[(5,.op (.rwI (n1:Int))),(0,.call [7] (sl 19 pc pc) [(7,some (cU zs))] [(cU ps)]),(0,.call [5,19] (z_830_9 k e) [(5,some (cU xs)),(19,some (cU ps))] []),(11,.op (.rwI (n1:Int))),(0,.op (.rwI (n1:Int))),(0,.call [] (sl 20 nft0 nft0) [] [(cU nfs0)]),(1,.call [21,7,20] (sl 22 mt mt) [(21,some (z_830_7 t nft0)),(7,some (cU zs)),(20,some (cU nfs0))] [(cU ms)]),(0,.call [22] (sl 23 plt plt) [(22,some (cU ms))] [(cU pls)]),(6,.op (.rwI (n:Int))),(0,.call [] (sl 24 nft3 nft3) [] [(cU nfs3)]),(0,.call [23,24] (z_830_8 ovt1 oru1) [(23,some (cU pls)),(24,some (cU nfs3))] [(cU ovs1),(cU ors1)]),(10,.call [25,7] (.int .i64 q) [(25,some (cU ovs1)),(7,some (cU zs))] []),(0,.op (.rwB false)),(9,.stay)]) (by kernel_rfl) (aI (wI64 (a:=((n:Int)-(1:Int))) (r:=(n1:Int))) (aI hc1 (aI hc3 (aI (wI64 (a:=((n:Int)-(1:Int))) (r:=(n1:Int))) (aI (show IntKind.wrap .u64 (n1:Int)=(n1:Int) from (wrap_u64 (by omega) (by omega))) (aI hc5 (aI hc7 (aI hc9 (aI (show IntKind.wrap .u64 (n:Int)=(n:Int) from (wrap_u64 (by omega) (by omega))) (aI hc11 (aI hc13 (aI hc15 (aI (show decide (q<(0:Int))=false from (by rw[decide_eq_false_iff_not];omega)) tt))))))))))))) hr
end Go.Proofs.YtldoiilgfcpipaaGreatDoor
