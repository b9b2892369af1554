import Derived.Test.YtbjpjoodjbmicaaGreatDoorK
import Derived.Test.YtbjpjoodjbmicaaGreatDoorPScale
import Derived.Test.YtbjpjoodjbmicaaGreatDoorLE
set_option linter.unusedVariables false
set_option linter.unusedSimpArgs false
set_option maxRecDepth 100000
namespace Go.Proofs.YtbjpjoodjbmicaaGreatDoor
open Go Go.AE Seg
noncomputable def trim_h_f(xs:List Nat)(n c:Nat)(i:Nat)(j:List Value):Frame:=⟨156,List.toArray [(sl 5 n c),uu,(.slice none 0 0),(nI i),(J j 0),(J j 1),(J j 2),(J j 3),(J j 4),(J j 5),(J j 6),(J j 7),(J j 8),(J j 9),(J j 10),(J j 11),(J j 12),(J j 13),uu,uu,uu,uu],[.code (cd Tryz.f156 [1,1,0,0,0]),.inLoop (cd Tryz.f156 [1,1,0,0,0]),.inBlock 0,.code (cd Tryz.f156 [1,1,1])],[],.run,.normal,none⟩
noncomputable def trim_h_o(xs:List Nat)(n c:Nat)(i:Nat):List (Nat×AObj):=[(5,(cU xs))]
noncomputable def trim_h(xs:List Nat)(n c:Nat)(i:Nat)(j:List Value):AS:=⟨trim_h_f xs n c i j,[],mkH 6 (trim_h_o xs n c i)⟩
theorem trim_in(xs:List Nat)(n c:Nat):GT ⟨Frame.enter Tryz.prog 156 #[(sl 5 n c)] .normal,[],mkH 6 [(5,(cU xs))]⟩ (trim_h xs n c n [(sl 5 n c),(nI n),undef,undef,undef,undef,undef,undef,undef,undef,undef,undef,undef,undef]):=
 sR (sc:=[(13,.stay)]) (fr1:=trim_h_f xs n c n [(sl 5 n c),(nI n),uu,uu,uu,uu,uu,uu,uu,uu,uu,uu,uu,uu]) (next:=6) (l:=trim_h_o xs n c n) (by kernel_rfl) tt
theorem trim_r(xs:List Nat)(n c i a:Nat)(j:List Value)(h0:0<i)(hi:i≤n)(hc:n≤xs.length)(hm:n<9223372036854775807)(ha:a=0)(hx:(ns .u32 xs)[i-1]? =some (nW a)):GT (trim_h xs n c i j) (trim_h xs n c (i-1) [(J j 0),(J j 1),(nI i),bT,bT,(sl 5 n c),(nI i),(nI (i-1)),(.pointer (some ⟨5,(i-1),none⟩)),(nW a),bT,bT,(nI i),(nI (i-1))]):=
 sR (sc:=[(4,.op (.rwB true)),(3,.op (.rwI (((i-1):Nat):Int))),(0,.op (.idx (i-1))),(0,.op (.ld (nW a))),(0,.op (.rwB true)),(7,.op (.rwI (((i-1):Nat):Int))),(4,.stay)]) (fr1:=trim_h_f xs n c (i-1) [(J j 0),(J j 1),(nI i),bT,bT,(sl 5 n c),(nI i),(nI (i-1)),(.pointer (some ⟨5,(i-1),none⟩)),(nW a),bT,bT,(nI i),(nI (i-1))]) (next:=6) (l:=trim_h_o xs n c (i-1)) (by kernel_rfl) (aI (dT (p:=(i:Int)>(0:Int)) (by omega)) (aI (wI64 (a:=((i:Int)-(1:Int))) (r:=(((i-1):Nat):Int)) (by omega)) (aI (ix (((i-1):Nat):Int) (n:Int) 0 1 (i-1) (by omega)) (aI hx (aI (eT (a:=(a:Int)) (b:=(0:Int)) (by omega)) (aI (wI64 (a:=((i:Int)-(1:Int))) (r:=(((i-1):Nat):Int)) (by omega)) tt))))))
theorem trim_o1(xs:List Nat)(n c i a:Nat)(j:List Value)(h0:0<i)(hi:i≤n)(hc:n≤xs.length)(hnc:n≤c)(hm:n<9223372036854775807)(ha:a≠0)(hx:(ns .u32 xs)[i-1]? =some (nW a))(hr:GT ⟨Frame.enter Tryz.prog 156 #[(sl 5 n c)] .normal,[],mkH 6 [(5,(cU xs))]⟩ (trim_h xs n c i j)):CT 156 #[(sl 5 n c)] (mkH 6 [(5,(cU xs))]) (sl 5 i i) (mkH 6 [(5,(cU xs))]):=
 sF (sc:=[(4,.op (.rwB true)),(3,.op (.rwI (((i-1):Nat):Int))),(0,.op (.idx (i-1))),(0,.op (.ld (nW a))),(0,.op (.rwB false)),(9,.op (.slc 0 i i)),(3,.stay)]) (next:=6) (l:=[(5,(cU xs))]) (by kernel_rfl) (aI (dT (p:=(i:Int)>(0:Int)) (by omega)) (aI (wI64 (a:=((i:Int)-(1:Int))) (r:=(((i-1):Nat):Int)) (by omega)) (aI (ix (((i-1):Nat):Int) (n:Int) 0 1 (i-1) (by omega)) (aI hx (aI (eF (a:=(a:Int)) (b:=(0:Int)) (by omega)) (aI (show 0≤(0:Int)∧(0:Int)≤(i:Int)∧(i:Int)≤(i:Int)∧(i:Int)≤(c:Int)∧(if Int.toNat (i:Int)=Int.toNat (0:Int) then 0 else 0+Int.toNat (0:Int)*1)=0∧Int.toNat ((i:Int)-(0:Int))=i∧Int.toNat (i:Int)-Int.toNat (0:Int)=i from (by repeat (first|omega|(split<;>omega)|constructor))) tt)))))) hr
theorem trim_o2(xs:List Nat)(n c i:Nat)(j:List Value)(h0:i=0)(hr:GT ⟨Frame.enter Tryz.prog 156 #[(sl 5 n c)] .normal,[],mkH 6 [(5,(cU xs))]⟩ (trim_h xs n c i j)):CT 156 #[(sl 5 n c)] (mkH 6 [(5,(cU xs))]) (sl 5 i i) (mkH 6 [(5,(cU xs))]):=
 sF (sc:=[(4,.op (.rwB false)),(16,.op (.slc 0 i i)),(3,.stay)]) (next:=6) (l:=[(5,(cU xs))]) (by kernel_rfl) (aI (dF (p:=(i:Int)>(0:Int)) (by omega)) (aI (show 0≤(0:Int)∧(0:Int)≤(i:Int)∧(i:Int)≤(i:Int)∧(i:Int)≤(c:Int)∧(if Int.toNat (i:Int)=Int.toNat (0:Int) then 0 else 0+Int.toNat (0:Int)*1)=0∧Int.toNat ((i:Int)-(0:Int))=i∧Int.toNat (i:Int)-Int.toNat (0:Int)=i from (by repeat (first|omega|(split<;>omega)|constructor))) tt)) hr
theorem trim_loop{n c:Nat}{xs:List Nat}(hc:n≤xs.length)(hnc:n≤c)(hm:n<9223372036854775807): ∀(i:Nat) (j:List Value),i≤n→top xs i=top xs n→
  GT ⟨Frame.enter Tryz.prog 156 #[(sl 5 n c)] .normal,[],mkH 6 [(5,(cU xs))]⟩ (trim_h xs n c i j)→CT 156 #[(sl 5 n c)] (mkH 6 [(5,(cU xs))]) (sl 5 (top xs n) (top xs n)) (mkH 6 [(5,(cU xs))]):=by
 intro i
 induction i with
 |zero=>
  intro j _ ht hr
  have:=trim_o2 xs n c 0 j rfl hr
  rw[←ht]
  exact this
 |succ i ih=>
  intro j hi ht hr
  by_cases ha:xs.getD i 0=0
  ·have r:=trim_r xs n c (i+1) (xs.getD i 0) j (by omega) hi hc hm ha (ns_get (by omega))
   exact ih _ (by omega) (by rw[←ht,top_zero ha]) (hr.trans r)
  ·have:=trim_o1 xs n c (i+1) (xs.getD i 0) j (by omega) hi hc hnc hm ha (ns_get (by omega)) hr
   rw[←ht,top_some ha]
   exact this
theorem trim_c(n0 b:Nat)(xs:List Nat)(n c:Nat)(hb:5≤b∧b<n0)(hc:n≤xs.length)(hnc:n≤c)(hm:n<9223372036854775807):
  FT 156 #[sl b n c] n0 [(b,cU xs)] (sl b (top xs n) (top xs n)) [(b,some (cU xs))] []:=
 fsp_flat [b] [cU xs] [cU xs] [] [] n0 (trim_loop hc hnc hm n _ (Nat.le_refl _) rfl (trim_in xs n c)) rfl rfl rfl (by simp) (by simp;omega) (by omega) (by simp[flat,ns_closed]) (by simp[flat,ns_closed]) rfl (by simp) (by simp) rfl rfl rfl
noncomputable section
abbrev z_a19_3(i k n:Nat):Value:=.slice (some ⟨7,i,none⟩) (k+3) (n+1-i)
abbrev z_a19_0(i k n g e d:Nat)(j:List Value):List Value:=[(z_a19_3 i k n),(nU g),(J j 2),(J j 3),(J j 4),(J j 5),(J j 6),(J j 7),(J j 8),(J j 9),(J j 10),(J j 11),(J j 12),(J j 13),(J j 14),(J j 15),(J j 16),(J j 17),(J j 18),(J j 19),(J j 20),(J j 21),(J j 22),(J j 23),(J j 24),(J j 25),(J j 26),(J j 27),(J j 28),(J j 29),(J j 30),(J j 31),(J j 32),(J j 33),(J j 34),(J j 35),(nI i),bT,(nI i),(.int .i64 ((i:Int)-1)),(sl 7 (n+1) (n+1)),(nI i),(nI i),(sl 6 (k+2) e),(nI (k+2)),(nI (i+(k+2))),(nI ((i+(k+2))+1)),(z_a19_3 i k n),(z_a19_3 i k n),(sl 8 (k+2) (k+2)),(nU g),(nU g),bF,(sl 9 (d+1) (d+1)),(nI i),(nU g),(nW g),(.pointer (some ⟨9,i,none⟩)),(z_a19_3 i k n),(sl 8 (k+2) (k+2)),(nU g),bT,(J j 62),(J j 63),(J j 64),(J j 65),(J j 66),(J j 67),(J j 68),(J j 69),(J j 70)]
abbrev z_a19_1(i k n g e:Nat)(j:List Value):List Value:=[(z_a19_3 i k n),(nU g),(J j 2),(J j 3),(J j 4),(J j 5),(J j 6),(J j 7),(J j 8),(J j 9),(J j 10),(J j 11),(J j 12),(J j 13),(J j 14),(J j 15),(J j 16),(J j 17),(J j 18),(J j 19),(J j 20),(J j 21),(J j 22),(J j 23),(J j 24),(J j 25),(J j 26),(J j 27),(J j 28),(J j 29),(J j 30),(J j 31),(J j 32),(J j 33),(J j 34),(J j 35),(nI i),bT,(nI i),(.int .i64 ((i:Int)-1)),(sl 7 (n+1) (n+1)),(nI i),(nI i),(sl 6 (k+2) e),(nI (k+2)),(nI (i+(k+2))),(nI ((i+(k+2))+1)),(z_a19_3 i k n),(z_a19_3 i k n),(sl 8 (k+2) (k+2)),(nU g),(nU g),bT,(J j 53),(J j 54),(J j 55),(J j 56),(J j 57),(J j 58),(J j 59),(J j 60),(J j 61),(J j 62),(J j 63),(J j 64),(J j 65),(J j 66),(J j 67),(J j 68),(J j 69),(J j 70)]
abbrev z_a19_2(i k n g:Nat)(rs ds:List Nat):Prop:=FT 193 #[(z_a19_3 i k n),(sl 8 (k+2) (k+2))] 10 [(7,(cU rs)),(8,(cU ds))] (nU g) [(7,some (cU rs)),(8,some (cU ds))] []
end
noncomputable def ld_h_f(xs ys rs ds qs:List Nat)(n c k e d s:Nat)(i:Int)(j:List Value):Frame:=⟨158,List.toArray [(sl 5 n c),(sl 6 (k+2) e),uu,uu,(sl 9 (d+1) (d+1)),(.slice none 0 0),(nU s),(sl 7 (n+1) (n+1)),(sl 8 (k+2) (k+2)),(.int .i64 i),(J j 0),(J j 1),(J j 2),(J j 3),(J j 4),(J j 5),(J j 6),(J j 7),(J j 8),(J j 9),(J j 10),(J j 11),(J j 12),(J j 13),(J j 14),(J j 15),(J j 16),(J j 17),(J j 18),(J j 19),(J j 20),(J j 21),(J j 22),(J j 23),(J j 24),(J j 25),(J j 26),(J j 27),(J j 28),(J j 29),(J j 30),(J j 31),(J j 32),(J j 33),(J j 34),(J j 35),(J j 36),(J j 37),(J j 38),(J j 39),(J j 40),(J j 41),(J j 42),(J j 43),(J j 44),(J j 45),(J j 46),(J j 47),(J j 48),(J j 49),(J j 50),(J j 51),(J j 52),(J j 53),(J j 54),(J j 55),(J j 56),(J j 57),(J j 58),(J j 59),(J j 60),(J j 61),(J j 62),(J j 63),(J j 64),(J j 65),(J j 66),(J j 67),(J j 68),(J j 69),(J j 70),uu,uu,uu,uu,uu,uu,uu],[.code (cd Tryz.f158 [1,0,1,1,1,1,1,1,0,1,0,0]),.inLoop (cd Tryz.f158 [1,0,1,1,1,1,1,1,0,1,0,0]),.inBlock 0,.code (cd Tryz.f158 [1,0,1,1,1,1,1,1,1]),.inScope (cd Tryz.f158 [1,0])],[],.run,.normal,none⟩
noncomputable def ld_h_o(xs ys rs ds qs:List Nat)(n c k e d s:Nat)(i:Int):List (Nat×AObj):=[(5,(cU xs)),(6,(cU ys)),(7,(cU rs)),(8,(cU ds)),(9,(cU qs))]
noncomputable def ld_h(xs ys rs ds qs:List Nat)(n c k e d s:Nat)(i:Int)(j:List Value):AS:=⟨ld_h_f xs ys rs ds qs n c k e d s i j,[],mkH 10 (ld_h_o xs ys rs ds qs n c k e d s i)⟩
theorem ld_in(xs ys:List Nat)(n c k e d s:Nat)(hn:n=d+(k+2))(hm:n+1<1099511627776)(hc:n≤xs.length)(hy:k+2≤ys.length)(ha:ys.getD (k+1) 0<1000000000)(hs:s=1000000000/(ys.getD (k+1) 0+1))(hs9:s≤1000000000)(r0:List Nat)(qr:Nat)(hc1:FT 169 #[(sl 7 (n+1) (n+1)),(nU s),(lU 0)] 9 [(7,(.cells (ns .u32 (xs.take n++List.replicate ((n+1)-n) 0)) 121 none false))] (nU qr) [(7,some (cU r0))] [])(d0:List Nat)(qd:Nat)(hc3:FT 169 #[(sl 8 (k+2) (k+2)),(nU s),(lU 0)] 9 [(8,(.cells (ns .u32 (ys.take (k+2)++List.replicate ((k+2)-(k+2)) 0)) 121 none false))] (nU qd) [(8,some (cU d0))] []):GT ⟨Frame.enter Tryz.prog 158 #[(sl 5 n c),(sl 6 (k+2) e)] .normal,[],mkH 7 [(5,(cU xs)),(6,(cU ys))]⟩ (ld_h xs ys r0 d0 (List.replicate (d+1) 0) n c k e d s (((d+1:Nat):Int)-1) [undef,undef,(sl 6 (k+2) e),(sl 6 (k+2) e),(nI (k+2)),(nI (k+1)),(.pointer (some ⟨6,(k+1),none⟩)),(nW (ys.getD (k+1) 0)),(nU (ys.getD (k+1) 0)),(nU ((ys.getD (k+1) 0)+1)),(nU s),(sl 5 n c),(sl 5 n c),(nI n),(nI (n+1)),(sl 7 (n+1) (n+1)),(sl 6 (k+2) e),(sl 6 (k+2) e),(nI (k+2)),(sl 8 (k+2) (k+2)),(sl 7 (n+1) (n+1)),(nU s),(nU qr),(sl 8 (k+2) (k+2)),(nU s),(nU qd),(sl 5 n c),(nI n),(sl 6 (k+2) e),(nI (k+2)),(nI d),(nI (d+1)),(sl 9 (d+1) (d+1)),(sl 9 (d+1) (d+1)),(nI (d+1)),(.int .i64 (((d+1:Nat):Int)-1)),undef,undef,undef,undef,undef,undef,undef,undef,undef,undef,undef,undef,undef,undef,undef,undef,undef,undef,undef,undef,undef,undef,undef,undef,undef,undef,undef,undef,undef,undef,undef,undef,undef,undef,undef]):=
 sR (sc:=[(11,.op (.rwI (((k+1):Nat):Int))),(0,.op (.idx (k+1))),(0,.op (.ld (nW (ys.getD (k+1) 0)))),(0,.op (.rwI (((ys.getD (k+1) 0):Nat):Int))),(0,.op (.rwI ((((ys.getD (k+1) 0)+1):Nat):Int))),(0,.op (.div (s:Int))),(7,.op (.rwI (((n+1):Nat):Int))),(0,.call [5] (sl 7 (n+1) (n+1)) [(5,some (cU xs))] [(.cells (ns .u32 (xs.take n++List.replicate ((n+1)-n) 0)) 121 none false)]),(3,.call [6] (sl 8 (k+2) (k+2)) [(6,some (cU ys))] [(.cells (ns .u32 (ys.take (k+2)++List.replicate ((k+2)-(k+2)) 0)) 121 none false)]),(7,.call [7] (nU qr) [(7,some (cU r0))] []),(5,.call [8] (nU qd) [(8,some (cU d0))] []),(7,.op (.rwI (d:Int))),(0,.op (.rwI (((d+1):Nat):Int))),(0,.op (.mks (d+1) (d+1) (ns .u32 (List.replicate (d+1) 0)))),(9,.op (.rwI (((d+1:Nat):Int)-1))),(4,.stay)]) (fr1:=ld_h_f xs ys r0 d0 (List.replicate (d+1) 0) n c k e d s (((d+1:Nat):Int)-1) [uu,uu,(sl 6 (k+2) e),(sl 6 (k+2) e),(nI (k+2)),(nI (k+1)),(.pointer (some ⟨6,(k+1),none⟩)),(nW (ys.getD (k+1) 0)),(nU (ys.getD (k+1) 0)),(nU ((ys.getD (k+1) 0)+1)),(nU s),(sl 5 n c),(sl 5 n c),(nI n),(nI (n+1)),(sl 7 (n+1) (n+1)),(sl 6 (k+2) e),(sl 6 (k+2) e),(nI (k+2)),(sl 8 (k+2) (k+2)),(sl 7 (n+1) (n+1)),(nU s),(nU qr),(sl 8 (k+2) (k+2)),(nU s),(nU qd),(sl 5 n c),(nI n),(sl 6 (k+2) e),(nI (k+2)),(nI d),(nI (d+1)),(sl 9 (d+1) (d+1)),(sl 9 (d+1) (d+1)),(nI (d+1)),(.int .i64 (((d+1:Nat):Int)-1)),uu,uu,uu,uu,uu,uu,uu,uu,uu,uu,uu,uu,uu,uu,uu,uu,uu,uu,uu,uu,uu,uu,uu,uu,uu,uu,uu,uu,uu,uu,uu,uu,uu,uu,uu]) (next:=10) (l:=ld_h_o xs ys r0 d0 (List.replicate (d+1) 0) n c k e d s (((d+1:Nat):Int)-1)) (by kernel_rfl) (aI (wI64 (a:=((((k+2):Nat):Int)-(1:Int))) (r:=(((k+1):Nat):Int)) (by omega)) (aI (ix (((k+1):Nat):Int) (((k+2):Nat):Int) 0 1 (k+1) (by omega)) (aI (ns_get (k:=.u32) (xs:=ys) (i:=(k+1)) (by omega)) (aI (wU64 (a:=(((ys.getD (k+1) 0):Nat):Int)) (r:=(((ys.getD (k+1) 0):Nat):Int)) (by omega)) (aI (wU64 (a:=((((ys.getD (k+1) 0):Nat):Int)+(1:Int))) (r:=((((ys.getD (k+1) 0)+1):Nat):Int)) (by omega)) (aI (show ((((ys.getD (k+1) 0)+1):Nat):Int)≠0∧IntKind.wrap .u64 (Int.tdiv (1000000000:Int) ((((ys.getD (k+1) 0)+1):Nat):Int))=(s:Int) from⟨by omega,by rw[Int.tdiv_eq_ediv_of_nonneg (by omega),show (1000000000:Int)/((ys.getD (k+1) 0+1:Nat):Int)=((1000000000/(ys.getD (k+1) 0+1):Nat):Int) from rfl,←hs,wrap_u64 (by omega) (by omega)]⟩) (aI (wI64 (a:=((n:Int)+(1:Int))) (r:=(((n+1):Nat):Int)) (by omega)) (aI (copied_c 7 5 xs n c (n+1) (by omega) (by omega) (by omega) (by omega)) (aI (copied_c 8 6 ys (k+2) e (k+2) (by omega) (by omega) (by omega) (by omega)) (aI hc1 (aI hc3 (aI (wI64 (a:=((n:Int)-(((k+2):Nat):Int))) (r:=(d:Int)) (by omega)) (aI (wI64 (a:=((d:Int)+(1:Int))) (r:=(((d+1):Nat):Int)) (by omega)) (aI (show (0≤(((d+1):Nat):Int)∧(((d+1):Nat):Int)≤(((d+1):Nat):Int)∧((4:Nat):Int)*(((d+1):Nat):Int)≤281474976710656∧(((d+1):Nat):Int)≤9223372036854775807)∧closedL (ns .u32 (List.replicate (d+1) 0))=true∧(madeCells (Value.cells (lW 0)) (Int.toNat (((d+1):Nat):Int)*1)).toList=(ns .u32 (List.replicate (d+1) 0))∧Int.toNat (((d+1):Nat):Int)=(d+1)∧Int.toNat (((d+1):Nat):Int)=(d+1) from (by refine⟨⟨?_,?_,?_,?_⟩,ns_closed _ _,ns_made _ _ _,?_,?_⟩<;>omega)) (aI (wI64 (a:=((((d+1):Nat):Int)-(1:Int))) (r:=(((d+1:Nat):Int)-1)) (by omega)) tt)))))))))))))))
theorem ld_z(xs ys rs ds qs:List Nat)(n c k e d s i g:Nat)(j:List Value)(hi:i<d+1)(hn:n=d+(k+2))(hm:n+1<1099511627776)(hrs:rs.length=n+1)(hds:ds.length=k+2)(hqs:qs.length=d+1)(hg9:g<1000000000)(hg0:g=0)(hc0:(z_a19_2 i k n g rs ds)):GT (ld_h xs ys rs ds qs n c k e d s (i:Int) j) (ld_h xs ys rs ds qs n c k e d s ((i:Int)-1) (z_a19_1 i k n g e j)):=
 sR (sc:=[(4,.op (.rwB true)),(12,.op (.rwI (((i+(k+2)):Nat):Int))),(0,.op (.rwI ((((i+(k+2))+1):Nat):Int))),(0,.op (.slc i (k+3) (n+1-i))),(6,.call [7,8] (nU g) [(7,some (cU rs)),(8,some (cU ds))] []),(6,.op (.rwB true)),(5,.op (.rwI ((i:Int)-1))),(3,.stay)]) (fr1:=ld_h_f xs ys rs ds qs n c k e d s ((i:Int)-1) (z_a19_1 i k n g e j)) (next:=10) (l:=ld_h_o xs ys rs ds qs n c k e d s ((i:Int)-1)) (by kernel_rfl) (aI (dT (p:=(i:Int)≥(0:Int)) (by omega)) (aI (wI64 (a:=((i:Int)+(((k+2):Nat):Int))) (r:=(((i+(k+2)):Nat):Int)) (by omega)) (aI (wI64 (a:=((((i+(k+2)):Nat):Int)+(1:Int))) (r:=((((i+(k+2))+1):Nat):Int)) (by omega)) (aI (show 0≤(i:Int)∧(i:Int)≤((((i+(k+2))+1):Nat):Int)∧((((i+(k+2))+1):Nat):Int)≤(((n+1):Nat):Int)∧(if (n+1)=Int.toNat (i:Int) then 0 else 0+Int.toNat (i:Int)*1)=i∧Int.toNat (((((i+(k+2))+1):Nat):Int)-(i:Int))=(k+3)∧(n+1)-Int.toNat (i:Int)=(n+1-i) from (by refine⟨by omega,by omega,by omega,?_,by omega,by omega⟩;split<;>omega)) (aI hc0 (aI (eT (a:=(g:Int)) (b:=(0:Int)) (by omega)) (aI (wI64 (a:=((i:Int)-(1:Int))) (r:=((i:Int)-1)) (by omega)) tt)))))))
theorem ld_t(xs ys rs ds qs:List Nat)(n c k e d s i g:Nat)(j:List Value)(hi:i<d+1)(hn:n=d+(k+2))(hm:n+1<1099511627776)(hrs:rs.length=n+1)(hds:ds.length=k+2)(hqs:qs.length=d+1)(hg9:g<1000000000)(hg0:g≠0)(hc0:(z_a19_2 i k n g rs ds))(r1:List Nat)(hc2:(FT 194 #[(z_a19_3 i k n),(sl 8 (k+2) (k+2)),(nU g)] 10 [(7,(cU rs)),(8,(cU ds))] bT [(7,some (cU r1)),(8,some (cU ds))] [])):GT (ld_h xs ys rs ds qs n c k e d s (i:Int) j) (ld_h xs ys r1 ds (qs.set i g) n c k e d s ((i:Int)-1) (z_a19_0 i k n g e d j)):=
 sR (sc:=[(4,.op (.rwB true)),(12,.op (.rwI (((i+(k+2)):Nat):Int))),(0,.op (.rwI ((((i+(k+2))+1):Nat):Int))),(0,.op (.slc i (k+3) (n+1-i))),(6,.call [7,8] (nU g) [(7,some (cU rs)),(8,some (cU ds))] []),(6,.op (.rwB false)),(8,.op (.rwI (g:Int))),(0,.op (.idx i)),(0,.op (.st (ns .u32 (qs.set i g)))),(7,.call [7,8] bT [(7,some (cU r1)),(8,some (cU ds))] []),(5,.op (.rwI ((i:Int)-1))),(3,.stay)]) (fr1:=ld_h_f xs ys r1 ds (qs.set i g) n c k e d s ((i:Int)-1) (z_a19_0 i k n g e d j)) (next:=10) (l:=ld_h_o xs ys r1 ds (qs.set i g) n c k e d s ((i:Int)-1)) (by kernel_rfl) (aI (dT (p:=(i:Int)≥(0:Int)) (by omega)) (aI (wI64 (a:=((i:Int)+(((k+2):Nat):Int))) (r:=(((i+(k+2)):Nat):Int)) (by omega)) (aI (wI64 (a:=((((i+(k+2)):Nat):Int)+(1:Int))) (r:=((((i+(k+2))+1):Nat):Int)) (by omega)) (aI (show 0≤(i:Int)∧(i:Int)≤((((i+(k+2))+1):Nat):Int)∧((((i+(k+2))+1):Nat):Int)≤(((n+1):Nat):Int)∧(if (n+1)=Int.toNat (i:Int) then 0 else 0+Int.toNat (i:Int)*1)=i∧Int.toNat (((((i+(k+2))+1):Nat):Int)-(i:Int))=(k+3)∧(n+1)-Int.toNat (i:Int)=(n+1-i) from (by refine⟨by omega,by omega,by omega,?_,by omega,by omega⟩;split<;>omega)) (aI hc0 (aI (eF (a:=(g:Int)) (b:=(0:Int)) (by omega)) (aI (wU32 (a:=(g:Int)) (r:=(g:Int)) (by omega)) (aI (ix (i:Int) (((d+1):Nat):Int) 0 1 i (by omega)) (aI (show i+1≤(ns .u32 qs).length∧lspl (ns .u32 qs) i [(nW g)]=(ns .u32 (qs.set i g)) from (ns_set (by omega))) (aI hc2 (aI (wI64 (a:=((i:Int)-(1:Int))) (r:=((i:Int)-1)) (by omega)) tt)))))))))))
theorem ld_f(xs ys rs ds qs:List Nat)(n c k e d s i g:Nat)(j:List Value)(hi:i<d+1)(hn:n=d+(k+2))(hm:n+1<1099511627776)(hrs:rs.length=n+1)(hds:ds.length=k+2)(hqs:qs.length=d+1)(hg9:g<1000000000)(hg0:g≠0)(hc0:(z_a19_2 i k n g rs ds))(r1:List Nat)(hc2:(FT 194 #[(z_a19_3 i k n),(sl 8 (k+2) (k+2)),(nU g)] 10 [(7,(cU rs)),(8,(cU ds))] bF [(7,some (cU r1)),(8,some (cU ds))] []))(r2:List Nat)(hc4:(FT 195 #[(z_a19_3 i k n),(sl 8 (k+2) (k+2))] 10 [(7,(cU r1)),(8,(cU ds))] undef [(7,some (cU r2)),(8,some (cU ds))] [])):GT (ld_h xs ys rs ds qs n c k e d s (i:Int) j) (ld_h xs ys r2 ds (qs.set i (g-1)) n c k e d s ((i:Int)-1) [(z_a19_3 i k n),(nU g),(J j 2),(J j 3),(J j 4),(J j 5),(J j 6),(J j 7),(J j 8),(J j 9),(J j 10),(J j 11),(J j 12),(J j 13),(J j 14),(J j 15),(J j 16),(J j 17),(J j 18),(J j 19),(J j 20),(J j 21),(J j 22),(J j 23),(J j 24),(J j 25),(J j 26),(J j 27),(J j 28),(J j 29),(J j 30),(J j 31),(J j 32),(J j 33),(J j 34),(J j 35),(nI i),bT,(nI i),(.int .i64 ((i:Int)-1)),(sl 7 (n+1) (n+1)),(nI i),(nI i),(sl 6 (k+2) e),(nI (k+2)),(nI (i+(k+2))),(nI ((i+(k+2))+1)),(z_a19_3 i k n),(z_a19_3 i k n),(sl 8 (k+2) (k+2)),(nU g),(nU g),bF,(sl 9 (d+1) (d+1)),(nI i),(nU g),(nW g),(.pointer (some ⟨9,i,none⟩)),(z_a19_3 i k n),(sl 8 (k+2) (k+2)),(nU g),bF,(sl 9 (d+1) (d+1)),(nI i),(.pointer (some ⟨9,i,none⟩)),(nW g),(nW (g-1)),(.pointer (some ⟨9,i,none⟩)),(z_a19_3 i k n),(sl 8 (k+2) (k+2)),undef]):=
 sR (sc:=[(4,.op (.rwB true)),(12,.op (.rwI (((i+(k+2)):Nat):Int))),(0,.op (.rwI ((((i+(k+2))+1):Nat):Int))),(0,.op (.slc i (k+3) (n+1-i))),(6,.call [7,8] (nU g) [(7,some (cU rs)),(8,some (cU ds))] []),(6,.op (.rwB false)),(8,.op (.rwI (g:Int))),(0,.op (.idx i)),(0,.op (.st (ns .u32 (qs.set i g)))),(7,.call [7,8] bF [(7,some (cU r1)),(8,some (cU ds))] []),(7,.op (.idx i)),(0,.op (.ld (nW g))),(0,.op (.rwI (((g-1):Nat):Int))),(0,.op (.idx i)),(0,.op (.st (ns .u32 (qs.set i (g-1))))),(4,.call [7,8] uu [(7,some (cU r2)),(8,some (cU ds))] []),(4,.op (.rwI ((i:Int)-1))),(3,.stay)]) (fr1:=ld_h_f xs ys r2 ds (qs.set i (g-1)) n c k e d s ((i:Int)-1) [(z_a19_3 i k n),(nU g),(J j 2),(J j 3),(J j 4),(J j 5),(J j 6),(J j 7),(J j 8),(J j 9),(J j 10),(J j 11),(J j 12),(J j 13),(J j 14),(J j 15),(J j 16),(J j 17),(J j 18),(J j 19),(J j 20),(J j 21),(J j 22),(J j 23),(J j 24),(J j 25),(J j 26),(J j 27),(J j 28),(J j 29),(J j 30),(J j 31),(J j 32),(J j 33),(J j 34),(J j 35),(nI i),bT,(nI i),(.int .i64 ((i:Int)-1)),(sl 7 (n+1) (n+1)),(nI i),(nI i),(sl 6 (k+2) e),(nI (k+2)),(nI (i+(k+2))),(nI ((i+(k+2))+1)),(z_a19_3 i k n),(z_a19_3 i k n),(sl 8 (k+2) (k+2)),(nU g),(nU g),bF,(sl 9 (d+1) (d+1)),(nI i),(nU g),(nW g),(.pointer (some ⟨9,i,none⟩)),(z_a19_3 i k n),(sl 8 (k+2) (k+2)),(nU g),bF,(sl 9 (d+1) (d+1)),(nI i),(.pointer (some ⟨9,i,none⟩)),(nW g),(nW (g-1)),(.pointer (some ⟨9,i,none⟩)),(z_a19_3 i k n),(sl 8 (k+2) (k+2)),uu]) (next:=10) (l:=ld_h_o xs ys r2 ds (qs.set i (g-1)) n c k e d s ((i:Int)-1)) (by kernel_rfl) (aI (dT (p:=(i:Int)≥(0:Int)) (by omega)) (aI (wI64 (a:=((i:Int)+(((k+2):Nat):Int))) (r:=(((i+(k+2)):Nat):Int)) (by omega)) (aI (wI64 (a:=((((i+(k+2)):Nat):Int)+(1:Int))) (r:=((((i+(k+2))+1):Nat):Int)) (by omega)) (aI (show 0≤(i:Int)∧(i:Int)≤((((i+(k+2))+1):Nat):Int)∧((((i+(k+2))+1):Nat):Int)≤(((n+1):Nat):Int)∧(if (n+1)=Int.toNat (i:Int) then 0 else 0+Int.toNat (i:Int)*1)=i∧Int.toNat (((((i+(k+2))+1):Nat):Int)-(i:Int))=(k+3)∧(n+1)-Int.toNat (i:Int)=(n+1-i) from (by refine⟨by omega,by omega,by omega,?_,by omega,by omega⟩;split<;>omega)) (aI hc0 (aI (eF (a:=(g:Int)) (b:=(0:Int)) (by omega)) (aI (wU32 (a:=(g:Int)) (r:=(g:Int)) (by omega)) (aI (ix (i:Int) (((d+1):Nat):Int) 0 1 i (by omega)) (aI (show i+1≤(ns .u32 qs).length∧lspl (ns .u32 qs) i [(nW g)]=(ns .u32 (qs.set i g)) from (ns_set (by omega))) (aI hc2 (aI (ix (i:Int) (((d+1):Nat):Int) 0 1 i (by omega)) (aI (show ((ns .u32 (qs.set i g)):List Value)[i]? =some (nW g) from (ns_get_set (by omega))) (aI (wU32 (a:=((g:Int)-(1:Int))) (r:=(((g-1):Nat):Int)) (by omega)) (aI (ix (i:Int) (((d+1):Nat):Int) 0 1 i (by omega)) (aI (show i+1≤(ns .u32 (qs.set i g)).length∧lspl (ns .u32 (qs.set i g)) i [(nW (g-1))]=(ns .u32 (qs.set i (g-1))) from (ns_set2 (by omega))) (aI hc4 (aI (wI64 (a:=((i:Int)-(1:Int))) (r:=((i:Int)-1)) (by omega)) tt)))))))))))))))))
theorem ld_o(xs ys rs ds qs:List Nat)(n c k e d s:Nat)(i:Int)(j:List Value)(hi:i<0)(hn:n=d+(k+2))(hm:n+1<1099511627776)(hrs:rs.length=n+1)(hqs:qs.length=d+1)(r3:List Nat)(q3:Nat)(h3:r3.length=n+1)(hc1:(FT 155 #[(sl 7 (n+1) (n+1)),(nU s)] 10 [(7,(cU rs))] (nU q3) [(7,some (cU r3))] []))(hr:GT ⟨Frame.enter Tryz.prog 158 #[(sl 5 n c),(sl 6 (k+2) e)] .normal,[],mkH 7 [(5,(cU xs)),(6,(cU ys))]⟩ (ld_h xs ys rs ds qs n c k e d s i j)):CT 158 #[(sl 5 n c),(sl 6 (k+2) e)] (mkH 7 [(5,(cU xs)),(6,(cU ys))]) (.tuple #[(sl 9 (top qs (d+1)) (top qs (d+1))),(sl 7 (top r3 (n+1)) (top r3 (n+1)))]) (mkH 10 [(5,(cU xs)),(6,(cU ys)),(7,(cU r3)),(9,(cU qs))]):=
 sF (sc:=[(4,.op (.rwB false)),(7,.call [7] (nU q3) [(7,some (cU r3))] []),(4,.call [9] (sl 9 (top qs (d+1)) (top qs (d+1))) [(9,some (cU qs))] []),(1,.call [7] (sl 7 (top r3 (n+1)) (top r3 (n+1))) [(7,some (cU r3))] []),(4,.stay)]) (next:=10) (l:=[(5,(cU xs)),(6,(cU ys)),(7,(cU r3)),(9,(cU qs))]) (by kernel_rfl) (aI (dF (p:=i≥(0:Int)) (by omega)) (aI hc1 (aI (trim_c 10 9 qs (d+1) (d+1) (by omega) (by omega) (by omega) (by omega)) (aI (trim_c 10 7 r3 (n+1) (n+1) (by omega) (by omega) (by omega) (by omega)) tt)))) hr
theorem ld_all{s0:AS}{xs ys ds:List Nat}{n c k e d s X:Nat}(hn:n=d+(k+2))(hm:n+1<1099511627776)(hld:Lim ds)(hds:ds.length=k+2)(h1:ds.getD (k+1) 0≠0): ∀(p:Nat) (rs qs:List Nat) (j:List Value),p≤d+1→rs.length=n+1→qs.length=d+1→Lim rs→Lim qs→(∀l,l<p→qs.getD l 0=0)→
  val qs*val ds+val rs=X→val rs<val ds*1000000000^p→GT s0 (ld_h xs ys rs ds qs n c k e d s ((p:Int)-1) j)→
  ∃rs' qs' i' j',rs'.length=n+1∧qs'.length=d+1∧Lim rs'∧Lim qs'∧val qs'*val ds+val rs'=X∧val rs'<val ds∧i'<0∧GT s0 (ld_h xs ys rs' ds qs' n c k e d s i' j'):=by
 have hV0:0<val ds:=by
  have:=val_top_le h1
  rw[List.take_of_length_le (by omega)]at this
  exact Nat.lt_of_lt_of_le (pow_pos _) this
 have hVk:val ds<1000000000^(k+2):=by
  have:=val_lt hld
  rw[hds]at this
  exact this
 have htk:ds.take (k+2)=ds:=List.take_of_length_le (by omega)
 intro p
 induction p with
 |zero=>
  intro rs qs j hp hrs hqs hlr hlq hz hX hR hr
  rw[Nat.pow_zero,Nat.mul_one]at hR
  exact⟨rs,qs,_,j,hrs,hqs,hlr,hlq,hX,hR,by omega,hr⟩
 |succ i ih=>
  intro rs qs j hp hrs hqs hlr hlq hz hX hR hr
  rw[show ((i+1:Nat):Int)-1=(i:Int) by omega]at hr
  have hg:=guess_lists hlr hld hds h1 (show i+k+2<rs.length by omega) hR
  have T:=gu_c 10 7 8 rs ds i (k+3) (n+1-i) k (k+2) (by omega) hlr hld (by omega) (by omega) (by omega) (by omega) h1
  rw[show i+k+2=i+(k+2) from rfl,show i+k+1=i+(k+1) from rfl]at hg
  have hg9:guessN (rs.getD (i+(k+2)) 0) (rs.getD (i+(k+1)) 0) (rs.getD (i+k) 0) (ds.getD (k+1) 0) (ds.getD k 0)≤1000000000-1:=Nat.min_le_left _ _
  generalize guessN (rs.getD (i+(k+2)) 0) (rs.getD (i+(k+1)) 0) (rs.getD (i+k) 0) (ds.getD (k+1) 0) (ds.getD k 0)=g at*
  have hR3:val rs<1000000000^(i+(k+2)+1):=by
   refine Nat.lt_of_lt_of_le hR ?_
   rw[show i+(k+2)+1=(k+2)+(i+1) by omega,Nat.pow_add 1000000000 (k+2) (i+1)]
   exact Nat.mul_le_mul_right _ (Nat.le_of_lt hVk)
  by_cases hg0:g=0
  ·have r:=ld_z xs ys rs ds qs n c k e d s i g j (by omega) hn hm hrs hds hqs (by omega) hg0 T
   exact ih rs qs _ (by omega) hrs hqs hlr hlq (fun l hl=>hz l (by omega)) hX (ld_zero hV0 (by omega)) (hr.trans r)
  ·obtain⟨r1,b,e1,e2,e3,e4,e5,T2⟩:=lm_c 10 7 8 rs ds i (k+3) (n+1-i) (k+2) (k+2) g (by omega) hlr hld (by omega) (by omega) (by omega) (by omega) (by omega)
   rw[htk]at e5
   have hL1:val r1<1000000000^(i+(k+2)):=val_lt_of_zero e2 fun l hl=>by
    rcases Nat.eq_or_lt_of_le hl with h|h
    ·rw[←h];exact e4
    ·rw[e3 l h];exact getD_of_val_lt hR3 (by omega)
   have key:=ld_lists hX hV0 hVk hg (hz i (by omega)) (by omega) e5 hL1
   by_cases hb:b≤rs.getD (i+(k+2)) 0
   ·rw[decide_eq_true hb]at T2
    obtain⟨k1,k2⟩:=key.1 hb
    have r:=ld_t xs ys rs ds qs n c k e d s i g j (by omega) hn hm hrs hds hqs (by omega) hg0 T r1 T2
    exact ih r1 (qs.set i g) _ (by omega) (by rw[e1];exact hrs) (by rw[List.length_set];exact hqs) e2 (hlq.set (by omega)) (fun l hl=>by rw[getD_set (by omega),if_neg (by omega)];exact hz l (by omega)) k1 k2 (hr.trans r)
   ·rw[decide_eq_false hb]at T2
    obtain⟨k1,k2⟩:=key.2 (by omega)
    obtain⟨r2,u,f1,f2,f3,f4,f5,T3⟩:=gb_c 10 7 8 r1 ds i (k+3) (n+1-i) (k+2) (k+2) (by omega) e2 hld (by omega) (by omega) (by omega) (by omega)
    rw[htk]at f5
    have hL2:val r2<1000000000^(i+(k+2)):=val_lt_of_zero f2 fun l hl=>by
     rw[f4 l hl]
     rcases Nat.eq_or_lt_of_le hl with h|h
     ·rw[←h];exact e4
     ·rw[e3 l h];exact getD_of_val_lt hR3 (by omega)
    obtain⟨k3,k4⟩:=k2 r2 u f3 f5 hL2
    have r:=ld_f xs ys rs ds qs n c k e d s i g j (by omega) hn hm hrs hds hqs (by omega) hg0 T r1 T2 r2 T3
    exact ih r2 (qs.set i (g-1)) _ (by omega) (by rw[f1,e1];exact hrs) (by rw[List.length_set];exact hqs) f2 (hlq.set (by omega)) (fun l hl=>by rw[getD_set (by omega),if_neg (by omega)];exact hz l (by omega)) k3 k4 (hr.trans r)
theorem ld_c(n0 bx byy:Nat)(xs ys:List Nat)(n c k e d:Nat)(hb:5≤bx∧bx<n0∧5≤byy∧byy<n0∧bx≠byy)(hlx:Lim xs)(hly:Lim ys)(hc:n≤xs.length)(hy:k+2≤ys.length)(hn:n=d+(k+2))(hm:n+1<1099511627776)(h0:ys.getD (k+1) 0≠0):
  ∃zs t rs u,Lim zs∧t≤zs.length∧t≤n∧(0<t→zs.getD (t-1) 0≠0)∧val (zs.take t)=val (xs.take n)/val (ys.take (k+2))∧
   Lim rs∧u≤rs.length∧u≤n+1∧(0<u→rs.getD (u-1) 0≠0)∧val (rs.take u)=val (xs.take n)%val (ys.take (k+2))∧
   FT 158 #[sl bx n c,sl byy (k+2) e] n0 [(bx,cU xs),(byy,cU ys)] (.tuple #[sl n0 t t,.slice (some ⟨(n0+1),0,none⟩) u u]) [(bx,some (cU xs)),(byy,some (cU ys))] [cU zs,cU rs]:=by
 obtain⟨s,hs⟩: ∃s,s=1000000000/(ys.getD (k+1) 0+1):=⟨_,rfl⟩
 have ha:=hly.get (k+1)
 have hs0:0<s:=hs▸scale_pos ha
 have hs9:s≤1000000000:=hs▸scale_le _
 have lx:(xs.take n++List.replicate (n+1-n) 0).length=n+1:=by rw[List.length_append,List.length_take,List.length_replicate];omega
 have vx:val (xs.take n++List.replicate (n+1-n) 0)=val (xs.take n):=by rw[val_append,val_replicate,Nat.mul_zero,Nat.add_zero]
 have ly:(ys.take (k+2)++List.replicate (k+2-(k+2)) 0).length=k+2:=by rw[List.length_append,List.length_take,List.length_replicate];omega
 have vy:val (ys.take (k+2)++List.replicate (k+2-(k+2)) 0)=val (ys.take (k+2)):=by rw[val_append,val_replicate,Nat.mul_zero,Nat.add_zero]
 obtain⟨r0,q0,a1,a2,a3,A⟩:=sc_c 9 7 (xs.take n++List.replicate (n+1-n) 0) (n+1) (n+1) s 0 (by omega) ((hlx.take n).append (Lim.replicate _)) lx (by omega) hs9 (by omega)
 obtain⟨d0,q1,b1,b2,b3,B⟩:=sc_c 9 8 (ys.take (k+2)++List.replicate (k+2-(k+2)) 0) (k+2) (k+2) s 0 (by omega) ((hly.take _).append (Lim.replicate _)) ly (by omega) hs9 (by omega)
 rw[vx,Nat.add_zero]at a3
 rw[vy,Nat.add_zero]at b3
 have hr0:=scale_rest (val_take_lt hlx n) hs9 a3
 obtain⟨hd0,hdt⟩:=scale_div hly b2 b1 h0 hs hs0 b3
 have hyk:=val_top_le h0
 have hy0:0<val (ys.take (k+2)):=Nat.lt_of_lt_of_le (pow_pos _) hyk
 have r:=ld_in xs ys n c k e d s hn hm hc hy ha hs hs9 r0 q0 A d0 q1 B
 have hR:val r0<val d0*1000000000^(d+1):=by
  have:=ld_init (val_take_lt hlx n) hyk (show k+1≤n by omega) hs0 hd0
  rw[←hr0,show n-(k+1)=d+1 by omega]at this
  exact this
 obtain⟨r1,q2,i,j,c1,c2,c3,c4,c5,c6,c7,c8⟩:=ld_all hn hm b2 b1 hdt (d+1) r0 (List.replicate (d+1) 0) _ (Nat.le_refl _) a1 (by rw[List.length_replicate]) a2 (Lim.replicate _) (fun l _=>getD_replicate _ _) (by rw[val_replicate,Nat.zero_mul,Nat.zero_add]) hR r
 rw[hd0]at c5 c6
 rw[hr0]at c5
 obtain⟨f1,f2⟩:=ld_final hs0 c5 c6
 obtain⟨r3,q3,g1,g2,g3,g4,T⟩:=sh_c 10 7 r1 (n+1) (n+1) s (by omega) c3 c1 (by omega) hs0 hs9
 rw[f2]at g4
 have hv:=shrink_exact hs0 g4 g3
 have S:=ld_o xs ys r1 d0 q2 n c k e d s i j c7 hn hm c1 c2 r3 q3 g1 T c8
 have htq:=top_le q2 (d+1)
 have htr:=top_le r3 (n+1)
 refine⟨q2,top q2 (d+1),r3,top r3 (n+1),c4,by omega,by omega,top_pos _ _,?_,g2,by omega,htr,top_pos _ _,?_,fsp_flat [bx,byy] [cU xs,cU ys] [cU xs,cU ys] [9,7] [cU q2,cU r3] n0 S rfl rfl rfl (by simp[hb.2.2.2.2]) (by simp;omega) (by omega) (by simp[flat,ns_closed]) (by simp[flat,ns_closed]) (by simp[flat,ns_closed,AObj.ro]) (by simp) (by simp) rfl rfl rfl⟩
 ·rw[top_val,List.take_of_length_le (by omega),f1]
 ·rw[top_val,List.take_of_length_le (by omega),hv]
theorem nf_o(x a b:Nat)(ha:a=x%1000000000)(hb:b=x/1000000000)(hx:x<1000000000000000000):CT 157 #[(nU x)] (mkH 5 []) (sl 5 (top ([a,b]) 2) (top ([a,b]) 2)) (mkH 6 [(5,(cU ([a,b])))]):=
 sF (sc:=[(7,.op (.rwI (a:Int))),(0,.op (.rwI (a:Int))),(1,.op (.rwI (b:Int))),(0,.op (.rwI (b:Int))),(1,.call [5] (sl 5 (top ([a,b]) 2) (top ([a,b]) 2)) [(5,some (cU ([a,b])))] []),(3,.stay)]) (next:=6) (l:=[(5,(cU ([a,b])))]) (by kernel_rfl) (aI (show (Int.tmod (x:Int) (1000000000:Int))=(a:Int) from (by rw[Int.tmod_eq_emod_of_nonneg (by omega)]<;>omega)) (aI (wU32 (a:=(a:Int)) (r:=(a:Int)) (by omega)) (aI (show IntKind.wrap .u64 (Int.tdiv (x:Int) (1000000000:Int))=(b:Int) from (by rw[Int.tdiv_eq_ediv_of_nonneg (by omega),wrap_u64 (by omega) (by omega)]<;>omega)) (aI (wU32 (a:=(b:Int)) (r:=(b:Int)) (by omega)) (aI (trim_c 6 5 ([a,b]) 2 2 (by first|omega|exact Nat.le_refl _) (by first|omega|exact Nat.le_refl _) (by first|omega|exact Nat.le_refl _) (by first|omega|exact Nat.le_refl _)) tt))))) (Gets.refl _)
theorem two_val(a b:Nat):val [a,b]=a+1000000000*b:=by simp[val]
theorem nf_c(n0 x:Nat)(hG:5≤n0)(hx:x<1000000000000000000): ∃xs t,Lim xs∧xs.length=2∧t≤2∧(0<t→xs.getD (t-1) 0≠0)∧val (xs.take t)=x∧
  FT 157 #[.int .u64 (x:Nat)] n0 [] (sl n0 t t) [] [cU xs]:=by
 obtain⟨a,ha⟩: ∃a,a=x%1000000000:=⟨_,rfl⟩
 obtain⟨b,hb⟩: ∃b,b=x/1000000000:=⟨_,rfl⟩
 refine⟨[a,b],top [a,b] 2,?_,rfl,top_le _ _,top_pos _ _,?_,fsp_flat [] [] [] [5] [.cells (ns .u32 [a,b]) 121 none false] n0 (nf_o x a b ha hb hx) rfl rfl rfl (by simp) (by simp) hG rfl rfl (by simp[flat,ns_closed,AObj.ro]) (by simp) (by simp) rfl rfl rfl⟩
 ·intro z hz
  simp at hz
  omega
 ·rw[top_val,show List.take 2 [a,b]=[a,b] from rfl,two_val]
  omega
theorem cmpu_lt(a b:Nat)(h:a<b):CT 191 #[(nW a),(nW b)] (mkH 5 []) (.int .i64 (.negSucc 0)) (mkH 5 []):=
 sF (sc:=[(16,.op (.rwB false)),(18,.op (.rwB false)),(25,.op (.rwB true)),(7,.stay)]) (next:=5) (l:=[]) (by kernel_rfl) (aI (nF (a:=(a:Int)) (b:=(a:Int)) (by omega)) (aI (nF (a:=(b:Int)) (b:=(b:Int)) (by omega)) (aI (dT (p:=(a:Int)<(b:Int)) (by omega)) tt))) (Gets.refl _)
theorem cmpu_gt(a b:Nat)(h:b<a):CT 191 #[(nW a),(nW b)] (mkH 5 []) (lI 1) (mkH 5 []):=
 sF (sc:=[(16,.op (.rwB false)),(18,.op (.rwB false)),(25,.op (.rwB false)),(8,.op (.rwB true)),(7,.stay)]) (next:=5) (l:=[]) (by kernel_rfl) (aI (nF (a:=(a:Int)) (b:=(a:Int)) (by omega)) (aI (nF (a:=(b:Int)) (b:=(b:Int)) (by omega)) (aI (dF (p:=(a:Int)<(b:Int)) (by omega)) (aI (dT (p:=(a:Int)>(b:Int)) (by omega)) tt)))) (Gets.refl _)
theorem cmpu_eq(a b:Nat)(h:a=b):CT 191 #[(nW a),(nW b)] (mkH 5 []) (lI 0) (mkH 5 []):=
 sF (sc:=[(16,.op (.rwB false)),(18,.op (.rwB false)),(25,.op (.rwB false)),(8,.op (.rwB false)),(8,.stay)]) (next:=5) (l:=[]) (by kernel_rfl) (aI (nF (a:=(a:Int)) (b:=(a:Int)) (by omega)) (aI (nF (a:=(b:Int)) (b:=(b:Int)) (by omega)) (aI (dF (p:=(a:Int)<(b:Int)) (by omega)) (aI (dF (p:=(a:Int)>(b:Int)) (by omega)) tt)))) (Gets.refl _)
theorem cmpu_c(n0 a b:Nat)(hG:5≤n0):FT 191 #[.int .u32 (a:Nat),.int .u32 (b:Nat)] n0 [] (.int .i64 (cmpN a b)) [] []:=by
 have S:CT 191 #[(nW a),(nW b)] (mkH 5 []) (.int .i64 (cmpN a b)) (mkH 5 []):=by
  rcases Nat.lt_trichotomy a b with h|h|h
  ·rw[cmpN_lt h];exact cmpu_lt a b h
  ·rw[cmpN_eq h];exact cmpu_eq a b h
  ·rw[cmpN_gt h];exact cmpu_gt a b h
 exact fsp_flat [] [] [] [] [] n0 S rfl rfl rfl (by simp) (by simp) hG rfl rfl rfl (by simp) (by simp) rfl rfl rfl
noncomputable section
abbrev z_c9b_0(xs ys:List Nat):List (Nat×AObj):=[(5,(cU xs)),(6,(cU ys))]
end
theorem cmp_lt(xs ys:List Nat)(n c k e:Nat)(hn:n<1099511627776)(hkm:k<1099511627776)(hlt:n<k):CT 152 #[(sl 5 n c),(sl 6 k e)] (mkH 7 (z_c9b_0 xs ys)) (.int .i64 (.negSucc 0)) (mkH 7 (z_c9b_0 xs ys)):=
 sF (sc:=[(11,.op (.rwB true)),(25,.op (.rwB false)),(18,.op (.rwB false)),(25,.op (.rwB true)),(11,.stay)]) (next:=7) (l:=(z_c9b_0 xs ys)) (by kernel_rfl) (aI (nT (a:=(n:Int)) (b:=(k:Int)) (by omega)) (aI (nF (a:=(n:Int)) (b:=(n:Int)) (by omega)) (aI (nF (a:=(k:Int)) (b:=(k:Int)) (by omega)) (aI (dT (p:=(n:Int)<(k:Int)) (by omega)) tt)))) (Gets.refl _)
theorem cmp_gt(xs ys:List Nat)(n c k e:Nat)(hn:n<1099511627776)(hkm:k<1099511627776)(hlt:k<n):CT 152 #[(sl 5 n c),(sl 6 k e)] (mkH 7 (z_c9b_0 xs ys)) (lI 1) (mkH 7 (z_c9b_0 xs ys)):=
 sF (sc:=[(11,.op (.rwB true)),(25,.op (.rwB false)),(18,.op (.rwB false)),(25,.op (.rwB false)),(8,.op (.rwB true)),(11,.stay)]) (next:=7) (l:=(z_c9b_0 xs ys)) (by kernel_rfl) (aI (nT (a:=(n:Int)) (b:=(k:Int)) (by omega)) (aI (nF (a:=(n:Int)) (b:=(n:Int)) (by omega)) (aI (nF (a:=(k:Int)) (b:=(k:Int)) (by omega)) (aI (dF (p:=(n:Int)<(k:Int)) (by omega)) (aI (dT (p:=(n:Int)>(k:Int)) (by omega)) tt))))) (Gets.refl _)
noncomputable def cmp_h_f(xs ys:List Nat)(n c k e:Nat)(i:Int)(j:List Value):Frame:=⟨152,List.toArray [(sl 5 n c),(sl 6 k e),uu,uu,(J j 0),(.int .i64 i),(J j 1),(J j 2),(J j 3),(J j 4),bF,uu,uu,uu,uu,uu,(J j 5),(J j 6),(J j 7),(J j 8),(J j 9),(J j 10),(J j 11),(J j 12),(J j 13),(J j 14),(J j 15),(J j 16),(J j 17),(J j 18),(J j 19),(J j 20),(J j 21),(J j 22),(J j 23),(J j 24),(J j 25),(J j 26),(J j 27),(J j 28),(J j 29)],[.code (cd Tryz.f152 [1,1,0,1,0,0]),.inLoop (cd Tryz.f152 [1,1,0,1,0,0]),.inBlock 0,.code (cd Tryz.f152 [1,1,1])],[],.run,.normal,none⟩
noncomputable def cmp_h_o(xs ys:List Nat)(n c k e:Nat)(i:Int):List (Nat×AObj):=(z_c9b_0 xs ys)
noncomputable def cmp_h(xs ys:List Nat)(n c k e:Nat)(i:Int)(j:List Value):AS:=⟨cmp_h_f xs ys n c k e i j,[],mkH 7 (cmp_h_o xs ys n c k e i)⟩
theorem cmp_in(xs ys:List Nat)(n c k e:Nat)(hn:n<1099511627776)(hkm:k<1099511627776)(hnk:n=k):GT ⟨Frame.enter Tryz.prog 152 #[(sl 5 n c),(sl 6 k e)] .normal,[],mkH 7 (z_c9b_0 xs ys)⟩ (cmp_h xs ys n c k e ((n:Int)-1) [(lI 0),(sl 5 n c),(nI n),(sl 6 k e),(nI k),(sl 5 n c),(nI n),(.int .i64 ((n:Int)-1)),undef,undef,undef,undef,undef,undef,undef,undef,undef,undef,undef,undef,undef,undef,undef,undef,undef,undef,undef,undef,undef,undef]):=
 sR (sc:=[(11,.op (.rwB false)),(8,.op (.rwI ((n:Int)-1))),(4,.stay)]) (fr1:=cmp_h_f xs ys n c k e ((n:Int)-1) [(lI 0),(sl 5 n c),(nI n),(sl 6 k e),(nI k),(sl 5 n c),(nI n),(.int .i64 ((n:Int)-1)),uu,uu,uu,uu,uu,uu,uu,uu,uu,uu,uu,uu,uu,uu,uu,uu,uu,uu,uu,uu,uu,uu]) (next:=7) (l:=cmp_h_o xs ys n c k e ((n:Int)-1)) (by kernel_rfl) (aI (nF (a:=(n:Int)) (b:=(k:Int)) (by omega)) (aI (wI64 (a:=((n:Int)-(1:Int))) (r:=((n:Int)-1)) (by omega)) tt))
theorem cmp_r(xs ys:List Nat)(n c k e:Nat)(i:Nat)(a b:Nat)(j:List Value)(hi:i<n)(hnk:n=k)(hc:n≤xs.length)(hk:k≤ys.length)(hn:n<1099511627776)(hx:(ns .u32 xs)[i]? =some (nW a))(hy:(ns .u32 ys)[i]? =some (nW b))(hab:a=b):GT (cmp_h xs ys n c k e (i:Int) j) (cmp_h xs ys n c k e ((i:Int)-1) [(J j 0),(J j 1),(J j 2),(J j 3),(J j 4),(J j 5),(J j 6),(J j 7),(nI i),bT,(nI i),(.int .i64 ((i:Int)-1)),(sl 5 n c),(nI i),(.pointer (some ⟨5,i,none⟩)),(nW a),(sl 6 k e),(nI i),(.pointer (some ⟨6,i,none⟩)),(nW b),bF,(J j 21),(J j 22),(J j 23),(J j 24),(J j 25),(J j 26),(J j 27),(J j 28),(J j 29)]):=
 sR (sc:=[(4,.op (.rwB true)),(6,.drw [(2,.idx i),(3,.ld (nW a)),(6,.idx i),(7,.ld (nW b)),(8,.rwB false)]),(5,.op (.rwI ((i:Int)-1))),(3,.stay)]) (fr1:=cmp_h_f xs ys n c k e ((i:Int)-1) [(J j 0),(J j 1),(J j 2),(J j 3),(J j 4),(J j 5),(J j 6),(J j 7),(nI i),bT,(nI i),(.int .i64 ((i:Int)-1)),(sl 5 n c),(nI i),(.pointer (some ⟨5,i,none⟩)),(nW a),(sl 6 k e),(nI i),(.pointer (some ⟨6,i,none⟩)),(nW b),bF,(J j 21),(J j 22),(J j 23),(J j 24),(J j 25),(J j 26),(J j 27),(J j 28),(J j 29)]) (next:=7) (l:=cmp_h_o xs ys n c k e ((i:Int)-1)) (by kernel_rfl) (aI (dT (p:=(i:Int)≥(0:Int)) (by omega)) (aI (aI tt (aI tt (aI (ix (i:Int) (n:Int) 0 1 i (by omega)) (aI hx (aI tt (aI tt (aI (ix (i:Int) (k:Int) 0 1 i (by omega)) (aI hy (aI (nF (a:=(a:Int)) (b:=(b:Int)) (by omega)) tt))))))))) (aI (wI64 (a:=((i:Int)-(1:Int))) (r:=((i:Int)-1)) (by omega)) tt)))
theorem cmp_o(xs ys:List Nat)(n c k e:Nat)(i:Nat)(a b:Nat)(j:List Value)(hi:i<n)(hnk:n=k)(hc:n≤xs.length)(hk:k≤ys.length)(hn:n<1099511627776)(hx:(ns .u32 xs)[i]? =some (nW a))(hy:(ns .u32 ys)[i]? =some (nW b))(hab:a≠b)(hr:GT ⟨Frame.enter Tryz.prog 152 #[(sl 5 n c),(sl 6 k e)] .normal,[],mkH 7 (z_c9b_0 xs ys)⟩ (cmp_h xs ys n c k e (i:Int) j)):CT 152 #[(sl 5 n c),(sl 6 k e)] (mkH 7 (z_c9b_0 xs ys)) (.int .i64 (cmpN a b)) (mkH 7 (z_c9b_0 xs ys)):=
 sF (sc:=[(4,.op (.rwB true)),(6,.drw [(2,.idx i),(3,.ld (nW a)),(6,.idx i),(7,.ld (nW b)),(8,.rwB true)]),(2,.drwM [(2,.idx i),(3,.ld (nW a)),(6,.idx i),(7,.ld (nW b))] [⟨8,[],(.int .i64 (cmpN a b)),[],[]⟩]),(1,.stay)]) (next:=7) (l:=(z_c9b_0 xs ys)) (by kernel_rfl) (aI (dT (p:=(i:Int)≥(0:Int)) (by omega)) (aI (aI tt (aI tt (aI (ix (i:Int) (n:Int) 0 1 i (by omega)) (aI hx (aI tt (aI tt (aI (ix (i:Int) (k:Int) 0 1 i (by omega)) (aI hy (aI (nT (a:=(a:Int)) (b:=(b:Int)) (by omega)) tt))))))))) (aI (aI tt (aI tt (aI (ix (i:Int) (n:Int) 0 1 i (by omega)) (aI hx (aI tt (aI tt (aI (ix (i:Int) (k:Int) 0 1 i (by omega)) (aI hy (aI (cmpu_c 7 a b (by omega)) (aI tt tt)))))))))) tt))) hr
theorem cmp_e(xs ys:List Nat)(n c k e:Nat)(i:Int)(j:List Value)(hi:i<0)(hr:GT ⟨Frame.enter Tryz.prog 152 #[(sl 5 n c),(sl 6 k e)] .normal,[],mkH 7 (z_c9b_0 xs ys)⟩ (cmp_h xs ys n c k e i j)):CT 152 #[(sl 5 n c),(sl 6 k e)] (mkH 7 (z_c9b_0 xs ys)) (lI 0) (mkH 7 (z_c9b_0 xs ys)):=
 sF (sc:=[(4,.op (.rwB false)),(8,.stay)]) (next:=7) (l:=(z_c9b_0 xs ys)) (by kernel_rfl) (aI (dF (p:=i≥(0:Int)) (by omega)) tt) hr
theorem cmp_loop{n c e:Nat}{xs ys:List Nat}(hlx:Lim xs)(hly:Lim ys)(hc:n≤xs.length)(hk:n≤ys.length)(hn:n<1099511627776): ∀(i:Nat) (j:List Value),i≤n→cmpN (val (xs.take n)) (val (ys.take n))=cmpN (val (xs.take i)) (val (ys.take i))→
  GT ⟨Frame.enter Tryz.prog 152 #[(sl 5 n c),(sl 6 n e)] .normal,[],mkH 7 [(5,(cU xs)),(6,(cU ys))]⟩ (cmp_h xs ys n c n e ((i:Int)-1) j)→CT 152 #[(sl 5 n c),(sl 6 n e)] (mkH 7 [(5,(cU xs)),(6,(cU ys))]) (.int .i64 (cmpN (val (xs.take n)) (val (ys.take n)))) (mkH 7 [(5,(cU xs)),(6,(cU ys))]):=by
 intro i
 induction i with
 |zero=>
  intro j _ ht hr
  have:=cmp_e xs ys n c n e _ j (by omega) hr
  rw[ht]
  exact this
 |succ i ih=>
  intro j hi ht hr
  rw[show ((i+1:Nat):Int)-1=(i:Int) by omega]at hr
  by_cases ha:xs.getD i 0=ys.getD i 0
  ·have r:=cmp_r xs ys n c n e i (xs.getD i 0) (ys.getD i 0) j (by omega) rfl hc hk hn (ns_get (by omega)) (ns_get (by omega)) ha
   exact ih _ (by omega) (by rw[ht,val_take_succ,val_take_succ,ha];exact cmpN_add _ _ _) (hr.trans r)
  ·have:=cmp_o xs ys n c n e i (xs.getD i 0) (ys.getD i 0) j (by omega) rfl hc hk hn (ns_get (by omega)) (ns_get (by omega)) ha hr
   rw[ht,val_take_succ,val_take_succ,cmpN_top (by have:=val_lt (hlx.take i);rw[List.length_take,Nat.min_eq_left (by omega)]at this;exact this) (by have:=val_lt (hly.take i);rw[List.length_take,Nat.min_eq_left (by omega)]at this;exact this) ha]
   exact this
theorem cmp_c(n0 bx byy:Nat)(xs ys:List Nat)(n c k e:Nat)(hb:5≤bx∧bx<n0∧5≤byy∧byy<n0∧bx≠byy)(hlx:Lim xs)(hly:Lim ys)(hc:n≤xs.length)(hk:k≤ys.length)(hn:n<1099511627776)(hkm:k<1099511627776)
  (hx:0<n→xs.getD (n-1) 0≠0) (hy:0<k→ys.getD (k-1) 0≠0):
  FT 152 #[sl bx n c,sl byy k e] n0 [(bx,cU xs),(byy,cU ys)] (.int .i64 (cmpN (val (xs.take n)) (val (ys.take k))))
    [(bx,some (cU xs)),(byy,some (cU ys))] []:=by
 have S:CT 152 #[(sl 5 n c),(sl 6 k e)] (mkH 7 [(5,(cU xs)),(6,(cU ys))]) (.int .i64 (cmpN (val (xs.take n)) (val (ys.take k)))) (mkH 7 [(5,(cU xs)),(6,(cU ys))]):=by
  by_cases hnk:n=k
  ·subst hnk
   refine cmp_loop hlx hly hc hk hn n _ (Nat.le_refl _) rfl (cmp_in xs ys n c n e hn hkm rfl)
  ·by_cases hlt:n<k
   ·rw[cmpN_lt (val_lt_of_len hlx hc hlt hy)]
    exact cmp_lt xs ys n c k e hn hkm hlt
   ·rw[cmpN_gt (val_lt_of_len hly hk (by omega) hx)]
    exact cmp_gt xs ys n c k e hn hkm (by omega)
 refine fsp_flat [bx,byy] [cU xs,cU ys] [cU xs,cU ys] [] [] n0 S rfl rfl rfl ?_ ?_ (by omega) ?_ ?_ rfl (by simp) (by simp) rfl rfl rfl
 ·simp[hb.2.2.2.2]
 ·simp;omega
 ·simp[flat,ns_closed]
 ·simp[flat,ns_closed]
theorem ov_l(xs ys:List Nat)(n c k e:Nat)(q:Int)(hq:q<0)(hc0:FT 152 #[(sl 5 n c),(sl 6 k e)] 7 [(5,(cU xs)),(6,(cU ys))] (.int .i64 q) [(5,some (cU xs)),(6,some (cU ys))] []):CT 116 #[(sl 5 n c),(sl 6 k e)] (mkH 7 [(5,(cU xs)),(6,(cU ys))]) (.tuple #[(.slice none 0 0),(sl 5 n c)]) (mkH 7 [(5,(cU xs)),(6,(cU ys))]):=
 sF (sc:=[(10,.call [5,6] (.int .i64 q) [(5,some (cU xs)),(6,some (cU ys))] []),(0,.op (.rwB true)),(9,.stay)]) (next:=7) (l:=[(5,(cU xs)),(6,(cU ys))]) (by kernel_rfl) (aI hc0 (aI (dT (p:=q<(0:Int)) (by omega)) tt)) (Gets.refl _)
theorem ov_1(xs ys:List Nat)(n c k e:Nat)(q:Int)(hq: ¬q<0)(hc:n≤xs.length)(hm:n<1099511627776)(ha:ys.getD 0 0<1000000000)(hy:1≤ys.length)(hc0:FT 152 #[(sl 5 n c),(sl 6 1 e)] 7 [(5,(cU xs)),(6,(cU ys))] (.int .i64 q) [(5,some (cU xs)),(6,some (cU ys))] [])(zs:List Nat)(r:Nat)(hz:zs.length=n)(hc2:FT 155 #[(sl 7 n n),(nU (ys.getD 0 0))] 8 [(7,(.cells (ns .u32 (xs.take n++List.replicate (n-n) 0)) 121 none false))] (nU r) [(7,some (cU zs))] [])(rs:List Nat)(u:Nat)(hc4:FT 157 #[(nU r)] 8 [] (sl 8 u u) [] [(cU rs)]):CT 116 #[(sl 5 n c),(sl 6 1 e)] (mkH 7 [(5,(cU xs)),(6,(cU ys))]) (.tuple #[(sl 7 (top zs n) (top zs n)),(sl 8 u u)]) (mkH 9 [(5,(cU xs)),(6,(cU ys)),(7,(cU zs)),(8,(cU rs))]):=
 sF (sc:=[(10,.call [5,6] (.int .i64 q) [(5,some (cU xs)),(6,some (cU ys))] []),(0,.op (.rwB false)),(16,.call [5] (sl 7 n n) [(5,some (cU xs))] [(.cells (ns .u32 (xs.take n++List.replicate (n-n) 0)) 121 none false)]),(7,.op (.ld (nW (ys.getD 0 0)))),(0,.op (.rwI (((ys.getD 0 0):Nat):Int))),(0,.call [7] (nU r) [(7,some (cU zs))] []),(5,.call [7] (sl 7 (top zs n) (top zs n)) [(7,some (cU zs))] []),(1,.call [] (sl 8 u u) [] [(cU rs)]),(4,.stay)]) (next:=9) (l:=[(5,(cU xs)),(6,(cU ys)),(7,(cU zs)),(8,(cU rs))]) (by kernel_rfl) (aI hc0 (aI (dF (p:=q<(0:Int)) (by omega)) (aI (copied_c 7 5 xs n c n (by omega) (by omega) (by omega) (by omega)) (aI (ns_get (k:=.u32) (xs:=ys) (i:=0) (by omega)) (aI (wU64 (a:=(((ys.getD 0 0):Nat):Int)) (r:=(((ys.getD 0 0):Nat):Int)) (by omega)) (aI hc2 (aI (trim_c 8 7 zs n n (by omega) (by omega) (by omega) (by omega)) (aI hc4 tt)))))))) (Gets.refl _)
theorem ov_2(xs ys:List Nat)(n c k e:Nat)(q:Int)(hq: ¬q<0)(hc0:FT 152 #[(sl 5 n c),(sl 6 (k+2) e)] 7 [(5,(cU xs)),(6,(cU ys))] (.int .i64 q) [(5,some (cU xs)),(6,some (cU ys))] [])(zs rs:List Nat)(t u:Nat)(hc2:FT 158 #[(sl 5 n c),(sl 6 (k+2) e)] 7 [(5,(cU xs)),(6,(cU ys))] (.tuple #[(sl 7 t t),(sl 8 u u)]) [(5,some (cU xs)),(6,some (cU ys))] [(cU zs),(cU rs)]):CT 116 #[(sl 5 n c),(sl 6 (k+2) e)] (mkH 7 [(5,(cU xs)),(6,(cU ys))]) (.tuple #[(sl 7 t t),(sl 8 u u)]) (mkH 9 [(5,(cU xs)),(6,(cU ys)),(7,(cU zs)),(8,(cU rs))]):=
 sF (sc:=[(10,.call [5,6] (.int .i64 q) [(5,some (cU xs)),(6,some (cU ys))] []),(0,.op (.rwB false)),(8,.op (.rwB false)),(7,.call [5,6] (.tuple #[(sl 7 t t),(sl 8 u u)]) [(5,some (cU xs)),(6,some (cU ys))] [(cU zs),(cU rs)]),(6,.stay)]) (next:=9) (l:=[(5,(cU xs)),(6,(cU ys)),(7,(cU zs)),(8,(cU rs))]) (by kernel_rfl) (aI hc0 (aI (dF (p:=q<(0:Int)) (by omega)) (aI (eF (a:=(((k+2):Nat):Int)) (b:=(1:Int)) (by omega)) (aI hc2 tt)))) (Gets.refl _)
theorem ov_c(n0 bx byy:Nat)(xs ys:List Nat)(n c k e:Nat)(hb:5≤bx∧bx<n0∧5≤byy∧byy<n0∧bx≠byy)(hlx:Lim xs)(hly:Lim ys)(hc:n≤xs.length)(hk:k≤ys.length)(hm:n+1<1099511627776)(hkm:k<1099511627776)(hx:0<n→xs.getD (n-1) 0≠0)(hy:0<k→ys.getD (k-1) 0≠0)(h0:0<k):
  (val (xs.take n)<val (ys.take k)∧FT 116 #[sl bx n c,sl byy k e] n0 [(bx,cU xs),(byy,cU ys)] (.tuple #[.slice none 0 0,sl bx n c]) [(bx,some (cU xs)),(byy,some (cU ys))] [])∨
  (val (ys.take k)≤val (xs.take n)∧ ∃zs t rs u,Lim zs∧t≤zs.length∧t≤n∧(0<t→zs.getD (t-1) 0≠0)∧val (zs.take t)=val (xs.take n)/val (ys.take k)∧
   Lim rs∧u≤rs.length∧u≤n+2∧(0<u→rs.getD (u-1) 0≠0)∧val (rs.take u)=val (xs.take n)%val (ys.take k)∧
   FT 116 #[sl bx n c,sl byy k e] n0 [(bx,cU xs),(byy,cU ys)] (.tuple #[sl n0 t t,.slice (some ⟨(n0+1),0,none⟩) u u]) [(bx,some (cU xs)),(byy,some (cU ys))] [cU zs,cU rs]):=by
 have hq:=cmp_c 7 5 6 xs ys n c k e (by omega) hlx hly hc hk (by omega) hkm hx hy
 by_cases hlt:val (xs.take n)<val (ys.take k)
 ·left
  refine⟨hlt,?_⟩
  have S:=ov_l xs ys n c k e _ (cmpN_neg.2 hlt) hq
  exact fsp_flat [bx,byy] [cU xs,cU ys] [cU xs,cU ys] [] [] n0 S rfl rfl rfl (by simp[hb.2.2.2.2]) (by simp;omega) (by omega) (by simp[flat,ns_closed]) (by simp[flat,ns_closed]) rfl (by simp) (by simp) rfl rfl rfl
 ·right
  have hge: ¬cmpN (val (xs.take n)) (val (ys.take k))<0:=fun q=>hlt (cmpN_neg.1 q)
  have hkn:k≤n:=by
   rcases Nat.lt_or_ge n k with h|h
   ·exact absurd (val_lt_of_len hlx hc h hy) hlt
   ·exact h
  refine⟨by omega,?_⟩
  have hk2:k=1∨ ∃k',k=k'+2:=by
   rcases Nat.lt_or_ge k 2 with h|h
   ·exact .inl (by omega)
   ·exact .inr ⟨k-2,by omega⟩
  rcases hk2 with rfl|⟨k',rfl⟩
  ·have ha:=hly.get 0
   have ha0:ys.getD 0 0≠0:=hy h0
   have lx:(xs.take n++List.replicate (n-n) 0).length=n:=by rw[List.length_append,List.length_take,List.length_replicate];omega
   have vx:val (xs.take n++List.replicate (n-n) 0)=val (xs.take n):=by rw[val_append,val_replicate,Nat.mul_zero,Nat.add_zero]
   have vy:val (ys.take 1)=ys.getD 0 0:=by rw[show (1:Nat)=0+1 from rfl,val_take_succ,List.take_zero,show val []=0 from rfl];simp
   obtain⟨zs,r,a1,a2,a3,a4,T⟩:=sh_c 8 7 (xs.take n++List.replicate (n-n) 0) n n (ys.getD 0 0) (by omega) ((hlx.take n).append (Lim.replicate _)) lx (by omega) (by omega) (by omega)
   rw[vx]at a4
   obtain⟨rs,u,b1,b2,b3,b4,b5,T2⟩:=nf_c 8 r (by omega) (by omega)
   have S:=ov_1 xs ys n c 1 e _ hge hc (by omega) ha (by omega) hq zs r a1 T rs u T2
   have htq:=top_le zs n
   have hdm:=(Nat.div_mod_unique (show 0<ys.getD 0 0 by omega)).2 (show r+ys.getD 0 0*val zs=val (xs.take n)∧r<ys.getD 0 0 from⟨by omega,a3⟩)
   refine⟨zs,top zs n,rs,u,a2,by omega,htq,top_pos _ _,?_,b1,by omega,by omega,b4,?_,fsp_flat [bx,byy] [cU xs,cU ys] [cU xs,cU ys] [7,8] [cU zs,cU rs] n0 S rfl rfl rfl (by simp[hb.2.2.2.2]) (by simp;omega) (by omega) (by simp[flat,ns_closed]) (by simp[flat,ns_closed]) (by simp[flat,ns_closed,AObj.ro]) (by simp) (by simp) rfl rfl rfl⟩
   ·rw[top_val,List.take_of_length_le (by omega),vy,hdm.1]
   ·rw[b5,vy,hdm.2]
  ·obtain⟨zs,t,rs,u,a1,a2,a3,a4,a5,b1,b2,b3,b4,b5,T⟩:=ld_c 7 5 6 xs ys n c k' e (n-(k'+2)) (by omega) hlx hly hc hk (by omega) (by omega) (hy h0)
   have S:=ov_2 xs ys n c k' e _ hge hq zs rs t u T
   exact⟨zs,t,rs,u,a1,a2,a3,a4,a5,b1,b2,by omega,b4,b5,fsp_flat [bx,byy] [cU xs,cU ys] [cU xs,cU ys] [7,8] [cU zs,cU rs] n0 S rfl rfl rfl (by simp[hb.2.2.2.2]) (by simp;omega) (by omega) (by simp[flat,ns_closed]) (by simp[flat,ns_closed]) (by simp[flat,ns_closed,AObj.ro]) (by simp) (by simp) rfl rfl rfl⟩
end Go.Proofs.YtbjpjoodjbmicaaGreatDoor
