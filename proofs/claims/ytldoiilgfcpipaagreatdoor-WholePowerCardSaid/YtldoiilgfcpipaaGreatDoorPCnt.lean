import Derived.Test.YtldoiilgfcpipaaGreatDoorK
import Derived.Test.YtldoiilgfcpipaaGreatDoorLE
import Derived.Test.YtldoiilgfcpipaaGreatDoorAl
set_option linter.unusedVariables false
set_option linter.unusedSimpArgs false
set_option maxRecDepth 100000
namespace Go.Proofs.YtldoiilgfcpipaaGreatDoor
open Go Go.AE Seg
theorem gob1_eq:Cn.gob1=gob1:=by kernel_rfl
theorem gl_eq:Cn.gl=[(0,Cn.gob0),(1,gob1),(2,Cn.gob2),(3,Cn.gob3)]:=by rw[←gob1_eq];rfl
theorem counted_c(n:Nat):FT 15 #[] n [(0,Cn.gob0),(1,gob1),(2,Cn.gob2),(3,Cn.gob3)] bT [(0,some Cn.gob0),(1,some gob1),(2,some Cn.gob2),(3,some Cn.gob3)] []:=by
 have h:=fsp_of_tell Cn.tell0 Cn.glOK (by kernel_rfl) (by kernel_rfl) n
 rw[gl_eq]at h
 exact h
theorem sg_f(xs:List Nat)(n c:Nat):CT 117 #[bF,(sl 5 n c)] (Ag 6 [(5,(cU xs))]) (.agg #[bF,(sl 5 n c)]) (Ag 7 [(5,(cU xs))]):=
 sF (sc:=[(17,.stay)]) (by kernel_rfl) tt (Gets.refl _)
theorem Ta(n0 b:Nat)(xs:List Nat)(n c:Nat)(hb:5≤b∧b<n0):
  FT 117 #[.bool false,sl b n c] n0 [(b,cU xs)] (.agg #[.bool false,sl b n c]) [(b,some (cU xs))] []:=
 Dd [b] [cU xs] [cU xs] [] [] n0 (sg_f xs n c) rfl rfl rfl (by simp) (by simp;omega) (by omega) (by simp[Bb,Ab]) (by simp[Bb,Ab]) rfl (by simp) (by simp) rfl rfl rfl
theorem sg_t(xs:List Nat)(n c:Nat)(ht:0<n):CT 117 #[bT,(sl 5 n c)] (Ag 6 [(5,(cU xs))]) (.agg #[bT,(sl 5 n c)]) (Ag 7 [(5,(cU xs))]):=
 sF (sc:=[(10,.op (.rwB true)),(6,.stay)]) (by kernel_rfl) (aI (dT (p:=(n:Int)>(0:Int))) tt) (Gets.refl _)
theorem Td(n0 b:Nat)(xs:List Nat)(n c:Nat)(hb:5≤b∧b<n0)(ht:0<n):
  FT 117 #[.bool true,sl b n c] n0 [(b,cU xs)] (.agg #[.bool true,sl b n c]) [(b,some (cU xs))] []:=
 Dd [b] [cU xs] [cU xs] [] [] n0 (sg_t xs n c ht) rfl rfl rfl (by simp) (by simp;omega) (by omega) (by simp[Bb,Ab]) (by simp[Bb,Ab]) rfl (by simp) (by simp) rfl rfl rfl
theorem sg_z(xs:List Nat)(n c:Nat)(ht:n=0):CT 117 #[bT,(sl 5 n c)] (Ag 6 [(5,(cU xs))]) (.agg #[bF,(sl 5 n c)]) (Ag 7 [(5,(cU xs))]):=
 sF (sc:=[(10,.op (.rwB false)),(6,.stay)]) (by kernel_rfl) (aI (dF (p:=(n:Int)>(0:Int))) tt) (Gets.refl _)
theorem sg_zc(n0 b:Nat)(xs:List Nat)(n c:Nat)(hb:5≤b∧b<n0)(ht:n=0):
  FT 117 #[.bool true,sl b n c] n0 [(b,cU xs)] (.agg #[.bool false,sl b n c]) [(b,some (cU xs))] []:=
 Dd [b] [cU xs] [cU xs] [] [] n0 (sg_z xs n c ht) rfl rfl rfl (by simp) (by simp;omega) (by omega) (by simp[Bb,Ab]) (by simp[Bb,Ab]) rfl (by simp) (by simp) rfl rfl rfl
theorem op_t:CT 188 #[bF] (Ag 5 []) bT (Ag 5 []):=
 sF (sc:=[(11,.stay)]) (by kernel_rfl) tt (Gets.refl _)
theorem op_tc(n0:Nat)(hG:5≤n0):FT 188 #[bF] n0 [] bT [] []:=
 Dd [] [] [] [] [] n0 (op_t) rfl rfl rfl (by simp) (by simp) hG rfl rfl rfl (by simp) (by simp) rfl rfl rfl
theorem wi_ff:CT 118 #[bF,bF] (Ag 5 []) bF (Ag 5 []):=
 sF (sc:=[(12,.stay)]) (by kernel_rfl) tt (Gets.refl _)
theorem wi_ffc(n0:Nat)(hG:5≤n0):FT 118 #[bF,bF] n0 [] bF [] []:=
 Dd [] [] [] [] [] n0 (wi_ff) rfl rfl rfl (by simp) (by simp) hG rfl rfl rfl (by simp) (by simp) rfl rfl rfl
theorem wi_ft:CT 118 #[bF,bT] (Ag 5 []) bT (Ag 5 []):=
 sF (sc:=[(12,.stay)]) (by kernel_rfl) tt (Gets.refl _)
theorem wi_ftc(n0:Nat)(hG:5≤n0):FT 118 #[bF,bT] n0 [] bT [] []:=
 Dd [] [] [] [] [] n0 (wi_ft) rfl rfl rfl (by simp) (by simp) hG rfl rfl rfl (by simp) (by simp) rfl rfl rfl
theorem wi_tf:CT 118 #[bT,bF] (Ag 5 []) bT (Ag 5 []):=
 sF (sc:=[(12,.stay)]) (by kernel_rfl) tt (Gets.refl _)
theorem wi_tfc(n0:Nat)(hG:5≤n0):FT 118 #[bT,bF] n0 [] bT [] []:=
 Dd [] [] [] [] [] n0 (wi_tf) rfl rfl rfl (by simp) (by simp) hG rfl rfl rfl (by simp) (by simp) rfl rfl rfl
theorem wi_tt:CT 118 #[bT,bT] (Ag 5 []) bF (Ag 5 []):=
 sF (sc:=[(12,.stay)]) (by kernel_rfl) tt (Gets.refl _)
theorem wi_ttc(n0:Nat)(hG:5≤n0):FT 118 #[bT,bT] n0 [] bF [] []:=
 Dd [] [] [] [] [] n0 (wi_tt) rfl rfl rfl (by simp) (by simp) hG rfl rfl rfl (by simp) (by simp) rfl rfl rfl
theorem ng_f(xs:List Nat)(n c:Nat)(ht:0<n):CT 150 #[(.agg #[bF,(sl 5 n c)])] (Ag 6 [(5,(cU xs))]) (.agg #[bT,(sl 5 n c)]) (Ag 8 [(5,(cU xs))]):=
 sF (sc:=[(6,.drwM [] [⟨2,[],bT,[],[]⟩,⟨5,[5],(.agg #[bT,(sl 5 n c)]),[(5,some (cU xs))],[]⟩]),(1,.stay)]) (by kernel_rfl) (aI (aI tt (aI tt (aI tt (aI tt (aI (op_tc 8 (by omega)) (aI (Td 8 5 xs n c (by omega) ht) (aI tt tt))))))) tt) (Gets.refl _)
theorem ng_fc(n0 b:Nat)(xs:List Nat)(n c:Nat)(hb:5≤b∧b<n0)(ht:0<n):
  FT 150 #[.agg #[.bool false,sl b n c]] n0 [(b,cU xs)] (.agg #[.bool true,sl b n c]) [(b,some (cU xs))] []:=
 Dd [b] [cU xs] [cU xs] [] [] n0 (ng_f xs n c ht) rfl rfl rfl (by simp) (by simp;omega) (by omega) (by simp[Bb,Ab]) (by simp[Bb,Ab]) rfl (by simp) (by simp) rfl rfl rfl
noncomputable def trim_h_f(xs:List Nat)(n c:Nat)(i:Nat)(j:List Value):Frame:=⟨156,List.toArray [(sl 5 n c),uu,(.slice none 0 0),(nI i),(J j 0),(J j 1),(J j 2),(J j 3),(J j 4),(J j 5),(J j 6),(J j 7),(J j 8),(J j 9),(J j 10),(J j 11),(J j 12),(J j 13),uu,uu,uu,uu],[.code (cd Tryz.f156 [1,1,0,0,0]),.inLoop (cd Tryz.f156 [1,1,0,0,0]),.inBlock 0,.code (cd Tryz.f156 [1,1,1])],[],.run,.normal,none⟩
noncomputable def trim_h_o(xs:List Nat)(n c:Nat)(i:Nat):List (Nat×AObj):=[(5,(cU xs))]
noncomputable def trim_h(xs:List Nat)(n c:Nat)(i:Nat)(j:List Value):AS:=⟨trim_h_f xs n c i j,[],Ag 6 (trim_h_o xs n c i)⟩
theorem trim_in(xs:List Nat)(n c:Nat):GT ⟨Frame.enter Tryz.prog 156 #[(sl 5 n c)] .normal,[],Ag 6 [(5,(cU xs))]⟩ (trim_h xs n c n [(sl 5 n c),(nI n),undef,undef,undef,undef,undef,undef,undef,undef,undef,undef,undef,undef]):=
 sR (sc:=[(13,.stay)]) (by kernel_rfl) tt
theorem trim_r(xs:List Nat)(n c i a:Nat)(j:List Value)(h0:0<i)(hi:i≤n)(hc:n≤xs.length)(hm:n<9223372036854775807)(ha:a=0)(hx:(ns .u32 xs)[i-1]? =some (nW a)):GT (trim_h xs n c i j) (trim_h xs n c (i-1) [(J j 0),(J j 1),(nI i),bT,bT,(sl 5 n c),(nI i),(nI (i-1)),(.pointer (some ⟨5,(i-1),none⟩)),(nW a),bT,bT,(nI i),(nI (i-1))]):=
 sR (sc:=[(4,.op (.rwB true)),(3,.op (.rwI (((i-1):Nat):Int))),(0,.op (.idx (i-1))),(0,.op (.ld (nW a))),(0,.op (.rwB true)),(7,.op (.rwI (((i-1):Nat):Int))),(4,.stay)]) (by kernel_rfl) (aI (dT (p:=(i:Int)>(0:Int))) (aI (Ao (a:=((i:Int)-(1:Int))) (r:=(((i-1):Nat):Int))) (aI (ix (((i-1):Nat):Int) (n:Int) 0 1 (i-1)) (aI hx (aI (eT (a:=(a:Int)) (b:=(0:Int))) (aI (Ao (a:=((i:Int)-(1:Int))) (r:=(((i-1):Nat):Int))) tt))))))
theorem trim_o1(xs:List Nat)(n c i a:Nat)(j:List Value)(h0:0<i)(hi:i≤n)(hc:n≤xs.length)(hnc:n≤c)(hm:n<9223372036854775807)(ha:a≠0)(hx:(ns .u32 xs)[i-1]? =some (nW a))(hr:GT ⟨Frame.enter Tryz.prog 156 #[(sl 5 n c)] .normal,[],Ag 6 [(5,(cU xs))]⟩ (trim_h xs n c i j)):CT 156 #[(sl 5 n c)] (Ag 6 [(5,(cU xs))]) (sl 5 i i) (Ag 6 [(5,(cU xs))]):=
 sF (sc:=[(4,.op (.rwB true)),(3,.op (.rwI (((i-1):Nat):Int))),(0,.op (.idx (i-1))),(0,.op (.ld (nW a))),(0,.op (.rwB false)),(9,.op (.slc 0 i i)),(3,.stay)]) (by kernel_rfl) (aI (dT (p:=(i:Int)>(0:Int))) (aI (Ao (a:=((i:Int)-(1:Int))) (r:=(((i-1):Nat):Int))) (aI (ix (((i-1):Nat):Int) (n:Int) 0 1 (i-1)) (aI hx (aI (eF (a:=(a:Int)) (b:=(0:Int))) (aI (show 0≤(0:Int)∧(0:Int)≤(i:Int)∧(i:Int)≤(i:Int)∧(i:Int)≤(c:Int)∧(if Int.toNat (i:Int)=Int.toNat (0:Int) then 0 else 0+Int.toNat (0:Int)*1)=0∧Int.toNat ((i:Int)-(0:Int))=i∧Int.toNat (i:Int)-Int.toNat (0:Int)=i from (by repeat (first|omega|(split<;>omega)|constructor))) tt)))))) hr
theorem trim_o2(xs:List Nat)(n c i:Nat)(j:List Value)(h0:i=0)(hr:GT ⟨Frame.enter Tryz.prog 156 #[(sl 5 n c)] .normal,[],Ag 6 [(5,(cU xs))]⟩ (trim_h xs n c i j)):CT 156 #[(sl 5 n c)] (Ag 6 [(5,(cU xs))]) (sl 5 i i) (Ag 6 [(5,(cU xs))]):=
 sF (sc:=[(4,.op (.rwB false)),(16,.op (.slc 0 i i)),(3,.stay)]) (by kernel_rfl) (aI (dF (p:=(i:Int)>(0:Int))) (aI (show 0≤(0:Int)∧(0:Int)≤(i:Int)∧(i:Int)≤(i:Int)∧(i:Int)≤(c:Int)∧(if Int.toNat (i:Int)=Int.toNat (0:Int) then 0 else 0+Int.toNat (0:Int)*1)=0∧Int.toNat ((i:Int)-(0:Int))=i∧Int.toNat (i:Int)-Int.toNat (0:Int)=i from (by repeat (first|omega|(split<;>omega)|constructor))) tt)) hr
theorem trim_loop{n c:Nat}{xs:List Nat}(hc:n≤xs.length)(hnc:n≤c)(hm:n<9223372036854775807): ∀(i:Nat) (j:List Value),i≤n→top xs i=top xs n→
  GT ⟨Frame.enter Tryz.prog 156 #[(sl 5 n c)] .normal,[],Ag 6 [(5,(cU xs))]⟩ (trim_h xs n c i j)→CT 156 #[(sl 5 n c)] (Ag 6 [(5,(cU xs))]) (sl 5 (top xs n) (top xs n)) (Ag 6 [(5,(cU xs))]):=by
 intro i
 induction i with
 |zero=>
  intro j _ ht hr
  have:=trim_o2 xs n c 0 j rfl hr
  rw[←ht]
  exact this
 |succ i ih=>
  intro j hi ht hr
  by_cases ha:xs.getD i 0=0
  ·have r:=trim_r xs n c (i+1) (xs.getD i 0) j (by omega) hi hc hm ha (Ar)
   exact ih _ (by omega) (by rw[←ht,top_zero ha]) (hr.trans r)
  ·have:=trim_o1 xs n c (i+1) (xs.getD i 0) j (by omega) hi hc hnc hm ha (Ar) hr
   rw[←ht,top_some ha]
   exact this
theorem So(n0 b:Nat)(xs:List Nat)(n c:Nat)(hb:5≤b∧b<n0)(hc:n≤xs.length)(hnc:n≤c)(hm:n<9223372036854775807):
  FT 156 #[sl b n c] n0 [(b,cU xs)] (sl b (top xs n) (top xs n)) [(b,some (cU xs))] []:=
 Dd [b] [cU xs] [cU xs] [] [] n0 (trim_loop hc hnc hm n _ (Nat.le_refl _) rfl (trim_in xs n c)) rfl rfl rfl (by simp) (by simp;omega) (by omega) (by simp[Bb,Ab]) (by simp[Bb,Ab]) rfl (by simp) (by simp) rfl rfl rfl
noncomputable section
abbrev Wq(i k n:Nat):Value:=.slice (some ⟨7,i,none⟩) (k+1) (n+k-i)
abbrev z_6eb_0(j0 b p r q a i k n:Nat)(j:List Value):List Value:=[(nI j0),(nW b),(nU ((p+r)+q)),(J j 3),(J j 4),(J j 5),(J j 6),(J j 7),(J j 8),(J j 9),(J j 10),(J j 11),(J j 12),(J j 13),(J j 14),(J j 15),(J j 16),(J j 17),(J j 18),(J j 19),bT,(nI j0),(.pointer (some ⟨6,j0,none⟩)),(nW b),(nW a),(nU a),(nW b),(nU b),(nU p),(Wq i k n),(nI j0),(.pointer (some ⟨7,(i+j0),none⟩)),(nW r),(nU r),(nU (p+r)),(nU q),(nU ((p+r)+q)),(nU ((p+r)+q)),(nU (((p+r)+q)/1000000000)),(Wq i k n),(nI j0),(nU ((p+r)+q)),(nU (((p+r)+q)%1000000000)),(nW (((p+r)+q)%1000000000)),(.pointer (some ⟨7,(i+j0),none⟩)),(nI (j0+1)),(J j 46),(J j 47),(J j 48),(J j 49),(J j 50),(J j 51),(J j 52)]
abbrev z_6eb_1(i a k n q e j0:Nat)(j:List Value):List Value:=[(nI i),(nW a),(Wq i k n),(nU q),(J j 0),(J j 1),(J j 2),(J j 3),(J j 4),(J j 5),(J j 6),(J j 7),(J j 8),bT,(J j 9),(J j 10),(J j 11),(J j 12),(J j 13),(J j 14),(J j 15),(J j 16),(J j 17),(J j 18),(J j 19),(sl 6 k e),(nI k),(nI j0),bF,(J j 21),(J j 22),(J j 23),(J j 24),(J j 25),(J j 26),(J j 27),(J j 28),(J j 29),(J j 30),(J j 31),(J j 32),(J j 33),(J j 34),(J j 35),(J j 36),(J j 37),(J j 38),(J j 39),(J j 40),(J j 41),(J j 42),(J j 43),(J j 44),(J j 45),(Wq i k n),(sl 6 k e),(nI k),(nU q),(nW q),(.pointer (some ⟨7,(i+k),none⟩)),(nI (i+1))]
end
noncomputable def rw_h_f(xs ys zs:List Nat)(n c k e i:Nat)(j:List Value):Frame:=⟨218,List.toArray [(sl 5 n c),(sl 6 k e),uu,uu,(.slice none 0 0),(sl 7 (n+k) (n+k)),(J j 0),(J j 1),(J j 2),(J j 3),(J j 4),(J j 5),(J j 6),(J j 7),(J j 8),(J j 9),(J j 10),(J j 11),(J j 12),(sl 5 n c),(nI n),(nI i),(J j 13),(J j 14),(J j 15),(J j 16),(J j 17),(J j 18),(J j 19),(J j 20),(J j 21),(J j 22),(J j 23),(J j 24),(J j 25),(J j 26),(J j 27),(J j 28),(J j 29),(J j 30),(J j 31),(J j 32),(J j 33),(J j 34),(J j 35),(J j 36),(J j 37),(J j 38),(J j 39),(J j 40),(J j 41),(J j 42),(J j 43),(J j 44),(J j 45),(J j 46),(J j 47),(J j 48),(J j 49),(J j 50),(J j 51),(J j 52),(J j 53),(J j 54),(J j 55),(J j 56),(J j 57),(J j 58),(J j 59),(J j 60),uu,uu],[.code (cd Tryz.f218 [1,1,0,1,0,0]),.inLoop (cd Tryz.f218 [1,1,0,1,0,0]),.inBlock 0,.code (cd Tryz.f218 [1,1,1])],[],.run,.normal,none⟩
noncomputable def rw_h_o(xs ys zs:List Nat)(n c k e i:Nat):List (Nat×AObj):=[(5,(cU xs)),(6,(cU ys)),(7,(cU zs))]
noncomputable def rw_h(xs ys zs:List Nat)(n c k e i:Nat)(j:List Value):AS:=⟨rw_h_f xs ys zs n c k e i j,[],Ag 8 (rw_h_o xs ys zs n c k e i)⟩
theorem rw_in(xs ys:List Nat)(n c k e:Nat)(hn:n<70368744177)(hkm:k<70368744177):GT ⟨Frame.enter Tryz.prog 218 #[(sl 5 n c),(sl 6 k e)] .normal,[],Ag 7 [(5,(cU xs)),(6,(cU ys))]⟩ (rw_h xs ys (List.replicate (n+k) 0) n c k e 0 [undef,undef,undef,undef,undef,undef,undef,(sl 5 n c),(nI n),(sl 6 k e),(nI k),(nI (n+k)),(sl 7 (n+k) (n+k)),undef,undef,undef,undef,undef,undef,undef,undef,undef,undef,undef,undef,undef,undef,undef,undef,undef,undef,undef,undef,undef,undef,undef,undef,undef,undef,undef,undef,undef,undef,undef,undef,undef,undef,undef,undef,undef,undef,undef,undef,undef,undef,undef,undef,undef,undef,undef,undef]):=
 sR (sc:=[(10,.op (.rwI (((n+k):Nat):Int))),(0,.op (.mks (n+k) (n+k) (ns .u32 (List.replicate (n+k) 0)))),(11,.stay)]) (by kernel_rfl) (aI (Ao (a:=((n:Int)+(k:Int))) (r:=(((n+k):Nat):Int))) (aI (show (0≤(((n+k):Nat):Int)∧(((n+k):Nat):Int)≤(((n+k):Nat):Int)∧((4:Nat):Int)*(((n+k):Nat):Int)≤281474976710656∧(((n+k):Nat):Int)≤9223372036854775807)∧Au (ns .u32 (List.replicate (n+k) 0))=true∧(madeCells (Value.cells (lW 0)) (Int.toNat (((n+k):Nat):Int)*1)).toList=(ns .u32 (List.replicate (n+k) 0))∧Int.toNat (((n+k):Nat):Int)=(n+k)∧Int.toNat (((n+k):Nat):Int)=(n+k) from (by refine⟨⟨?_,?_,?_,?_⟩,Ab _ _,Qd _ _ _,?_,?_⟩<;>omega)) tt))
noncomputable def rw_g_f(xs ys zs:List Nat)(n c k e i a q j0:Nat)(j:List Value):Frame:=⟨218,List.toArray [(sl 5 n c),(sl 6 k e),uu,uu,(.slice none 0 0),(sl 7 (n+k) (n+k)),(nI i),(nW a),(Wq i k n),(nU q),(J j 0),(J j 1),(J j 2),(J j 3),(J j 4),(J j 5),(J j 6),(J j 7),(J j 8),(sl 5 n c),(nI n),(nI i),bT,(J j 9),(J j 10),(J j 11),(J j 12),(J j 13),(J j 14),(J j 15),(J j 16),(J j 17),(J j 18),(J j 19),(sl 6 k e),(nI k),(nI j0),(J j 20),(J j 21),(J j 22),(J j 23),(J j 24),(J j 25),(J j 26),(J j 27),(J j 28),(J j 29),(J j 30),(J j 31),(J j 32),(J j 33),(J j 34),(J j 35),(J j 36),(J j 37),(J j 38),(J j 39),(J j 40),(J j 41),(J j 42),(J j 43),(J j 44),(J j 45),(J j 46),(J j 47),(J j 48),(J j 49),(J j 50),(J j 51),(J j 52),uu,uu],[.code (cd Tryz.f218 [1,1,0,1,0,0,1,1,0,0,1,1,1,0,1,0,0]),.inLoop (cd Tryz.f218 [1,1,0,1,0,0,1,1,0,0,1,1,1,0,1,0,0]),.inBlock 2,.code (cd Tryz.f218 [1,1,0,1,0,0,1,1,0,0,1,1,1,1]),.inBlock 1,.code (cd Tryz.f218 [1,1,0,1,0,0,1,1,1]),.inLoop (cd Tryz.f218 [1,1,0,1,0,0]),.inBlock 0,.code (cd Tryz.f218 [1,1,1])],[],.run,.normal,none⟩
noncomputable def rw_g_o(xs ys zs:List Nat)(n c k e i a q j0:Nat):List (Nat×AObj):=[(5,(cU xs)),(6,(cU ys)),(7,(cU zs))]
noncomputable def rw_g(xs ys zs:List Nat)(n c k e i a q j0:Nat)(j:List Value):AS:=⟨rw_g_f xs ys zs n c k e i a q j0 j,[],Ag 8 (rw_g_o xs ys zs n c k e i a q j0)⟩
theorem rw_1(xs ys zs:List Nat)(n c k e i a:Nat)(j:List Value)(hi:i<n)(hn:n<70368744177)(hkm:k<70368744177)(hc:n≤xs.length)(hx:(ns .u32 xs)[i]? =some (nW a)):GT (rw_h xs ys zs n c k e i j) (rw_g xs ys zs n c k e i a 0 0 [(J j 4),(J j 5),(J j 6),(J j 7),(J j 8),(J j 9),(J j 10),(J j 11),(J j 12),(nI i),(.pointer (some ⟨5,i,none⟩)),(nW a),(sl 7 (n+k) (n+k)),(nI i),(nI i),(sl 6 k e),(nI k),(nI (i+k)),(nI ((i+k)+1)),(Wq i k n),(J j 28),(J j 29),(J j 30),(J j 31),(J j 32),(J j 33),(J j 34),(J j 35),(J j 36),(J j 37),(J j 38),(J j 39),(J j 40),(J j 41),(J j 42),(J j 43),(J j 44),(J j 45),(J j 46),(J j 47),(J j 48),(J j 49),(J j 50),(J j 51),(J j 52),(J j 53),(J j 54),(J j 55),(J j 56),(J j 57),(J j 58),(J j 59),(J j 60)]):=
 sR (sc:=[(2,.op (.rwB true)),(9,.op (.idx i)),(0,.op (.ld (nW a))),(10,.op (.rwI (((i+k):Nat):Int))),(0,.op (.rwI ((((i+k)+1):Nat):Int))),(0,.op (.slc i (k+1) (n+k-i))),(15,.stay)]) (by kernel_rfl) (aI (dT (p:=(i:Int)<(n:Int))) (aI (ix (i:Int) (n:Int) 0 1 i) (aI hx (aI (Ao (a:=((i:Int)+(k:Int))) (r:=(((i+k):Nat):Int))) (aI (Ao (a:=((((i+k):Nat):Int)+(1:Int))) (r:=((((i+k)+1):Nat):Int))) (aI (show 0≤(i:Int)∧(i:Int)≤((((i+k)+1):Nat):Int)∧((((i+k)+1):Nat):Int)≤(((n+k):Nat):Int)∧(if (n+k)=Int.toNat (i:Int) then 0 else 0+Int.toNat (i:Int)*1)=i∧Int.toNat (((((i+k)+1):Nat):Int)-(i:Int))=(k+1)∧(n+k)-Int.toNat (i:Int)=(n+k-i) from (by refine⟨by omega,by omega,by omega,?_,by omega,by omega⟩;split<;>omega)) tt))))))
theorem rw_2(xs ys zs:List Nat)(n c k e i a q j0 b r p:Nat)(j:List Value)(hi:i<n)(hj:j0<k)(hn:n<70368744177)(hkm:k<70368744177)(hk:k≤ys.length)(hz:zs.length=n+k)(ha:a<1000000000)(hb:b<1000000000)(hr0:r<1000000000)(hq:q<1000000000)(hp:p=a*b)(hp2:p≤999999998000000001)(hy:(ns .u32 ys)[j0]? =some (nW b))(hzr:(ns .u32 zs)[i+j0]? =some (nW r)):GT (rw_g xs ys zs n c k e i a q j0 j) (rw_g xs ys (zs.set (i+j0) (((p+r)+q)%1000000000)) n c k e i a (((p+r)+q)/1000000000) (j0+1) (z_6eb_0 j0 b p r q a i k n j)):=
 sR (sc:=[(2,.op (.rwB true)),(9,.op (.idx j0)),(0,.op (.ld (nW b))),(6,.op (.rwI (a:Int))),(1,.op (.rwI (b:Int))),(0,.op (.rwI (p:Int))),(2,.op (.idx (i+j0))),(0,.op (.ld (nW r))),(0,.op (.rwI (r:Int))),(0,.op (.rwI (((p+r):Nat):Int))),(1,.op (.rwI ((((p+r)+q):Nat):Int))),(5,.op (.rwI (((((p+r)+q)/1000000000):Nat):Int))),(6,.op (.rwI (((((p+r)+q)%1000000000):Nat):Int))),(0,.op (.rwI (((((p+r)+q)%1000000000):Nat):Int))),(0,.op (.idx (i+j0))),(0,.op (.st (ns .u32 (zs.set (i+j0) (((p+r)+q)%1000000000))))),(3,.op (.rwI (((j0+1):Nat):Int))),(3,.stay)]) (by kernel_rfl) (aI (dT (p:=(j0:Int)<(k:Int))) (aI (ix (j0:Int) (k:Int) 0 1 j0) (aI hy (aI (Gc (a:=(a:Int)) (r:=(a:Int))) (aI (Gc (a:=(b:Int)) (r:=(b:Int))) (aI (show IntKind.wrap .u64 ((a:Int)*(b:Int))=(p:Int) from (by subst hp;rw[Dc (by omega) (by omega)]<;>omega)) (aI (ix (j0:Int) (((k+1):Nat):Int) i 1 (i+j0)) (aI hzr (aI (Gc (a:=(r:Int)) (r:=(r:Int))) (aI (Gc (a:=((p:Int)+(r:Int))) (r:=(((p+r):Nat):Int))) (aI (Gc (a:=((((p+r):Nat):Int)+(q:Int))) (r:=((((p+r)+q):Nat):Int))) (aI (show IntKind.wrap .u64 (Int.tdiv ((((p+r)+q):Nat):Int) (1000000000:Int))=(((((p+r)+q)/1000000000):Nat):Int) from (by rw[Int.tdiv_eq_ediv_of_nonneg (by omega),Dc (by omega) (by omega)]<;>omega)) (aI (show (Int.tmod ((((p+r)+q):Nat):Int) (1000000000:Int))=(((((p+r)+q)%1000000000):Nat):Int) from (by rw[Int.tmod_eq_emod_of_nonneg (by omega)]<;>omega)) (aI (Bt (a:=(((((p+r)+q)%1000000000):Nat):Int)) (r:=(((((p+r)+q)%1000000000):Nat):Int))) (aI (ix (j0:Int) (((k+1):Nat):Int) i 1 (i+j0)) (aI (show (i+j0)+1≤(ns .u32 zs).length∧Bs (ns .u32 zs) (i+j0) [(nW (((p+r)+q)%1000000000))]=(ns .u32 (zs.set (i+j0) (((p+r)+q)%1000000000))) from (Dp)) (aI (Ao (a:=((j0:Int)+(1:Int))) (r:=(((j0+1):Nat):Int))) tt)))))))))))))))))
theorem rw_3(xs ys zs:List Nat)(n c k e i a q j0:Nat)(j:List Value)(hi:i<n)(hj:k≤j0)(hn:n<70368744177)(hkm:k<70368744177)(hz:zs.length=n+k)(hq:q<1000000000):GT (rw_g xs ys zs n c k e i a q j0 j) (rw_h xs ys (zs.set (i+k) q) n c k e (i+1) (z_6eb_1 i a k n q e j0 j)):=
 sR (sc:=[(2,.op (.rwB false)),(9,.op (.rwI (q:Int))),(0,.op (.idx (i+k))),(0,.op (.st (ns .u32 (zs.set (i+k) q)))),(3,.op (.rwI (((i+1):Nat):Int))),(3,.stay)]) (by kernel_rfl) (aI (dF (p:=(j0:Int)<(k:Int))) (aI (Bt (a:=(q:Int)) (r:=(q:Int))) (aI (ix (k:Int) (((k+1):Nat):Int) i 1 (i+k)) (aI (show (i+k)+1≤(ns .u32 zs).length∧Bs (ns .u32 zs) (i+k) [(nW q)]=(ns .u32 (zs.set (i+k) q)) from (Dp)) (aI (Ao (a:=((i:Int)+(1:Int))) (r:=(((i+1):Nat):Int))) tt)))))
theorem rw_o(xs ys zs:List Nat)(n c k e i:Nat)(j:List Value)(hi:n≤i)(hn:n<70368744177)(hkm:k<70368744177)(hz:zs.length=n+k)(hr:GT ⟨Frame.enter Tryz.prog 218 #[(sl 5 n c),(sl 6 k e)] .normal,[],Ag 7 [(5,(cU xs)),(6,(cU ys))]⟩ (rw_h xs ys zs n c k e i j)):CT 218 #[(sl 5 n c),(sl 6 k e)] (Ag 7 [(5,(cU xs)),(6,(cU ys))]) (sl 7 (top zs (n+k)) (top zs (n+k))) (Ag 8 [(5,(cU xs)),(6,(cU ys)),(7,(cU zs))]):=
 sF (sc:=[(2,.op (.rwB false)),(7,.call [7] (sl 7 (top zs (n+k)) (top zs (n+k))) [(7,some (cU zs))] []),(3,.stay)]) (by kernel_rfl) (aI (dF (p:=(i:Int)<(n:Int))) (aI (So 8 7 zs (n+k) (n+k) (by omega) (by omega) (by omega) (by omega)) tt)) hr
theorem rw_row{s0:AS}{xs ys:List Nat}{n c k e i a T:Nat}(hlx:Lim xs)(hly:Lim ys)(hk:k≤ys.length)(hn:n<70368744177)(hkm:k<70368744177)(hi:i<n)(ha:a<1000000000):
  ∀(m:Nat) (zs:List Nat) (q j0:Nat) (j:List Value),m=k-j0→j0≤k→zs.length=n+k→Lim zs→q<1000000000→(∀l,i+k≤l→zs.getD l 0=0)→
   val zs+q*1000000000^(i+j0)+a*(1000000000^(i+j0)*val ((ys.take k).drop j0))=T→GT s0 (rw_g xs ys zs n c k e i a q j0 j)→
   ∃zs' j',zs'.length=n+k∧Lim zs'∧(∀l,i+1+k≤l→zs'.getD l 0=0)∧val zs'=T∧GT s0 (rw_h xs ys zs' n c k e (i+1) j'):=by
 intro m
 induction m with
 |zero=>
  intro zs q j0 j hm hj hz hl hq h0 hv hr
  have hjk:j0=k:=by omega
  subst hjk
  have r:=rw_3 xs ys zs n c j0 e i a q j0 j hi (Nat.le_refl _) hn hkm hz hq
  refine⟨_,_,?_,hl.set hq,?_,?_,hr.trans r⟩
  ·rw[List.length_set];exact hz
  ·intro l hl'
   rw[getD_set (by omega),if_neg (by omega)]
   exact h0 l (by omega)
  ·have h1:=val_set zs (i+j0) q (by omega)
   rw[h0 _ (Nat.le_refl _),Nat.zero_mul,Nat.add_zero]at h1
   rw[h1]
   rw[List.drop_eq_nil_of_le (by rw[List.length_take];omega)]at hv
   exact nil_mul hv
 |succ m ih=>
  intro zs q j0 j hm hj hz hl hq h0 hv hr
  have hjk:j0<k:=by omega
  have hb:=Lim.get hly j0
  have hr0:=hl.get (i+j0)
  have hp2:=mul_fit ha hb
  have r:=rw_2 xs ys zs n c k e i a q j0 (ys.getD j0 0) (zs.getD (i+j0) 0) _ j hi hjk hn hkm hk hz ha hb hr0 hq rfl hp2 (Ar) (Ar)
  refine ih _ _ _ _ (by omega) (by omega) (by rw[List.length_set];exact hz) (hl.set (Nat.mod_lt _ (by decide))) (row_carry hp2 hr0 hq) ?_ ?_ (hr.trans r)
  ·intro l hl'
   rw[getD_set (by omega),if_neg (by omega)]
   exact h0 l hl'
  ·have h2:val ((ys.take k).drop j0)=ys.getD j0 0+1000000000*val ((ys.take k).drop (j0+1)):=by
    rw[val_drop (by rw[List.length_take];omega),getD_take hjk]
   rw[h2]at hv
   have h1:=val_set zs (i+j0) ((a*ys.getD j0 0+zs.getD (i+j0) 0+q)%1000000000) (by omega)
   rw[show i+(j0+1)=i+j0+1 from rfl,Nat.pow_succ]
   exact row_step h1 hv
theorem rw_all{s0:AS}{xs ys:List Nat}{n c k e:Nat}(hlx:Lim xs)(hly:Lim ys)(hc:n≤xs.length)(hk:k≤ys.length)(hn:n<70368744177)(hkm:k<70368744177):
  ∀(m i:Nat) (zs:List Nat) (j:List Value),m=n-i→i≤n→zs.length=n+k→Lim zs→(∀l,i+k≤l→zs.getD l 0=0)→val zs=val (xs.take i)*val (ys.take k)→GT s0 (rw_h xs ys zs n c k e i j)→
   ∃zs' j',zs'.length=n+k∧Lim zs'∧val zs'=val (xs.take n)*val (ys.take k)∧GT s0 (rw_h xs ys zs' n c k e n j'):=by
 intro m
 induction m with
 |zero=>
  intro i zs j hm hi hz hl h0 hv hr
  have:i=n:=by omega
  subst this
  exact⟨zs,j,hz,hl,hv,hr⟩
 |succ m ih=>
  intro i zs j hm hi hz hl h0 hv hr
  have r:=rw_1 xs ys zs n c k e i (xs.getD i 0) j (by omega) hn hkm hc (Ar)
  obtain⟨zs',j',h1,h2,h3,h4,h5⟩:=rw_row hlx hly hk hn hkm (by omega) (hlx.get i) _ zs 0 0 _ rfl (Nat.zero_le _) hz hl (by decide) h0 rfl (hr.trans r)
  refine ih (i+1) zs' j' (by omega) (by omega) h1 h2 h3 ?_ h5
  rw[h4,hv,val_take_succ,List.drop_zero,Nat.add_zero]
  exact row_sum
theorem rw_c(n0 bx byy:Nat)(xs ys:List Nat)(n c k e:Nat)(hb:5≤bx∧bx<n0∧5≤byy∧byy<n0∧bx≠byy)(hlx:Lim xs)(hly:Lim ys)(hc:n≤xs.length)(hk:k≤ys.length)(hn:n<70368744177)(hkm:k<70368744177):
  ∃zs t,Lim zs∧t≤zs.length∧t≤n+k∧(0<t→zs.getD (t-1) 0≠0)∧val (zs.take t)=val (xs.take n)*val (ys.take k)∧
   FT 218 #[sl bx n c,sl byy k e] n0 [(bx,cU xs),(byy,cU ys)] (sl n0 t t) [(bx,some (cU xs)),(byy,some (cU ys))] [cU zs]:=by
 have r:=rw_in xs ys n c k e hn hkm
 obtain⟨zs,j',h1,h2,h3,h4⟩:=rw_all hlx hly hc hk hn hkm n 0 (List.replicate (n+k) 0) _ rfl (Nat.zero_le _) (by rw[List.length_replicate]) (Lim.replicate _) (fun l _=>Mf _ _) (by rw[val_replicate];simp[val]) r
 have S:=rw_o xs ys zs n c k e n j' (Nat.le_refl _) hn hkm h1 h4
 have htl:=top_le zs (n+k)
 refine⟨zs,top zs (n+k),h2,by rw[h1];exact htl,htl,top_pos zs _,?_,Dd [bx,byy] [cU xs,cU ys] [cU xs,cU ys] [7] [cU zs] n0 S rfl rfl rfl ?_ ?_ (by omega) ?_ ?_ ?_ (by simp) (by simp) rfl rfl rfl⟩
 ·rw[top_val,List.take_of_length_le (by rw[h1];exact Nat.le_refl _),h3]
 ·simp[hb.2.2.2.2]
 ·simp;omega
 ·simp[Bb,Ab]
 ·simp[Bb,Ab]
 ·simp[Bb,Ab,AObj.ro]
theorem tm_o(xs ys:List Nat)(n c k e:Nat)(hmin:n<24∨k<24)(zs:List Nat)(t:Nat)(hc1:FT 218 #[(sl 5 n c),(sl 6 k e)] 7 [(5,(cU xs)),(6,(cU ys))] (sl 7 t t) [(5,some (cU xs)),(6,some (cU ys))] [(cU zs)]):CT 202 #[(sl 5 n c),(sl 6 k e)] (Ag 7 [(5,(cU xs)),(6,(cU ys))]) (sl 7 t t) (Ag 8 [(5,(cU xs)),(6,(cU ys)),(7,(cU zs))]):=
 sF (sc:=[(11,.op (.rwI (((min n k):Nat):Int))),(0,.op (.rwB true)),(6,.call [5,6] (sl 7 t t) [(5,some (cU xs)),(6,some (cU ys))] [(cU zs)]),(3,.stay)]) (by kernel_rfl) (aI (show (if (k:Int)<(n:Int) then (k:Int) else (n:Int))=(((min n k):Nat):Int) from (by omega)) (aI (dT (p:=(((min n k):Nat):Int)<(24:Int))) (aI hc1 tt))) (Gets.refl _)
theorem tm_c(n0 bx byy:Nat)(xs ys:List Nat)(n c k e:Nat)(hmin:n<24∨k<24)(hb:5≤bx∧bx<n0∧5≤byy∧byy<n0∧bx≠byy)(hlx:Lim xs)(hly:Lim ys)(hc:n≤xs.length)(hk:k≤ys.length)(hn:n<70368744177)(hkm:k<70368744177):
  ∃zs t,Lim zs∧t≤zs.length∧t≤n+k∧(0<t→zs.getD (t-1) 0≠0)∧val (zs.take t)=val (xs.take n)*val (ys.take k)∧
   FT 202 #[sl bx n c,sl byy k e] n0 [(bx,cU xs),(byy,cU ys)] (sl n0 t t) [(bx,some (cU xs)),(byy,some (cU ys))] [cU zs]:=by
 obtain⟨zs,t,h1,h2,h3,h4,h5,h6⟩:=rw_c 7 5 6 xs ys n c k e (by omega) hlx hly hc hk hn hkm
 exact⟨zs,t,h1,h2,h3,h4,h5,Dd [bx,byy] [cU xs,cU ys] [cU xs,cU ys] [7] [cU zs] n0 (tm_o xs ys n c k e hmin zs t h6) rfl rfl rfl (by simp[hb.2.2.2.2]) (by simp;omega) (by omega) (by simp[Bb,Ab]) (by simp[Bb,Ab]) (by simp[Bb,Ab,AObj.ro]) (by simp) (by simp) rfl rfl rfl⟩
theorem mu_o(xs ys:List Nat)(n c k e:Nat)(zs:List Nat)(t:Nat)(hc1:FT 202 #[(sl 6 n c),(sl 7 k e)] 9 [(6,(cU xs)),(7,(cU ys))] (sl 9 t t) [(6,some (cU xs)),(7,some (cU ys))] [(cU zs)]):CT 179 #[(sl 5 2 2)] (Ag 8 [(5,(.cells [(sl 6 n c),(sl 7 k e)] 75 none false)),(6,(cU xs)),(7,(cU ys))]) (sl 9 t t) (Ag 10 [(5,(.cells [(sl 6 n c),(sl 7 k e)] 75 none false)),(6,(cU xs)),(7,(cU ys)),(9,(cU zs))]):=
 sF (sc:=[(81,.call [6,7] (sl 9 t t) [(6,some (cU xs)),(7,some (cU ys))] [(cU zs)]),(21,.stay)]) (by kernel_rfl) (aI hc1 tt) (Gets.refl _)
theorem mu_c(n0 bf bx byy:Nat)(xs ys:List Nat)(n c k e:Nat)(hmin:n<24∨k<24)(hb:5≤bf∧bf<n0∧5≤bx∧bx<n0∧5≤byy∧byy<n0∧bx≠byy∧bf≠bx∧bf≠byy)(hlx:Lim xs)(hly:Lim ys)(hc:n≤xs.length)(hk:k≤ys.length)(hn:n<70368744177)(hkm:k<70368744177):
  ∃zs t,Lim zs∧t≤zs.length∧t≤n+k∧(0<t→zs.getD (t-1) 0≠0)∧val (zs.take t)=val (xs.take n)*val (ys.take k)∧
   FT 179 #[sl bf 2 2] n0 [(bf,.cells [sl bx n c,sl byy k e] 75 none false),(bx,cU xs),(byy,cU ys)] (sl n0 t t) [(bf,some (.cells [sl bx n c,sl byy k e] 75 none false)),(bx,some (cU xs)),(byy,some (cU ys))] [cU zs]:=by
 obtain⟨zs,t,h1,h2,h3,h4,h5,h6⟩:=tm_c 9 6 7 xs ys n c k e hmin (by omega) hlx hly hc hk hn hkm
 have e1:byy≠bx:=fun h=>hb.2.2.2.2.2.2.1 h.symm
 have e2:bx≠bf:=fun h=>hb.2.2.2.2.2.2.2.1 h.symm
 have e3:byy≠bf:=fun h=>hb.2.2.2.2.2.2.2.2 h.symm
 exact⟨zs,t,h1,h2,h3,h4,h5,Gm (os':=[.cells [sl bx n c,sl byy k e] 75 none false,cU xs,cU ys]) (ps':=[.cells [sl bx n c,sl byy k e] 75 none false,cU xs,cU ys]) (qs':=[cU zs]) [bf,bx,byy] [.cells [sl 6 n c,sl 7 k e] 75 none false,cU xs,cU ys] [.cells [sl 6 n c,sl 7 k e] 75 none false,cU xs,cU ys] [9] [cU zs] n0 (mu_o xs ys n c k e zs t h6) rfl (by kernel_rfl) (by kernel_rfl)
  (by simp[hb.2.2.2.2.2.2]) (by simp;omega) (by omega) rfl (by simp[Ez,De,Dz,Uc,Ah _ _ (Ab .u32 xs),Ah _ _ (Ab .u32 ys),Ah _ _ (Ab .u32 zs)]) (by simp[Ez,De,Dz,Uc,AObj.ro,Ah _ _ (Ab .u32 xs),Ah _ _ (Ab .u32 ys),Ah _ _ (Ab .u32 zs)])
  (by simp only[List.map_cons,List.map_nil,Dx,Ac _ _ (Ab .u32 xs),Ac _ _ (Ab .u32 ys),Ac _ _ (Ab .u32 zs)];rfl) (by simp only[List.map_cons,List.map_nil,Dx,Ac _ _ (Ab .u32 xs),Ac _ _ (Ab .u32 ys),Ac _ _ (Ab .u32 zs)];rfl) (by simp only[List.map_cons,List.map_nil,Dx,Ac _ _ (Ab .u32 xs),Ac _ _ (Ab .u32 ys),Ac _ _ (Ab .u32 zs)]) (by simp) (by simp) rfl rfl rfl⟩
noncomputable section
abbrev Wp(i k n:Nat):Value:=.slice (some ⟨6,i,none⟩) (k+1) (n+k-i)
abbrev z_657_0(j0 b p r q a i k n:Nat)(j:List Value):List Value:=[(nI j0),(nW b),(nU ((p+r)+q)),(J j 3),(J j 4),(J j 5),(J j 6),(J j 7),(J j 8),(J j 9),(J j 10),(J j 11),(J j 12),(J j 13),(J j 14),(J j 15),(J j 16),(J j 17),(J j 18),(J j 19),bT,(nI j0),(.pointer (some ⟨5,j0,none⟩)),(nW b),(nW a),(nU a),(nW b),(nU b),(nU p),(Wp i k n),(nI j0),(.pointer (some ⟨6,(i+j0),none⟩)),(nW r),(nU r),(nU (p+r)),(nU q),(nU ((p+r)+q)),(nU ((p+r)+q)),(nU (((p+r)+q)/1000000000)),(Wp i k n),(nI j0),(nU ((p+r)+q)),(nU (((p+r)+q)%1000000000)),(nW (((p+r)+q)%1000000000)),(.pointer (some ⟨6,(i+j0),none⟩)),(nI (j0+1)),(J j 46),(J j 47),(J j 48),(J j 49),(J j 50),(J j 51),(J j 52)]
abbrev z_657_1(i a k n q e j0:Nat)(j:List Value):List Value:=[(nI i),(nW a),(Wp i k n),(nU q),(J j 0),(J j 1),(J j 2),(J j 3),(J j 4),(J j 5),(J j 6),(J j 7),(J j 8),bT,(J j 9),(J j 10),(J j 11),(J j 12),(J j 13),(J j 14),(J j 15),(J j 16),(J j 17),(J j 18),(J j 19),(sl 5 k e),(nI k),(nI j0),bF,(J j 21),(J j 22),(J j 23),(J j 24),(J j 25),(J j 26),(J j 27),(J j 28),(J j 29),(J j 30),(J j 31),(J j 32),(J j 33),(J j 34),(J j 35),(J j 36),(J j 37),(J j 38),(J j 39),(J j 40),(J j 41),(J j 42),(J j 43),(J j 44),(J j 45),(Wp i k n),(sl 5 k e),(nI k),(nU q),(nW q),(.pointer (some ⟨6,(i+k),none⟩)),(nI (i+1))]
end
noncomputable def ra_h_f(xs zs:List Nat)(n c k e i:Nat)(j:List Value):Frame:=⟨218,List.toArray [(sl 5 n c),(sl 5 k e),uu,uu,(.slice none 0 0),(sl 6 (n+k) (n+k)),(J j 0),(J j 1),(J j 2),(J j 3),(J j 4),(J j 5),(J j 6),(J j 7),(J j 8),(J j 9),(J j 10),(J j 11),(J j 12),(sl 5 n c),(nI n),(nI i),(J j 13),(J j 14),(J j 15),(J j 16),(J j 17),(J j 18),(J j 19),(J j 20),(J j 21),(J j 22),(J j 23),(J j 24),(J j 25),(J j 26),(J j 27),(J j 28),(J j 29),(J j 30),(J j 31),(J j 32),(J j 33),(J j 34),(J j 35),(J j 36),(J j 37),(J j 38),(J j 39),(J j 40),(J j 41),(J j 42),(J j 43),(J j 44),(J j 45),(J j 46),(J j 47),(J j 48),(J j 49),(J j 50),(J j 51),(J j 52),(J j 53),(J j 54),(J j 55),(J j 56),(J j 57),(J j 58),(J j 59),(J j 60),uu,uu],[.code (cd Tryz.f218 [1,1,0,1,0,0]),.inLoop (cd Tryz.f218 [1,1,0,1,0,0]),.inBlock 0,.code (cd Tryz.f218 [1,1,1])],[],.run,.normal,none⟩
noncomputable def ra_h_o(xs zs:List Nat)(n c k e i:Nat):List (Nat×AObj):=[(5,(cU xs)),(6,(cU zs))]
noncomputable def ra_h(xs zs:List Nat)(n c k e i:Nat)(j:List Value):AS:=⟨ra_h_f xs zs n c k e i j,[],Ag 7 (ra_h_o xs zs n c k e i)⟩
theorem ra_in(xs:List Nat)(n c k e:Nat)(hn:n<70368744177)(hkm:k<70368744177):GT ⟨Frame.enter Tryz.prog 218 #[(sl 5 n c),(sl 5 k e)] .normal,[],Ag 6 [(5,(cU xs))]⟩ (ra_h xs (List.replicate (n+k) 0) n c k e 0 [undef,undef,undef,undef,undef,undef,undef,(sl 5 n c),(nI n),(sl 5 k e),(nI k),(nI (n+k)),(sl 6 (n+k) (n+k)),undef,undef,undef,undef,undef,undef,undef,undef,undef,undef,undef,undef,undef,undef,undef,undef,undef,undef,undef,undef,undef,undef,undef,undef,undef,undef,undef,undef,undef,undef,undef,undef,undef,undef,undef,undef,undef,undef,undef,undef,undef,undef,undef,undef,undef,undef,undef,undef]):=
 sR (sc:=[(10,.op (.rwI (((n+k):Nat):Int))),(0,.op (.mks (n+k) (n+k) (ns .u32 (List.replicate (n+k) 0)))),(11,.stay)]) (by kernel_rfl) (aI (Ao (a:=((n:Int)+(k:Int))) (r:=(((n+k):Nat):Int))) (aI (show (0≤(((n+k):Nat):Int)∧(((n+k):Nat):Int)≤(((n+k):Nat):Int)∧((4:Nat):Int)*(((n+k):Nat):Int)≤281474976710656∧(((n+k):Nat):Int)≤9223372036854775807)∧Au (ns .u32 (List.replicate (n+k) 0))=true∧(madeCells (Value.cells (lW 0)) (Int.toNat (((n+k):Nat):Int)*1)).toList=(ns .u32 (List.replicate (n+k) 0))∧Int.toNat (((n+k):Nat):Int)=(n+k)∧Int.toNat (((n+k):Nat):Int)=(n+k) from (by refine⟨⟨?_,?_,?_,?_⟩,Ab _ _,Qd _ _ _,?_,?_⟩<;>omega)) tt))
noncomputable def ra_g_f(xs zs:List Nat)(n c k e i a q j0:Nat)(j:List Value):Frame:=⟨218,List.toArray [(sl 5 n c),(sl 5 k e),uu,uu,(.slice none 0 0),(sl 6 (n+k) (n+k)),(nI i),(nW a),(Wp i k n),(nU q),(J j 0),(J j 1),(J j 2),(J j 3),(J j 4),(J j 5),(J j 6),(J j 7),(J j 8),(sl 5 n c),(nI n),(nI i),bT,(J j 9),(J j 10),(J j 11),(J j 12),(J j 13),(J j 14),(J j 15),(J j 16),(J j 17),(J j 18),(J j 19),(sl 5 k e),(nI k),(nI j0),(J j 20),(J j 21),(J j 22),(J j 23),(J j 24),(J j 25),(J j 26),(J j 27),(J j 28),(J j 29),(J j 30),(J j 31),(J j 32),(J j 33),(J j 34),(J j 35),(J j 36),(J j 37),(J j 38),(J j 39),(J j 40),(J j 41),(J j 42),(J j 43),(J j 44),(J j 45),(J j 46),(J j 47),(J j 48),(J j 49),(J j 50),(J j 51),(J j 52),uu,uu],[.code (cd Tryz.f218 [1,1,0,1,0,0,1,1,0,0,1,1,1,0,1,0,0]),.inLoop (cd Tryz.f218 [1,1,0,1,0,0,1,1,0,0,1,1,1,0,1,0,0]),.inBlock 2,.code (cd Tryz.f218 [1,1,0,1,0,0,1,1,0,0,1,1,1,1]),.inBlock 1,.code (cd Tryz.f218 [1,1,0,1,0,0,1,1,1]),.inLoop (cd Tryz.f218 [1,1,0,1,0,0]),.inBlock 0,.code (cd Tryz.f218 [1,1,1])],[],.run,.normal,none⟩
noncomputable def ra_g_o(xs zs:List Nat)(n c k e i a q j0:Nat):List (Nat×AObj):=[(5,(cU xs)),(6,(cU zs))]
noncomputable def ra_g(xs zs:List Nat)(n c k e i a q j0:Nat)(j:List Value):AS:=⟨ra_g_f xs zs n c k e i a q j0 j,[],Ag 7 (ra_g_o xs zs n c k e i a q j0)⟩
theorem ra_1(xs zs:List Nat)(n c k e i a:Nat)(j:List Value)(hi:i<n)(hn:n<70368744177)(hkm:k<70368744177)(hc:n≤xs.length)(hx:(ns .u32 xs)[i]? =some (nW a)):GT (ra_h xs zs n c k e i j) (ra_g xs zs n c k e i a 0 0 [(J j 4),(J j 5),(J j 6),(J j 7),(J j 8),(J j 9),(J j 10),(J j 11),(J j 12),(nI i),(.pointer (some ⟨5,i,none⟩)),(nW a),(sl 6 (n+k) (n+k)),(nI i),(nI i),(sl 5 k e),(nI k),(nI (i+k)),(nI ((i+k)+1)),(Wp i k n),(J j 28),(J j 29),(J j 30),(J j 31),(J j 32),(J j 33),(J j 34),(J j 35),(J j 36),(J j 37),(J j 38),(J j 39),(J j 40),(J j 41),(J j 42),(J j 43),(J j 44),(J j 45),(J j 46),(J j 47),(J j 48),(J j 49),(J j 50),(J j 51),(J j 52),(J j 53),(J j 54),(J j 55),(J j 56),(J j 57),(J j 58),(J j 59),(J j 60)]):=
 sR (sc:=[(2,.op (.rwB true)),(9,.op (.idx i)),(0,.op (.ld (nW a))),(10,.op (.rwI (((i+k):Nat):Int))),(0,.op (.rwI ((((i+k)+1):Nat):Int))),(0,.op (.slc i (k+1) (n+k-i))),(15,.stay)]) (by kernel_rfl) (aI (dT (p:=(i:Int)<(n:Int))) (aI (ix (i:Int) (n:Int) 0 1 i) (aI hx (aI (Ao (a:=((i:Int)+(k:Int))) (r:=(((i+k):Nat):Int))) (aI (Ao (a:=((((i+k):Nat):Int)+(1:Int))) (r:=((((i+k)+1):Nat):Int))) (aI (show 0≤(i:Int)∧(i:Int)≤((((i+k)+1):Nat):Int)∧((((i+k)+1):Nat):Int)≤(((n+k):Nat):Int)∧(if (n+k)=Int.toNat (i:Int) then 0 else 0+Int.toNat (i:Int)*1)=i∧Int.toNat (((((i+k)+1):Nat):Int)-(i:Int))=(k+1)∧(n+k)-Int.toNat (i:Int)=(n+k-i) from (by refine⟨by omega,by omega,by omega,?_,by omega,by omega⟩;split<;>omega)) tt))))))
theorem ra_2(xs zs:List Nat)(n c k e i a q j0 b r p:Nat)(j:List Value)(hi:i<n)(hj:j0<k)(hn:n<70368744177)(hkm:k<70368744177)(hk:k≤xs.length)(hz:zs.length=n+k)(ha:a<1000000000)(hb:b<1000000000)(hr0:r<1000000000)(hq:q<1000000000)(hp:p=a*b)(hp2:p≤999999998000000001)(hy:(ns .u32 xs)[j0]? =some (nW b))(hzr:(ns .u32 zs)[i+j0]? =some (nW r)):GT (ra_g xs zs n c k e i a q j0 j) (ra_g xs (zs.set (i+j0) (((p+r)+q)%1000000000)) n c k e i a (((p+r)+q)/1000000000) (j0+1) (z_657_0 j0 b p r q a i k n j)):=
 sR (sc:=[(2,.op (.rwB true)),(9,.op (.idx j0)),(0,.op (.ld (nW b))),(6,.op (.rwI (a:Int))),(1,.op (.rwI (b:Int))),(0,.op (.rwI (p:Int))),(2,.op (.idx (i+j0))),(0,.op (.ld (nW r))),(0,.op (.rwI (r:Int))),(0,.op (.rwI (((p+r):Nat):Int))),(1,.op (.rwI ((((p+r)+q):Nat):Int))),(5,.op (.rwI (((((p+r)+q)/1000000000):Nat):Int))),(6,.op (.rwI (((((p+r)+q)%1000000000):Nat):Int))),(0,.op (.rwI (((((p+r)+q)%1000000000):Nat):Int))),(0,.op (.idx (i+j0))),(0,.op (.st (ns .u32 (zs.set (i+j0) (((p+r)+q)%1000000000))))),(3,.op (.rwI (((j0+1):Nat):Int))),(3,.stay)]) (by kernel_rfl) (aI (dT (p:=(j0:Int)<(k:Int))) (aI (ix (j0:Int) (k:Int) 0 1 j0) (aI hy (aI (Gc (a:=(a:Int)) (r:=(a:Int))) (aI (Gc (a:=(b:Int)) (r:=(b:Int))) (aI (show IntKind.wrap .u64 ((a:Int)*(b:Int))=(p:Int) from (by subst hp;rw[Dc (by omega) (by omega)]<;>omega)) (aI (ix (j0:Int) (((k+1):Nat):Int) i 1 (i+j0)) (aI hzr (aI (Gc (a:=(r:Int)) (r:=(r:Int))) (aI (Gc (a:=((p:Int)+(r:Int))) (r:=(((p+r):Nat):Int))) (aI (Gc (a:=((((p+r):Nat):Int)+(q:Int))) (r:=((((p+r)+q):Nat):Int))) (aI (show IntKind.wrap .u64 (Int.tdiv ((((p+r)+q):Nat):Int) (1000000000:Int))=(((((p+r)+q)/1000000000):Nat):Int) from (by rw[Int.tdiv_eq_ediv_of_nonneg (by omega),Dc (by omega) (by omega)]<;>omega)) (aI (show (Int.tmod ((((p+r)+q):Nat):Int) (1000000000:Int))=(((((p+r)+q)%1000000000):Nat):Int) from (by rw[Int.tmod_eq_emod_of_nonneg (by omega)]<;>omega)) (aI (Bt (a:=(((((p+r)+q)%1000000000):Nat):Int)) (r:=(((((p+r)+q)%1000000000):Nat):Int))) (aI (ix (j0:Int) (((k+1):Nat):Int) i 1 (i+j0)) (aI (show (i+j0)+1≤(ns .u32 zs).length∧Bs (ns .u32 zs) (i+j0) [(nW (((p+r)+q)%1000000000))]=(ns .u32 (zs.set (i+j0) (((p+r)+q)%1000000000))) from (Dp)) (aI (Ao (a:=((j0:Int)+(1:Int))) (r:=(((j0+1):Nat):Int))) tt)))))))))))))))))
theorem ra_3(xs zs:List Nat)(n c k e i a q j0:Nat)(j:List Value)(hi:i<n)(hj:k≤j0)(hn:n<70368744177)(hkm:k<70368744177)(hz:zs.length=n+k)(hq:q<1000000000):GT (ra_g xs zs n c k e i a q j0 j) (ra_h xs (zs.set (i+k) q) n c k e (i+1) (z_657_1 i a k n q e j0 j)):=
 sR (sc:=[(2,.op (.rwB false)),(9,.op (.rwI (q:Int))),(0,.op (.idx (i+k))),(0,.op (.st (ns .u32 (zs.set (i+k) q)))),(3,.op (.rwI (((i+1):Nat):Int))),(3,.stay)]) (by kernel_rfl) (aI (dF (p:=(j0:Int)<(k:Int))) (aI (Bt (a:=(q:Int)) (r:=(q:Int))) (aI (ix (k:Int) (((k+1):Nat):Int) i 1 (i+k)) (aI (show (i+k)+1≤(ns .u32 zs).length∧Bs (ns .u32 zs) (i+k) [(nW q)]=(ns .u32 (zs.set (i+k) q)) from (Dp)) (aI (Ao (a:=((i:Int)+(1:Int))) (r:=(((i+1):Nat):Int))) tt)))))
theorem ra_o(xs zs:List Nat)(n c k e i:Nat)(j:List Value)(hi:n≤i)(hn:n<70368744177)(hkm:k<70368744177)(hz:zs.length=n+k)(hr:GT ⟨Frame.enter Tryz.prog 218 #[(sl 5 n c),(sl 5 k e)] .normal,[],Ag 6 [(5,(cU xs))]⟩ (ra_h xs zs n c k e i j)):CT 218 #[(sl 5 n c),(sl 5 k e)] (Ag 6 [(5,(cU xs))]) (sl 6 (top zs (n+k)) (top zs (n+k))) (Ag 7 [(5,(cU xs)),(6,(cU zs))]):=
 sF (sc:=[(2,.op (.rwB false)),(7,.call [6] (sl 6 (top zs (n+k)) (top zs (n+k))) [(6,some (cU zs))] []),(3,.stay)]) (by kernel_rfl) (aI (dF (p:=(i:Int)<(n:Int))) (aI (So 7 6 zs (n+k) (n+k) (by omega) (by omega) (by omega) (by omega)) tt)) hr
theorem ra_row{s0:AS}{xs:List Nat}{n c k e i a T:Nat}(hlx:Lim xs)(hk:k≤xs.length)(hn:n<70368744177)(hkm:k<70368744177)(hi:i<n)(ha:a<1000000000):
  ∀(m:Nat) (zs:List Nat) (q j0:Nat) (j:List Value),m=k-j0→j0≤k→zs.length=n+k→Lim zs→q<1000000000→(∀l,i+k≤l→zs.getD l 0=0)→
   val zs+q*1000000000^(i+j0)+a*(1000000000^(i+j0)*val ((xs.take k).drop j0))=T→GT s0 (ra_g xs zs n c k e i a q j0 j)→
   ∃zs' j',zs'.length=n+k∧Lim zs'∧(∀l,i+1+k≤l→zs'.getD l 0=0)∧val zs'=T∧GT s0 (ra_h xs zs' n c k e (i+1) j'):=by
 intro m
 induction m with
 |zero=>
  intro zs q j0 j hm hj hz hl hq h0 hv hr
  have hjk:j0=k:=by omega
  subst hjk
  have r:=ra_3 xs zs n c j0 e i a q j0 j hi (Nat.le_refl _) hn hkm hz hq
  refine⟨_,_,?_,hl.set hq,?_,?_,hr.trans r⟩
  ·rw[List.length_set];exact hz
  ·intro l hl'
   rw[getD_set (by omega),if_neg (by omega)]
   exact h0 l (by omega)
  ·have h1:=val_set zs (i+j0) q (by omega)
   rw[h0 _ (Nat.le_refl _),Nat.zero_mul,Nat.add_zero]at h1
   rw[h1]
   rw[List.drop_eq_nil_of_le (by rw[List.length_take];omega)]at hv
   exact nil_mul hv
 |succ m ih=>
  intro zs q j0 j hm hj hz hl hq h0 hv hr
  have hjk:j0<k:=by omega
  have hb:=Lim.get hlx j0
  have hr0:=hl.get (i+j0)
  have hp2:=mul_fit ha hb
  have r:=ra_2 xs zs n c k e i a q j0 (xs.getD j0 0) (zs.getD (i+j0) 0) _ j hi hjk hn hkm hk hz ha hb hr0 hq rfl hp2 (Ar) (Ar)
  refine ih _ _ _ _ (by omega) (by omega) (by rw[List.length_set];exact hz) (hl.set (Nat.mod_lt _ (by decide))) (row_carry hp2 hr0 hq) ?_ ?_ (hr.trans r)
  ·intro l hl'
   rw[getD_set (by omega),if_neg (by omega)]
   exact h0 l hl'
  ·have h2:val ((xs.take k).drop j0)=xs.getD j0 0+1000000000*val ((xs.take k).drop (j0+1)):=by
    rw[val_drop (by rw[List.length_take];omega),getD_take hjk]
   rw[h2]at hv
   have h1:=val_set zs (i+j0) ((a*xs.getD j0 0+zs.getD (i+j0) 0+q)%1000000000) (by omega)
   rw[show i+(j0+1)=i+j0+1 from rfl,Nat.pow_succ]
   exact row_step h1 hv
theorem ra_all{s0:AS}{xs:List Nat}{n c k e:Nat}(hlx:Lim xs)(hc:n≤xs.length)(hk:k≤xs.length)(hn:n<70368744177)(hkm:k<70368744177):
  ∀(m i:Nat) (zs:List Nat) (j:List Value),m=n-i→i≤n→zs.length=n+k→Lim zs→(∀l,i+k≤l→zs.getD l 0=0)→val zs=val (xs.take i)*val (xs.take k)→GT s0 (ra_h xs zs n c k e i j)→
   ∃zs' j',zs'.length=n+k∧Lim zs'∧val zs'=val (xs.take n)*val (xs.take k)∧GT s0 (ra_h xs zs' n c k e n j'):=by
 intro m
 induction m with
 |zero=>
  intro i zs j hm hi hz hl h0 hv hr
  have:i=n:=by omega
  subst this
  exact⟨zs,j,hz,hl,hv,hr⟩
 |succ m ih=>
  intro i zs j hm hi hz hl h0 hv hr
  have r:=ra_1 xs zs n c k e i (xs.getD i 0) j (by omega) hn hkm hc (Ar)
  obtain⟨zs',j',h1,h2,h3,h4,h5⟩:=ra_row hlx hk hn hkm (by omega) (hlx.get i) _ zs 0 0 _ rfl (Nat.zero_le _) hz hl (by decide) h0 rfl (hr.trans r)
  refine ih (i+1) zs' j' (by omega) (by omega) h1 h2 h3 ?_ h5
  rw[h4,hv,val_take_succ,List.drop_zero,Nat.add_zero]
  exact row_sum
theorem ra_c(n0 bx:Nat)(xs:List Nat)(n c k e:Nat)(hb:5≤bx∧bx<n0)(hlx:Lim xs)(hc:n≤xs.length)(hk:k≤xs.length)(hn:n<70368744177)(hkm:k<70368744177):
  ∃zs t,Lim zs∧t≤zs.length∧t≤n+k∧(0<t→zs.getD (t-1) 0≠0)∧val (zs.take t)=val (xs.take n)*val (xs.take k)∧
   FT 218 #[sl bx n c,sl bx k e] n0 [(bx,cU xs)] (sl n0 t t) [(bx,some (cU xs))] [cU zs]:=by
 have r:=ra_in xs n c k e hn hkm
 obtain⟨zs,j',h1,h2,h3,h4⟩:=ra_all hlx hc hk hn hkm n 0 (List.replicate (n+k) 0) _ rfl (Nat.zero_le _) (by rw[List.length_replicate]) (Lim.replicate _) (fun l _=>Mf _ _) (by rw[val_replicate];simp[val]) r
 have S:=ra_o xs zs n c k e n j' (Nat.le_refl _) hn hkm h1 h4
 have htl:=top_le zs (n+k)
 refine⟨zs,top zs (n+k),h2,by rw[h1];exact htl,htl,top_pos zs _,?_,Dd [bx] [cU xs] [cU xs] [6] [cU zs] n0 S rfl rfl rfl ?_ ?_ (by omega) ?_ ?_ ?_ (by simp) (by simp) rfl rfl rfl⟩
 ·rw[top_val,List.take_of_length_le (by rw[h1];exact Nat.le_refl _),h3]
 ·simp
 ·simp;omega
 ·simp[Bb,Ab]
 ·simp[Bb,Ab]
 ·simp[Bb,Ab,AObj.ro]
theorem sq_o(xs:List Nat)(n c:Nat)(hmin:n<24)(zs:List Nat)(t:Nat)(hc1:FT 218 #[(sl 5 n c),(sl 5 n c)] 6 [(5,(cU xs))] (sl 6 t t) [(5,some (cU xs))] [(cU zs)]):CT 202 #[(sl 5 n c),(sl 5 n c)] (Ag 6 [(5,(cU xs))]) (sl 6 t t) (Ag 7 [(5,(cU xs)),(6,(cU zs))]):=
 sF (sc:=[(11,.op (.rwI (((min n n):Nat):Int))),(0,.op (.rwB true)),(6,.call [5] (sl 6 t t) [(5,some (cU xs))] [(cU zs)]),(3,.stay)]) (by kernel_rfl) (aI (show (if (n:Int)<(n:Int) then (n:Int) else (n:Int))=(((min n n):Nat):Int) from (by omega)) (aI (dT (p:=(((min n n):Nat):Int)<(24:Int))) (aI hc1 tt))) (Gets.refl _)
theorem sq_c(n0 bx:Nat)(xs:List Nat)(n c:Nat)(hmin:n<24)(hb:5≤bx∧bx<n0)(hlx:Lim xs)(hc:n≤xs.length):
  ∃zs t,Lim zs∧t≤zs.length∧t≤n+n∧(0<t→zs.getD (t-1) 0≠0)∧val (zs.take t)=val (xs.take n)*val (xs.take n)∧
   FT 202 #[sl bx n c,sl bx n c] n0 [(bx,cU xs)] (sl n0 t t) [(bx,some (cU xs))] [cU zs]:=by
 obtain⟨zs,t,h1,h2,h3,h4,h5,h6⟩:=ra_c 6 5 xs n c n c (by omega) hlx hc hc (by omega) (by omega)
 exact⟨zs,t,h1,h2,h3,h4,h5,Dd [bx] [cU xs] [cU xs] [6] [cU zs] n0 (sq_o xs n c hmin zs t h6) rfl rfl rfl (by simp) (by simp;omega) (by omega) (by simp[Bb,Ab]) (by simp[Bb,Ab]) (by simp[Bb,Ab,AObj.ro]) (by simp) (by simp) rfl rfl rfl⟩
theorem m2_o(xs:List Nat)(n c:Nat)(zs:List Nat)(t:Nat)(hc1:FT 202 #[(sl 6 n c),(sl 6 n c)] 8 [(6,(cU xs))] (sl 8 t t) [(6,some (cU xs))] [(cU zs)]):CT 179 #[(sl 5 2 2)] (Ag 7 [(5,(.cells [(sl 6 n c),(sl 6 n c)] 75 none false)),(6,(cU xs))]) (sl 8 t t) (Ag 9 [(5,(.cells [(sl 6 n c),(sl 6 n c)] 75 none false)),(6,(cU xs)),(8,(cU zs))]):=
 sF (sc:=[(81,.call [6] (sl 8 t t) [(6,some (cU xs))] [(cU zs)]),(21,.stay)]) (by kernel_rfl) (aI hc1 tt) (Gets.refl _)
theorem m2_c(n0 bf bx:Nat)(xs:List Nat)(n c:Nat)(hmin:n<24)(hb:5≤bf∧bf<n0∧5≤bx∧bx<n0∧bf≠bx)(hlx:Lim xs)(hc:n≤xs.length):
  ∃zs t,Lim zs∧t≤zs.length∧t≤n+n∧(0<t→zs.getD (t-1) 0≠0)∧val (zs.take t)=val (xs.take n)*val (xs.take n)∧
   FT 179 #[sl bf 2 2] n0 [(bf,.cells [sl bx n c,sl bx n c] 75 none false),(bx,cU xs)] (sl n0 t t) [(bf,some (.cells [sl bx n c,sl bx n c] 75 none false)),(bx,some (cU xs))] [cU zs]:=by
 obtain⟨zs,t,h1,h2,h3,h4,h5,h6⟩:=sq_c 8 6 xs n c hmin (by omega) hlx hc
 have e1:bx≠bf:=fun h=>hb.2.2.2.2 h.symm
 exact⟨zs,t,h1,h2,h3,h4,h5,Gm (os':=[.cells [sl bx n c,sl bx n c] 75 none false,cU xs]) (ps':=[.cells [sl bx n c,sl bx n c] 75 none false,cU xs]) (qs':=[cU zs]) [bf,bx] [.cells [sl 6 n c,sl 6 n c] 75 none false,cU xs] [.cells [sl 6 n c,sl 6 n c] 75 none false,cU xs] [8] [cU zs] n0 (m2_o xs n c zs t h6) rfl (by kernel_rfl) (by kernel_rfl)
  (by simp[hb.2.2.2.2]) (by simp;omega) (by omega) rfl (by simp[Ez,De,Dz,Uc,Ah _ _ (Ab .u32 xs),Ah _ _ (Ab .u32 zs)]) (by simp[Ez,De,Dz,Uc,AObj.ro,Ah _ _ (Ab .u32 xs),Ah _ _ (Ab .u32 zs)])
  (by simp only[List.map_cons,List.map_nil,Dx,Ac _ _ (Ab .u32 xs),Ac _ _ (Ab .u32 zs)];rfl) (by simp only[List.map_cons,List.map_nil,Dx,Ac _ _ (Ab .u32 xs),Ac _ _ (Ab .u32 zs)];rfl) (by simp only[List.map_cons,List.map_nil,Dx,Ac _ _ (Ab .u32 xs),Ac _ _ (Ab .u32 zs)]) (by simp) (by simp) rfl rfl rfl⟩
theorem m3_o(xs ys:List Nat)(n c k e:Nat)(zs:List Nat)(t:Nat)(hc1:FT 202 #[(sl 6 n c),(sl 6 n c)] 9 [(6,(cU xs))] (sl 9 t t) [(6,some (cU xs))] [(cU zs)])(ws:List Nat)(s:Nat)(hc3:FT 202 #[(sl 9 t t),(sl 7 k e)] 10 [(9,(cU zs)),(7,(cU ys))] (sl 10 s s) [(9,some (cU zs)),(7,some (cU ys))] [(cU ws)]):CT 179 #[(sl 5 3 3)] (Ag 8 [(5,(.cells [(sl 6 n c),(sl 6 n c),(sl 7 k e)] 75 none false)),(6,(cU xs)),(7,(cU ys))]) (sl 10 s s) (Ag 11 [(5,(.cells [(sl 6 n c),(sl 6 n c),(sl 7 k e)] 75 none false)),(6,(cU xs)),(7,(cU ys)),(10,(cU ws))]):=
 sF (sc:=[(81,.call [6] (sl 9 t t) [(6,some (cU xs))] [(cU zs)]),(36,.call [9,7] (sl 10 s s) [(9,some (cU zs)),(7,some (cU ys))] [(cU ws)]),(21,.stay)]) (by kernel_rfl) (aI hc1 (aI hc3 tt)) (Gets.refl _)
theorem m3_c(n0 bf bx byy:Nat)(xs ys:List Nat)(n c k e:Nat)(hmin:n<24)(hk2:k<24)(hb:5≤bf∧bf<n0∧5≤bx∧bx<n0∧5≤byy∧byy<n0∧bx≠byy∧bf≠bx∧bf≠byy)(hlx:Lim xs)(hc:n≤xs.length)(hly:Lim ys)(hk:k≤ys.length):
  ∃zs t,Lim zs∧t≤zs.length∧t≤n+n+k∧(0<t→zs.getD (t-1) 0≠0)∧val (zs.take t)=val (xs.take n)*val (xs.take n)*val (ys.take k)∧
   FT 179 #[sl bf 3 3] n0 [(bf,.cells [sl bx n c,sl bx n c,sl byy k e] 75 none false),(bx,cU xs),(byy,cU ys)] (sl n0 t t) [(bf,some (.cells [sl bx n c,sl bx n c,sl byy k e] 75 none false)),(bx,some (cU xs)),(byy,some (cU ys))] [cU zs]:=by
 obtain⟨zs,t,h1,h2,h3,h4,h5,h6⟩:=sq_c 9 6 xs n c hmin (by omega) hlx hc
 obtain⟨ws,s,g1,g2,g3,g4,g5,g6⟩:=tm_c 10 9 7 zs ys t t k e (.inr hk2) (by omega) h1 hly h2 hk (by omega) (by omega)
 have e1:byy≠bx:=fun h=>hb.2.2.2.2.2.2.1 h.symm
 have e2:bx≠bf:=fun h=>hb.2.2.2.2.2.2.2.1 h.symm
 have e3:byy≠bf:=fun h=>hb.2.2.2.2.2.2.2.2 h.symm
 exact⟨ws,s,g1,g2,by omega,g4,by rw[g5,h5],Gm (os':=[.cells [sl bx n c,sl bx n c,sl byy k e] 75 none false,cU xs,cU ys]) (ps':=[.cells [sl bx n c,sl bx n c,sl byy k e] 75 none false,cU xs,cU ys]) (qs':=[cU ws]) [bf,bx,byy] [.cells [sl 6 n c,sl 6 n c,sl 7 k e] 75 none false,cU xs,cU ys] [.cells [sl 6 n c,sl 6 n c,sl 7 k e] 75 none false,cU xs,cU ys] [10] [cU ws] n0 (m3_o xs ys n c k e zs t h6 ws s g6) rfl (by kernel_rfl) (by kernel_rfl)
  (by simp[hb.2.2.2.2.2.2]) (by simp;omega) (by omega) rfl (by simp[Ez,De,Dz,Uc,Ah _ _ (Ab .u32 xs),Ah _ _ (Ab .u32 ys),Ah _ _ (Ab .u32 ws)]) (by simp[Ez,De,Dz,Uc,AObj.ro,Ah _ _ (Ab .u32 xs),Ah _ _ (Ab .u32 ys),Ah _ _ (Ab .u32 ws)])
  (by simp only[List.map_cons,List.map_nil,Dx,Ac _ _ (Ab .u32 xs),Ac _ _ (Ab .u32 ys),Ac _ _ (Ab .u32 ws)];rfl) (by simp only[List.map_cons,List.map_nil,Dx,Ac _ _ (Ab .u32 xs),Ac _ _ (Ab .u32 ys),Ac _ _ (Ab .u32 ws)];rfl) (by simp only[List.map_cons,List.map_nil,Dx,Ac _ _ (Ab .u32 xs),Ac _ _ (Ab .u32 ys),Ac _ _ (Ab .u32 ws)]) (by simp) (by simp) rfl rfl rfl⟩
end Go.Proofs.YtldoiilgfcpipaaGreatDoor
