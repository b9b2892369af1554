import Derived.Test.YtjbflfbhfnkmlaaGreatDoorPWf
import Derived.Test.YtjbflfbhfnkmlaaGreatDoorPGiveBack
import Derived.Test.YtjbflfbhfnkmlaaGreatDoorPTrim
import Derived.Test.YtjbflfbhfnkmlaaGreatDoorLF
import Derived.Test.YtjbflfbhfnkmlaaGreatDoorK
set_option linter.unusedVariables false
set_option linter.unusedSimpArgs false
set_option maxRecDepth 100000
namespace Go.Proofs.YtjbflfbhfnkmlaaGreatDoor
open Go Go.AE Seg
noncomputable section
abbrev Ej(i k n:Nat):Value:=sw 7 i (k+3) (n+1-i)
end
noncomputable def ld_h_f(xs ys rs ds qs:List Nat)(n c k e d s:Nat)(i:Int)(j:List Value):Frame:=(Fr 158 ([(sl 5 n c),(sl 6 (k+2) e),uu,uu,(sl 9 (d+1) (d+1)),nS,(nU s),(sl 7 (n+1) (n+1)),(sl 8 (k+2) (k+2)),(.int .i64 i)]++(jj j 0 71 (uj 7 []))) [.code (cd Tryz.f158 [1,0,1,1,1,1,1,1,0,1,0,0]),.inLoop (cd Tryz.f158 [1,0,1,1,1,1,1,1,0,1,0,0]),.inBlock 0,.code (cd Tryz.f158 [1,0,1,1,1,1,1,1,1]),.inScope (cd Tryz.f158 [1,0])])
noncomputable def ld_h_o(xs ys rs ds qs:List Nat)(n c k e d s:Nat)(i:Int):List (Nat×AObj):=[(5,(cU xs)),(6,(cU ys)),(7,(cU rs)),(8,(cU ds)),(9,(cU qs))]
noncomputable def ld_h(xs ys rs ds qs:List Nat)(n c k e d s:Nat)(i:Int)(j:List Value):AS:=⟨ld_h_f xs ys rs ds qs n c k e d s i j,[],Ac 10 (ld_h_o xs ys rs ds qs n c k e d s i)⟩
theorem ld_in(xs ys:List Nat)(n c k e d s:Nat)(hn:n=d+(k+2))(hm:n+1<1099511627776)(hc:n≤xs.length)(hy:k+2≤ys.length)(ha:ys.getD (k+1) 0<1000000000)(hs:s=1000000000/(ys.getD (k+1) 0+1))(hs9:s≤1000000000)(r0:List Nat)(qr:Nat)(hc1:FT 169 #[(sl 7 (n+1) (n+1)),(nU s),(lU 0)] 9 [(7,(.cells (ns .u32 (xs.take n++List.replicate ((n+1)-n) 0)) 121 none false))] (nU qr) [(7,some (cU r0))] [])(d0:List Nat)(qd:Nat)(hc3:FT 169 #[(sl 8 (k+2) (k+2)),(nU s),(lU 0)] 9 [(8,(.cells (ns .u32 (ys.take (k+2)++List.replicate ((k+2)-(k+2)) 0)) 121 none false))] (nU qd) [(8,some (cU d0))] []):GT (Ca 158 #[(sl 5 n c),(sl 6 (k+2) e)] 7 [(5,(cU xs)),(6,(cU ys))]) (ld_h xs ys r0 d0 (List.replicate (d+1) 0) n c k e d s (((d+1:Nat):Int)-1) [undef,undef,(sl 6 (k+2) e),(sl 6 (k+2) e),(nI (k+2)),(nI (k+1)),(pp 6 (k+1)),(nW (ys.getD (k+1) 0)),(nU (ys.getD (k+1) 0)),(nU ((ys.getD (k+1) 0)+1)),(nU s),(sl 5 n c),(sl 5 n c),(nI n),(nI (n+1)),(sl 7 (n+1) (n+1)),(sl 6 (k+2) e),(sl 6 (k+2) e),(nI (k+2)),(sl 8 (k+2) (k+2)),(sl 7 (n+1) (n+1)),(nU s),(nU qr),(sl 8 (k+2) (k+2)),(nU s),(nU qd),(sl 5 n c),(nI n),(sl 6 (k+2) e),(nI (k+2)),(nI d),(nI (d+1)),(sl 9 (d+1) (d+1)),(sl 9 (d+1) (d+1)),(nI (d+1)),(.int .i64 (((d+1:Nat):Int)-1)),undef,undef,undef,undef,undef,undef,undef,undef,undef,undef,undef,undef,undef,undef,undef,undef,undef,undef,undef,undef,undef,undef,undef,undef,undef,undef,undef,undef,undef,undef,undef,undef,undef,undef,undef]):=
 sR (sc:=[(11,.op (.rwI (((k+1):Nat):Int))),(0,.op (.idx (k+1))),(0,.op (.ld (nW (ys.getD (k+1) 0)))),(0,.op (.rwI (((ys.getD (k+1) 0):Nat):Int))),(0,.op (.rwI ((((ys.getD (k+1) 0)+1):Nat):Int))),(0,.op (.div (s:Int))),(7,.op (.rwI (((n+1):Nat):Int))),(0,.call [5] (sl 7 (n+1) (n+1)) [(5,some (cU xs))] [(.cells (ns .u32 (xs.take n++List.replicate ((n+1)-n) 0)) 121 none false)]),(3,.call [6] (sl 8 (k+2) (k+2)) [(6,some (cU ys))] [(.cells (ns .u32 (ys.take (k+2)++List.replicate ((k+2)-(k+2)) 0)) 121 none false)]),(7,.call [7] (nU qr) [(7,some (cU r0))] []),(5,.call [8] (nU qd) [(8,some (cU d0))] []),(7,.op (.rwI (d:Int))),(0,.op (.rwI (((d+1):Nat):Int))),(0,.op (.mks (d+1) (d+1) (ns .u32 (List.replicate (d+1) 0)))),(9,.op (.rwI (((d+1:Nat):Int)-1))),(4,.stay)]) kr (aI (Am (a:=((((k+2):Nat):Int)-(1:Int))) (r:=(((k+1):Nat):Int))) (aI (ix (((k+1):Nat):Int) (((k+2):Nat):Int) 0 1 (k+1)) (aI (Aq (k:=.u32) (xs:=ys) (i:=(k+1))) (aI (He (a:=(((ys.getD (k+1) 0):Nat):Int)) (r:=(((ys.getD (k+1) 0):Nat):Int))) (aI (He (a:=((((ys.getD (k+1) 0):Nat):Int)+(1:Int))) (r:=((((ys.getD (k+1) 0)+1):Nat):Int))) (aI (show ((((ys.getD (k+1) 0)+1):Nat):Int)≠0∧IntKind.wrap .u64 (Int.tdiv (1000000000:Int) ((((ys.getD (k+1) 0)+1):Nat):Int))=(s:Int) from⟨by omega,by rw[Int.tdiv_eq_ediv_of_nonneg om,show (1000000000:Int)/((ys.getD (k+1) 0+1:Nat):Int)=((1000000000/(ys.getD (k+1) 0+1):Nat):Int) from rfl,←hs,Ee om om]⟩) (aI (Am (a:=((n:Int)+(1:Int))) (r:=(((n+1):Nat):Int))) (aI (Sp 7 5 xs n c (n+1) om om om om) (aI (Sp 8 6 ys (k+2) e (k+2) om om om om) (aI hc1 (aI hc3 (aI (Am (a:=((n:Int)-(((k+2):Nat):Int))) (r:=(d:Int))) (aI (Am (a:=((d:Int)+(1:Int))) (r:=(((d+1):Nat):Int))) (aI (show (0≤(((d+1):Nat):Int)∧(((d+1):Nat):Int)≤(((d+1):Nat):Int)∧((4:Nat):Int)*(((d+1):Nat):Int)≤281474976710656∧(((d+1):Nat):Int)≤9223372036854775807)∧As (ns .u32 (List.replicate (d+1) 0))=true∧(madeCells (Value.cells (lW 0)) (Int.toNat (((d+1):Nat):Int)*1)).toList=(ns .u32 (List.replicate (d+1) 0))∧Int.toNat (((d+1):Nat):Int)=(d+1)∧Int.toNat (((d+1):Nat):Int)=(d+1) from (by refine⟨⟨?_,?_,?_,?_⟩,Af _ _,Tt _ _ _,?_,?_⟩<;>omega)) (aI (Am (a:=((((d+1):Nat):Int)-(1:Int))) (r:=(((d+1:Nat):Int)-1))) tt)))))))))))))))
theorem ld_z(xs ys rs ds qs:List Nat)(n c k e d s i g:Nat)(j:List Value)(hi:i<d+1)(hn:n=d+(k+2))(hm:n+1<1099511627776)(hrs:rs.length=n+1)(hds:ds.length=k+2)(hqs:qs.length=d+1)(hg9:g<1000000000)(hg0:g=0)(hc0:(FT 193 #[(Ej i k n),(sl 8 (k+2) (k+2))] 10 [(7,(cU rs)),(8,(cU ds))] (nU g) [(7,some (cU rs)),(8,some (cU ds))] [])):GT (ld_h xs ys rs ds qs n c k e d s (i:Int) j) (ld_h xs ys rs ds qs n c k e d s ((i:Int)-1) ([(Ej i k n),(nU g)]++(jj j 2 34 ([(nI i),bT,(nI i),(.int .i64 ((i:Int)-1)),(sl 7 (n+1) (n+1)),(nI i),(nI i),(sl 6 (k+2) e),(nI (k+2)),(nI (i+(k+2))),(nI ((i+(k+2))+1)),(Ej i k n),(Ej i k n),(sl 8 (k+2) (k+2)),(nU g),(nU g),bT]++(jj j 53 18 []))))):=
 sR (sc:=[(4,.op (.rwB true)),(12,.op (.rwI (((i+(k+2)):Nat):Int))),(0,.op (.rwI ((((i+(k+2))+1):Nat):Int))),(0,.op (.slc i (k+3) (n+1-i))),(6,.call [7,8] (nU g) [(7,some (cU rs)),(8,some (cU ds))] []),(6,.op (.rwB true)),(5,.op (.rwI ((i:Int)-1))),(3,.stay)]) kr (aI (dT (p:=(i:Int)≥(0:Int))) (aI (Am (a:=((i:Int)+(((k+2):Nat):Int))) (r:=(((i+(k+2)):Nat):Int))) (aI (Am (a:=((((i+(k+2)):Nat):Int)+(1:Int))) (r:=((((i+(k+2))+1):Nat):Int))) (aI (show 0≤(i:Int)∧(i:Int)≤((((i+(k+2))+1):Nat):Int)∧((((i+(k+2))+1):Nat):Int)≤(((n+1):Nat):Int)∧(if (n+1)=Int.toNat (i:Int) then 0 else 0+Int.toNat (i:Int)*1)=i∧Int.toNat (((((i+(k+2))+1):Nat):Int)-(i:Int))=(k+3)∧(n+1)-Int.toNat (i:Int)=(n+1-i) from (by refine⟨by omega,by omega,by omega,?_,by omega,by omega⟩;split<;>omega)) (aI hc0 (aI (eT (a:=(g:Int)) (b:=(0:Int))) (aI (Am (a:=((i:Int)-(1:Int))) (r:=((i:Int)-1))) tt)))))))
theorem ld_t(xs ys rs ds qs:List Nat)(n c k e d s i g:Nat)(j:List Value)(hi:i<d+1)(hn:n=d+(k+2))(hm:n+1<1099511627776)(hrs:rs.length=n+1)(hds:ds.length=k+2)(hqs:qs.length=d+1)(hg9:g<1000000000)(hg0:g≠0)(hc0:(FT 193 #[(Ej i k n),(sl 8 (k+2) (k+2))] 10 [(7,(cU rs)),(8,(cU ds))] (nU g) [(7,some (cU rs)),(8,some (cU ds))] []))(r1:List Nat)(hc2:(FT 194 #[(Ej i k n),(sl 8 (k+2) (k+2)),(nU g)] 10 [(7,(cU rs)),(8,(cU ds))] bT [(7,some (cU r1)),(8,some (cU ds))] [])):GT (ld_h xs ys rs ds qs n c k e d s (i:Int) j) (ld_h xs ys r1 ds (qs.set i g) n c k e d s ((i:Int)-1) ([(Ej i k n),(nU g)]++(jj j 2 34 ([(nI i),bT,(nI i),(.int .i64 ((i:Int)-1)),(sl 7 (n+1) (n+1)),(nI i),(nI i),(sl 6 (k+2) e),(nI (k+2)),(nI (i+(k+2))),(nI ((i+(k+2))+1)),(Ej i k n),(Ej i k n),(sl 8 (k+2) (k+2)),(nU g),(nU g),bF,(sl 9 (d+1) (d+1)),(nI i),(nU g),(nW g),(pp 9 i),(Ej i k n),(sl 8 (k+2) (k+2)),(nU g),bT]++(jj j 62 9 []))))):=
 sR (sc:=[(4,.op (.rwB true)),(12,.op (.rwI (((i+(k+2)):Nat):Int))),(0,.op (.rwI ((((i+(k+2))+1):Nat):Int))),(0,.op (.slc i (k+3) (n+1-i))),(6,.call [7,8] (nU g) [(7,some (cU rs)),(8,some (cU ds))] []),(6,.op (.rwB false)),(8,.op (.rwI (g:Int))),(0,.op (.idx i)),(0,.op (.st (ns .u32 (qs.set i g)))),(7,.call [7,8] bT [(7,some (cU r1)),(8,some (cU ds))] []),(5,.op (.rwI ((i:Int)-1))),(3,.stay)]) kr (aI (dT (p:=(i:Int)≥(0:Int))) (aI (Am (a:=((i:Int)+(((k+2):Nat):Int))) (r:=(((i+(k+2)):Nat):Int))) (aI (Am (a:=((((i+(k+2)):Nat):Int)+(1:Int))) (r:=((((i+(k+2))+1):Nat):Int))) (aI (show 0≤(i:Int)∧(i:Int)≤((((i+(k+2))+1):Nat):Int)∧((((i+(k+2))+1):Nat):Int)≤(((n+1):Nat):Int)∧(if (n+1)=Int.toNat (i:Int) then 0 else 0+Int.toNat (i:Int)*1)=i∧Int.toNat (((((i+(k+2))+1):Nat):Int)-(i:Int))=(k+3)∧(n+1)-Int.toNat (i:Int)=(n+1-i) from (by refine⟨by omega,by omega,by omega,?_,by omega,by omega⟩;split<;>omega)) (aI hc0 (aI (eF (a:=(g:Int)) (b:=(0:Int))) (aI (Br (a:=(g:Int)) (r:=(g:Int))) (aI (ix (i:Int) (((d+1):Nat):Int) 0 1 i) (aI (show i+1≤(ns .u32 qs).length∧Bq (ns .u32 qs) i [(nW g)]=(ns .u32 (qs.set i g)) from (Dw)) (aI hc2 (aI (Am (a:=((i:Int)-(1:Int))) (r:=((i:Int)-1))) tt)))))))))))
theorem ld_f(xs ys rs ds qs:List Nat)(n c k e d s i g:Nat)(j:List Value)(hi:i<d+1)(hn:n=d+(k+2))(hm:n+1<1099511627776)(hrs:rs.length=n+1)(hds:ds.length=k+2)(hqs:qs.length=d+1)(hg9:g<1000000000)(hg0:g≠0)(hc0:(FT 193 #[(Ej i k n),(sl 8 (k+2) (k+2))] 10 [(7,(cU rs)),(8,(cU ds))] (nU g) [(7,some (cU rs)),(8,some (cU ds))] []))(r1:List Nat)(hc2:(FT 194 #[(Ej i k n),(sl 8 (k+2) (k+2)),(nU g)] 10 [(7,(cU rs)),(8,(cU ds))] bF [(7,some (cU r1)),(8,some (cU ds))] []))(r2:List Nat)(hc4:(FT 195 #[(Ej i k n),(sl 8 (k+2) (k+2))] 10 [(7,(cU r1)),(8,(cU ds))] undef [(7,some (cU r2)),(8,some (cU ds))] [])):GT (ld_h xs ys rs ds qs n c k e d s (i:Int) j) (ld_h xs ys r2 ds (qs.set i (g-1)) n c k e d s ((i:Int)-1) ([(Ej i k n),(nU g)]++(jj j 2 34 [(nI i),bT,(nI i),(.int .i64 ((i:Int)-1)),(sl 7 (n+1) (n+1)),(nI i),(nI i),(sl 6 (k+2) e),(nI (k+2)),(nI (i+(k+2))),(nI ((i+(k+2))+1)),(Ej i k n),(Ej i k n),(sl 8 (k+2) (k+2)),(nU g),(nU g),bF,(sl 9 (d+1) (d+1)),(nI i),(nU g),(nW g),(pp 9 i),(Ej i k n),(sl 8 (k+2) (k+2)),(nU g),bF,(sl 9 (d+1) (d+1)),(nI i),(pp 9 i),(nW g),(nW (g-1)),(pp 9 i),(Ej i k n),(sl 8 (k+2) (k+2)),undef]))):=
 sR (sc:=[(4,.op (.rwB true)),(12,.op (.rwI (((i+(k+2)):Nat):Int))),(0,.op (.rwI ((((i+(k+2))+1):Nat):Int))),(0,.op (.slc i (k+3) (n+1-i))),(6,.call [7,8] (nU g) [(7,some (cU rs)),(8,some (cU ds))] []),(6,.op (.rwB false)),(8,.op (.rwI (g:Int))),(0,.op (.idx i)),(0,.op (.st (ns .u32 (qs.set i g)))),(7,.call [7,8] bF [(7,some (cU r1)),(8,some (cU ds))] []),(7,.op (.idx i)),(0,.op (.ld (nW g))),(0,.op (.rwI (((g-1):Nat):Int))),(0,.op (.idx i)),(0,.op (.st (ns .u32 (qs.set i (g-1))))),(4,.call [7,8] uu [(7,some (cU r2)),(8,some (cU ds))] []),(4,.op (.rwI ((i:Int)-1))),(3,.stay)]) kr (aI (dT (p:=(i:Int)≥(0:Int))) (aI (Am (a:=((i:Int)+(((k+2):Nat):Int))) (r:=(((i+(k+2)):Nat):Int))) (aI (Am (a:=((((i+(k+2)):Nat):Int)+(1:Int))) (r:=((((i+(k+2))+1):Nat):Int))) (aI (show 0≤(i:Int)∧(i:Int)≤((((i+(k+2))+1):Nat):Int)∧((((i+(k+2))+1):Nat):Int)≤(((n+1):Nat):Int)∧(if (n+1)=Int.toNat (i:Int) then 0 else 0+Int.toNat (i:Int)*1)=i∧Int.toNat (((((i+(k+2))+1):Nat):Int)-(i:Int))=(k+3)∧(n+1)-Int.toNat (i:Int)=(n+1-i) from (by refine⟨by omega,by omega,by omega,?_,by omega,by omega⟩;split<;>omega)) (aI hc0 (aI (eF (a:=(g:Int)) (b:=(0:Int))) (aI (Br (a:=(g:Int)) (r:=(g:Int))) (aI (ix (i:Int) (((d+1):Nat):Int) 0 1 i) (aI (show i+1≤(ns .u32 qs).length∧Bq (ns .u32 qs) i [(nW g)]=(ns .u32 (qs.set i g)) from (Dw)) (aI hc2 (aI (ix (i:Int) (((d+1):Nat):Int) 0 1 i) (aI (show ((ns .u32 (qs.set i g)):List Value)[i]? =some (nW g) from (Tq om)) (aI (Br (a:=((g:Int)-(1:Int))) (r:=(((g-1):Nat):Int))) (aI (ix (i:Int) (((d+1):Nat):Int) 0 1 i) (aI (show i+1≤(ns .u32 (qs.set i g)).length∧Bq (ns .u32 (qs.set i g)) i [(nW (g-1))]=(ns .u32 (qs.set i (g-1))) from (ns_set2 om)) (aI hc4 (aI (Am (a:=((i:Int)-(1:Int))) (r:=((i:Int)-1))) tt)))))))))))))))))
theorem ld_o(xs ys rs ds qs:List Nat)(n c k e d s:Nat)(i:Int)(j:List Value)(hi:i<0)(hn:n=d+(k+2))(hm:n+1<1099511627776)(hrs:rs.length=n+1)(hqs:qs.length=d+1)(r3:List Nat)(q3:Nat)(h3:r3.length=n+1)(hc1:(FT 155 #[(sl 7 (n+1) (n+1)),(nU s)] 10 [(7,(cU rs))] (nU q3) [(7,some (cU r3))] []))(hr:GT (Ca 158 #[(sl 5 n c),(sl 6 (k+2) e)] 7 [(5,(cU xs)),(6,(cU ys))]) (ld_h xs ys rs ds qs n c k e d s i j)):CT 158 #[(sl 5 n c),(sl 6 (k+2) e)] (Ac 7 [(5,(cU xs)),(6,(cU ys))]) (.tuple #[(sl 9 (top qs (d+1)) (top qs (d+1))),(sl 7 (top r3 (n+1)) (top r3 (n+1)))]) (Ac 10 [(5,(cU xs)),(6,(cU ys)),(7,(cU r3)),(9,(cU qs))]):=
 sF (sc:=[(4,.op (.rwB false)),(7,.call [7] (nU q3) [(7,some (cU r3))] []),(4,.call [9] (sl 9 (top qs (d+1)) (top qs (d+1))) [(9,some (cU qs))] []),(1,.call [7] (sl 7 (top r3 (n+1)) (top r3 (n+1))) [(7,some (cU r3))] []),(4,.stay)]) kr (aI (dF (p:=i≥(0:Int))) (aI hc1 (aI (Uq 10 9 qs (d+1) (d+1) om om om om) (aI (Uq 10 7 r3 (n+1) (n+1) om om om om) tt)))) hr
theorem ld_all{s0:AS}{xs ys ds:List Nat}{n c k e d s X:Nat}(hn:n=d+(k+2))(hm:n+1<1099511627776)(hld:Lim ds)(hds:ds.length=k+2)(h1:ds.getD (k+1) 0≠0): ∀(p:Nat) (rs qs:List Nat) (j:List Value),p≤d+1→rs.length=n+1→qs.length=d+1→Lim rs→Lim qs→(∀l,l<p→qs.getD l 0=0)→
  val qs*val ds+val rs=X→val rs<val ds*1000000000^p→GT s0 (ld_h xs ys rs ds qs n c k e d s ((p:Int)-1) j)→
  ∃rs' qs' i' j',rs'.length=n+1∧qs'.length=d+1∧Lim rs'∧Lim qs'∧val qs'*val ds+val rs'=X∧val rs'<val ds∧i'<0∧GT s0 (ld_h xs ys rs' ds qs' n c k e d s i' j'):=by
 have hV0:0<val ds:=by
  have:=Xt h1
  rw[List.take_of_length_le om]at this
  exact Nat.lt_of_lt_of_le (pow_pos _) this
 have hVk:val ds<1000000000^(k+2):=by
  have:=val_lt hld
  rw[hds]at this
  exact this
 have htk:ds.take (k+2)=ds:=List.take_of_length_le om
 intro p
 induction p with
 |zero=>
  intro rs qs j hp hrs hqs hlr hlq hz hX hR hr
  rw[Nat.pow_zero,Nat.mul_one]at hR
  exact⟨rs,qs,_,j,hrs,hqs,hlr,hlq,hX,hR,by omega,hr⟩
 |succ i ih=>
  intro rs qs j hp hrs hqs hlr hlq hz hX hR hr
  rw[show ((i+1:Nat):Int)-1=(i:Int) by omega]at hr
  have hg:=guess_lists hlr hld hds h1 (show i+k+2<rs.length by omega) hR
  have T:=gu_c 10 7 8 rs ds i (k+3) (n+1-i) k (k+2) om hlr hld om om om om h1
  rw[show i+k+2=i+(k+2) from rfl,show i+k+1=i+(k+1) from rfl]at hg
  have hg9:Zw (rs.getD (i+(k+2)) 0) (rs.getD (i+(k+1)) 0) (rs.getD (i+k) 0) (ds.getD (k+1) 0) (ds.getD k 0)≤1000000000-1:=Nat.min_le_left _ _
  generalize Zw (rs.getD (i+(k+2)) 0) (rs.getD (i+(k+1)) 0) (rs.getD (i+k) 0) (ds.getD (k+1) 0) (ds.getD k 0)=g at*
  have hR3:val rs<1000000000^(i+(k+2)+1):=by
   refine Nat.lt_of_lt_of_le hR ?_
   rw[show i+(k+2)+1=(k+2)+(i+1) by omega,Nat.pow_add 1000000000 (k+2) (i+1)]
   exact Nat.mul_le_mul_right _ (Nat.le_of_lt hVk)
  by_cases hg0:g=0
  ·have r:=ld_z xs ys rs ds qs n c k e d s i g j om hn hm hrs hds hqs om hg0 T
   exact ih rs qs _ om hrs hqs hlr hlq (fun l hl=>hz l om) hX (ld_zero hV0 om) (hr.trans r)
  ·obtain⟨r1,b,e1,e2,e3,e4,e5,T2⟩:=lm_c 10 7 8 rs ds i (k+3) (n+1-i) (k+2) (k+2) g om hlr hld om om om om om
   rw[htk]at e5
   have hL1:val r1<1000000000^(i+(k+2)):=Ud e2 fun l hl=>by
    rcases Nat.eq_or_lt_of_le hl with h|h
    ·rw[←h];exact e4
    ·rw[e3 l h];exact Qo hR3 om
   have key:=ld_lists hX hV0 hVk hg (hz i om) om e5 hL1
   by_cases hb:b≤rs.getD (i+(k+2)) 0
   ·rw[decide_eq_true hb]at T2
    obtain⟨k1,k2⟩:=key.1 hb
    have r:=ld_t xs ys rs ds qs n c k e d s i g j om hn hm hrs hds hqs om hg0 T r1 T2
    exact ih r1 (qs.set i g) _ om (by rw[e1];exact hrs) (by rw[List.length_set];exact hqs) e2 (hlq.set om) (fun l hl=>by rw[getD_set om,if_neg om];exact hz l om) k1 k2 (hr.trans r)
   ·rw[decide_eq_false hb]at T2
    obtain⟨k1,k2⟩:=key.2 om
    obtain⟨r2,u,f1,f2,f3,f4,f5,T3⟩:=gb_c 10 7 8 r1 ds i (k+3) (n+1-i) (k+2) (k+2) om e2 hld om om om om
    rw[htk]at f5
    have hL2:val r2<1000000000^(i+(k+2)):=Ud f2 fun l hl=>by
     rw[f4 l hl]
     rcases Nat.eq_or_lt_of_le hl with h|h
     ·rw[←h];exact e4
     ·rw[e3 l h];exact Qo hR3 om
    obtain⟨k3,k4⟩:=k2 r2 u f3 f5 hL2
    have r:=ld_f xs ys rs ds qs n c k e d s i g j om hn hm hrs hds hqs om hg0 T r1 T2 r2 T3
    exact ih r2 (qs.set i (g-1)) _ om (by rw[f1,e1];exact hrs) (by rw[List.length_set];exact hqs) f2 (hlq.set om) (fun l hl=>by rw[getD_set om,if_neg om];exact hz l om) k3 k4 (hr.trans r)
theorem ld_c(n0 bx byy:Nat)(xs ys:List Nat)(n c k e d:Nat)(hb:5≤bx∧bx<n0∧5≤byy∧byy<n0∧bx≠byy)(hlx:Lim xs)(hly:Lim ys)(hc:n≤xs.length)(hy:k+2≤ys.length)(hn:n=d+(k+2))(hm:n+1<1099511627776)(h0:ys.getD (k+1) 0≠0):
  ∃zs t rs u,Lim zs∧t≤zs.length∧t≤n∧(0<t→zs.getD (t-1) 0≠0)∧val (zs.take t)=val (xs.take n)/val (ys.take (k+2))∧
   Lim rs∧u≤rs.length∧u≤n+1∧(0<u→rs.getD (u-1) 0≠0)∧val (rs.take u)=val (xs.take n)%val (ys.take (k+2))∧
   FT 158 #[sl bx n c,sl byy (k+2) e] n0 [(bx,cU xs),(byy,cU ys)] (.tuple #[sl n0 t t,sl (n0+1) u u]) [(bx,some (cU xs)),(byy,some (cU ys))] [cU zs,cU rs]:=by
 obtain⟨s,hs⟩: ∃s,s=1000000000/(ys.getD (k+1) 0+1):=⟨_,rfl⟩
 have ha:=hly.get (k+1)
 have hs0:0<s:=hs▸scale_pos ha
 have hs9:s≤1000000000:=hs▸scale_le _
 have lx:(xs.take n++List.replicate (n+1-n) 0).length=n+1:=by rw[List.length_append,List.length_take,List.length_replicate];omega
 have vx:val (xs.take n++List.replicate (n+1-n) 0)=val (xs.take n):=by rw[val_append,val_replicate,Nat.mul_zero,Nat.add_zero]
 have ly:(ys.take (k+2)++List.replicate (k+2-(k+2)) 0).length=k+2:=by rw[List.length_append,List.length_take,List.length_replicate];omega
 have vy:val (ys.take (k+2)++List.replicate (k+2-(k+2)) 0)=val (ys.take (k+2)):=by rw[val_append,val_replicate,Nat.mul_zero,Nat.add_zero]
 obtain⟨r0,q0,a1,a2,a3,A⟩:=sc_c 9 7 (xs.take n++List.replicate (n+1-n) 0) (n+1) (n+1) s 0 om ((hlx.take n).append (Lim.replicate _)) lx om hs9 om
 obtain⟨d0,q1,b1,b2,b3,B⟩:=sc_c 9 8 (ys.take (k+2)++List.replicate (k+2-(k+2)) 0) (k+2) (k+2) s 0 om ((hly.take _).append (Lim.replicate _)) ly om hs9 om
 rw[vx,Nat.add_zero]at a3
 rw[vy,Nat.add_zero]at b3
 have hr0:=scale_rest (Dv hlx n) hs9 a3
 obtain⟨hd0,hdt⟩:=scale_div hly b2 b1 h0 hs hs0 b3
 have hyk:=Xt h0
 have hy0:0<val (ys.take (k+2)):=Nat.lt_of_lt_of_le (pow_pos _) hyk
 have r:=ld_in xs ys n c k e d s hn hm hc hy ha hs hs9 r0 q0 A d0 q1 B
 have hR:val r0<val d0*1000000000^(d+1):=by
  have:=ld_init (Dv hlx n) hyk (show k+1≤n by omega) hs0 hd0
  rw[←hr0,show n-(k+1)=d+1 by omega]at this
  exact this
 obtain⟨r1,q2,i,j,c1,c2,c3,c4,c5,c6,c7,c8⟩:=ld_all hn hm b2 b1 hdt (d+1) r0 (List.replicate (d+1) 0) _ (Nat.le_refl _) a1 (by rw[List.length_replicate]) a2 (Lim.replicate _) (fun l _=>Va _ _) (by rw[val_replicate,Nat.zero_mul,Nat.zero_add]) hR r
 rw[hd0]at c5 c6
 rw[hr0]at c5
 obtain⟨f1,f2⟩:=ld_final hs0 c5 c6
 obtain⟨r3,q3,g1,g2,g3,g4,T⟩:=sh_c 10 7 r1 (n+1) (n+1) s om c3 c1 om hs0 hs9
 rw[f2]at g4
 have hv:=shrink_exact hs0 g4 g3
 have S:=ld_o xs ys r1 d0 q2 n c k e d s i j c7 hn hm c1 c2 r3 q3 g1 T c8
 have htq:=top_le q2 (d+1)
 have htr:=top_le r3 (n+1)
 refine⟨q2,top q2 (d+1),r3,top r3 (n+1),c4,by omega,by omega,top_pos _ _,?_,g2,by omega,htr,top_pos _ _,?_,ff [bx,byy] [cU xs,cU ys] [cU xs,cU ys] [9,7] [cU q2,cU r3] n0 S (hnd:=by simp[hb.2.2.2.2])⟩
 ·rw[top_val,List.take_of_length_le om,f1]
 ·rw[top_val,List.take_of_length_le om,hv]
theorem nf_o(x a b:Nat)(ha:a=x%1000000000)(hb:b=x/1000000000)(hx:x<1000000000000000000):CT 157 #[(nU x)] (Ac 5 []) (sl 5 (top ([a,b]) 2) (top ([a,b]) 2)) (Ac 6 [(5,(cU ([a,b])))]):=
 sF (sc:=[(7,.op (.rwI (a:Int))),(0,.op (.rwI (a:Int))),(1,.op (.rwI (b:Int))),(0,.op (.rwI (b:Int))),(1,.call [5] (sl 5 (top ([a,b]) 2) (top ([a,b]) 2)) [(5,some (cU ([a,b])))] []),(3,.stay)]) kr (aI (show (Int.tmod (x:Int) (1000000000:Int))=(a:Int) from (by rw[Int.tmod_eq_emod_of_nonneg om]<;>omega)) (aI (Br (a:=(a:Int)) (r:=(a:Int))) (aI (show IntKind.wrap .u64 (Int.tdiv (x:Int) (1000000000:Int))=(b:Int) from (by rw[Int.tdiv_eq_ediv_of_nonneg om,Ee om om]<;>omega)) (aI (Br (a:=(b:Int)) (r:=(b:Int))) (aI (Uq 6 5 ([a,b]) 2 2 (by first|omega|exact Nat.le_refl _) (by first|omega|exact Nat.le_refl _) (by first|omega|exact Nat.le_refl _) (by first|omega|exact Nat.le_refl _)) tt))))) (Gets.refl _)
theorem two_val(a b:Nat):val [a,b]=a+1000000000*b:=by simp[val]
theorem nf_c(n0 x:Nat)(hG:5≤n0)(hx:x<1000000000000000000): ∃xs t,Lim xs∧xs.length=2∧t≤2∧(0<t→xs.getD (t-1) 0≠0)∧val (xs.take t)=x∧
  FT 157 #[.int .u64 (x:Nat)] n0 [] (sl n0 t t) [] [cU xs]:=by
 obtain⟨a,ha⟩: ∃a,a=x%1000000000:=⟨_,rfl⟩
 obtain⟨b,hb⟩: ∃b,b=x/1000000000:=⟨_,rfl⟩
 refine⟨[a,b],top [a,b] 2,?_,rfl,top_le _ _,top_pos _ _,?_,ff [] [] [] [5] [.cells (ns .u32 [a,b]) 121 none false] n0 (nf_o x a b ha hb hx) (hb:=sm) (hGn:=hG) (fo:=rfl) (fp:=rfl)⟩
 ·intro z hz
  simp at hz
  omega
 ·rw[top_val,show List.take 2 [a,b]=[a,b] from rfl,two_val]
  omega
theorem cmpu_lt(a b:Nat)(h:a<b):CT 191 #[(nW a),(nW b)] (Ac 5 []) (.int .i64 (.negSucc 0)) (Ac 5 []):=
 sF (sc:=[(16,.op (.rwB false)),(18,.op (.rwB false)),(25,.op (.rwB true)),(7,.stay)]) kr (aI (nF (a:=(a:Int)) (b:=(a:Int))) (aI (nF (a:=(b:Int)) (b:=(b:Int))) (aI (dT (p:=(a:Int)<(b:Int))) tt))) (Gets.refl _)
theorem cmpu_gt(a b:Nat)(h:b<a):CT 191 #[(nW a),(nW b)] (Ac 5 []) (lI 1) (Ac 5 []):=
 sF (sc:=[(16,.op (.rwB false)),(18,.op (.rwB false)),(25,.op (.rwB false)),(8,.op (.rwB true)),(7,.stay)]) kr (aI (nF (a:=(a:Int)) (b:=(a:Int))) (aI (nF (a:=(b:Int)) (b:=(b:Int))) (aI (dF (p:=(a:Int)<(b:Int))) (aI (dT (p:=(a:Int)>(b:Int))) tt)))) (Gets.refl _)
theorem cmpu_eq(a b:Nat)(h:a=b):CT 191 #[(nW a),(nW b)] (Ac 5 []) (lI 0) (Ac 5 []):=
 sF (sc:=[(16,.op (.rwB false)),(18,.op (.rwB false)),(25,.op (.rwB false)),(8,.op (.rwB false)),(8,.stay)]) kr (aI (nF (a:=(a:Int)) (b:=(a:Int))) (aI (nF (a:=(b:Int)) (b:=(b:Int))) (aI (dF (p:=(a:Int)<(b:Int))) (aI (dF (p:=(a:Int)>(b:Int))) tt)))) (Gets.refl _)
theorem cmpu_c(n0 a b:Nat)(hG:5≤n0):FT 191 #[.int .u32 (a:Nat),.int .u32 (b:Nat)] n0 [] (.int .i64 (Gp a b)) [] []:=by
 have S:CT 191 #[(nW a),(nW b)] (Ac 5 []) (.int .i64 (Gp a b)) (Ac 5 []):=by
  rcases Nat.lt_trichotomy a b with h|h|h
  ·rw[Rd h];exact cmpu_lt a b h
  ·rw[cmpN_eq h];exact cmpu_eq a b h
  ·rw[Lc h];exact cmpu_gt a b h
 exact Dy n0 S hG
theorem cmp_lt(xs ys:List Nat)(n c k e:Nat)(hn:n<1099511627776)(hkm:k<1099511627776)(hlt:n<k):CT 152 #[(sl 5 n c),(sl 6 k e)] (Ac 7 [(5,(cU xs)),(6,(cU ys))]) (.int .i64 (.negSucc 0)) (Ac 7 [(5,(cU xs)),(6,(cU ys))]):=
 sF (sc:=[(11,.op (.rwB true)),(25,.op (.rwB false)),(18,.op (.rwB false)),(25,.op (.rwB true)),(11,.stay)]) kr (aI (nT (a:=(n:Int)) (b:=(k:Int))) (aI (nF (a:=(n:Int)) (b:=(n:Int))) (aI (nF (a:=(k:Int)) (b:=(k:Int))) (aI (dT (p:=(n:Int)<(k:Int))) tt)))) (Gets.refl _)
theorem cmp_gt(xs ys:List Nat)(n c k e:Nat)(hn:n<1099511627776)(hkm:k<1099511627776)(hlt:k<n):CT 152 #[(sl 5 n c),(sl 6 k e)] (Ac 7 [(5,(cU xs)),(6,(cU ys))]) (lI 1) (Ac 7 [(5,(cU xs)),(6,(cU ys))]):=
 sF (sc:=[(11,.op (.rwB true)),(25,.op (.rwB false)),(18,.op (.rwB false)),(25,.op (.rwB false)),(8,.op (.rwB true)),(11,.stay)]) kr (aI (nT (a:=(n:Int)) (b:=(k:Int))) (aI (nF (a:=(n:Int)) (b:=(n:Int))) (aI (nF (a:=(k:Int)) (b:=(k:Int))) (aI (dF (p:=(n:Int)<(k:Int))) (aI (dT (p:=(n:Int)>(k:Int))) tt))))) (Gets.refl _)
noncomputable def cmp_h_f(xs ys:List Nat)(n c k e:Nat)(i:Int)(j:List Value):Frame:=(Fr 152 ([(sl 5 n c),(sl 6 k e),uu,uu,(J j 0),(.int .i64 i)]++(jj j 1 4 ([bF,uu,uu,uu,uu,uu]++(jj j 5 25 [])))) [.code (cd Tryz.f152 [1,1,0,1,0,0]),.inLoop (cd Tryz.f152 [1,1,0,1,0,0]),.inBlock 0,.code (cd Tryz.f152 [1,1,1])])
noncomputable def cmp_h_o(xs ys:List Nat)(n c k e:Nat)(i:Int):List (Nat×AObj):=[(5,(cU xs)),(6,(cU ys))]
noncomputable def cmp_h(xs ys:List Nat)(n c k e:Nat)(i:Int)(j:List Value):AS:=⟨cmp_h_f xs ys n c k e i j,[],Ac 7 (cmp_h_o xs ys n c k e i)⟩
theorem cmp_in(xs ys:List Nat)(n c k e:Nat)(hn:n<1099511627776)(hkm:k<1099511627776)(hnk:n=k):GT (Ca 152 #[(sl 5 n c),(sl 6 k e)] 7 [(5,(cU xs)),(6,(cU ys))]) (cmp_h xs ys n c k e ((n:Int)-1) [(lI 0),(sl 5 n c),(nI n),(sl 6 k e),(nI k),(sl 5 n c),(nI n),(.int .i64 ((n:Int)-1)),undef,undef,undef,undef,undef,undef,undef,undef,undef,undef,undef,undef,undef,undef,undef,undef,undef,undef,undef,undef,undef,undef]):=
 sR (sc:=[(11,.op (.rwB false)),(8,.op (.rwI ((n:Int)-1))),(4,.stay)]) kr (aI (nF (a:=(n:Int)) (b:=(k:Int))) (aI (Am (a:=((n:Int)-(1:Int))) (r:=((n:Int)-1))) tt))
theorem cmp_r(xs ys:List Nat)(n c k e:Nat)(i:Nat)(a b:Nat)(j:List Value)(hi:i<n)(hnk:n=k)(hc:n≤xs.length)(hk:k≤ys.length)(hn:n<1099511627776)(hx:(ns .u32 xs)[i]? =some (nW a))(hy:(ns .u32 ys)[i]? =some (nW b))(hab:a=b):GT (cmp_h xs ys n c k e (i:Int) j) (cmp_h xs ys n c k e ((i:Int)-1) (jj j 0 8 ([(nI i),bT,(nI i),(.int .i64 ((i:Int)-1)),(sl 5 n c),(nI i),(pp 5 i),(nW a),(sl 6 k e),(nI i),(pp 6 i),(nW b),bF]++(jj j 21 9 [])))):=
 sR (sc:=[(4,.op (.rwB true)),(6,.drw [(2,.idx i),(3,.ld (nW a)),(6,.idx i),(7,.ld (nW b)),(8,.rwB false)]),(5,.op (.rwI ((i:Int)-1))),(3,.stay)]) kr (aI (dT (p:=(i:Int)≥(0:Int))) (aI (aI tt (aI tt (aI (ix (i:Int) (n:Int) 0 1 i) (aI hx (aI tt (aI tt (aI (ix (i:Int) (k:Int) 0 1 i) (aI hy (aI (nF (a:=(a:Int)) (b:=(b:Int))) tt))))))))) (aI (Am (a:=((i:Int)-(1:Int))) (r:=((i:Int)-1))) tt)))
theorem cmp_o(xs ys:List Nat)(n c k e:Nat)(i:Nat)(a b:Nat)(j:List Value)(hi:i<n)(hnk:n=k)(hc:n≤xs.length)(hk:k≤ys.length)(hn:n<1099511627776)(hx:(ns .u32 xs)[i]? =some (nW a))(hy:(ns .u32 ys)[i]? =some (nW b))(hab:a≠b)(hr:GT (Ca 152 #[(sl 5 n c),(sl 6 k e)] 7 [(5,(cU xs)),(6,(cU ys))]) (cmp_h xs ys n c k e (i:Int) j)):CT 152 #[(sl 5 n c),(sl 6 k e)] (Ac 7 [(5,(cU xs)),(6,(cU ys))]) (.int .i64 (Gp a b)) (Ac 7 [(5,(cU xs)),(6,(cU ys))]):=
 sF (sc:=[(4,.op (.rwB true)),(6,.drw [(2,.idx i),(3,.ld (nW a)),(6,.idx i),(7,.ld (nW b)),(8,.rwB true)]),(2,.drwM [(2,.idx i),(3,.ld (nW a)),(6,.idx i),(7,.ld (nW b))] [⟨8,[],(.int .i64 (Gp a b)),[],[]⟩]),(1,.stay)]) kr (aI (dT (p:=(i:Int)≥(0:Int))) (aI (aI tt (aI tt (aI (ix (i:Int) (n:Int) 0 1 i) (aI hx (aI tt (aI tt (aI (ix (i:Int) (k:Int) 0 1 i) (aI hy (aI (nT (a:=(a:Int)) (b:=(b:Int))) tt))))))))) (aI (aI tt (aI tt (aI (ix (i:Int) (n:Int) 0 1 i) (aI hx (aI tt (aI tt (aI (ix (i:Int) (k:Int) 0 1 i) (aI hy (aI (cmpu_c 7 a b om) (aI tt tt)))))))))) tt))) hr
theorem cmp_e(xs ys:List Nat)(n c k e:Nat)(i:Int)(j:List Value)(hi:i<0)(hr:GT (Ca 152 #[(sl 5 n c),(sl 6 k e)] 7 [(5,(cU xs)),(6,(cU ys))]) (cmp_h xs ys n c k e i j)):CT 152 #[(sl 5 n c),(sl 6 k e)] (Ac 7 [(5,(cU xs)),(6,(cU ys))]) (lI 0) (Ac 7 [(5,(cU xs)),(6,(cU ys))]):=
 sF (sc:=[(4,.op (.rwB false)),(8,.stay)]) kr (aI (dF (p:=i≥(0:Int))) tt) hr
theorem cmp_loop{n c e:Nat}{xs ys:List Nat}(hlx:Lim xs)(hly:Lim ys)(hc:n≤xs.length)(hk:n≤ys.length)(hn:n<1099511627776): ∀(i:Nat) (j:List Value),i≤n→Gp (val (xs.take n)) (val (ys.take n))=Gp (val (xs.take i)) (val (ys.take i))→
  GT (Ca 152 #[(sl 5 n c),(sl 6 n e)] 7 [(5,(cU xs)),(6,(cU ys))]) (cmp_h xs ys n c n e ((i:Int)-1) j)→CT 152 #[(sl 5 n c),(sl 6 n e)] (Ac 7 [(5,(cU xs)),(6,(cU ys))]) (.int .i64 (Gp (val (xs.take n)) (val (ys.take n)))) (Ac 7 [(5,(cU xs)),(6,(cU ys))]):=by
 intro i
 induction i with
 |zero=>
  intro j _ ht hr
  have:=cmp_e xs ys n c n e _ j om hr
  rw[ht]
  exact this
 |succ i ih=>
  intro j hi ht hr
  rw[show ((i+1:Nat):Int)-1=(i:Int) by omega]at hr
  by_cases ha:xs.getD i 0=ys.getD i 0
  ·have r:=cmp_r xs ys n c n e i (xs.getD i 0) (ys.getD i 0) j om rfl hc hk hn (Aq) (Aq) ha
   exact ih _ om (by rw[ht,val_take_succ,val_take_succ,ha];exact cmpN_add _ _ _) (hr.trans r)
  ·have:=cmp_o xs ys n c n e i (xs.getD i 0) (ys.getD i 0) j om rfl hc hk hn (Aq) (Aq) ha hr
   rw[ht,val_take_succ,val_take_succ,cmpN_top (by have:=val_lt (hlx.take i);rw[List.length_take,Nat.min_eq_left om]at this;exact this) (by have:=val_lt (hly.take i);rw[List.length_take,Nat.min_eq_left om]at this;exact this) ha]
   exact this
theorem cmp_c(n0 bx byy:Nat)(xs ys:List Nat)(n c k e:Nat)(hb:5≤bx∧bx<n0∧5≤byy∧byy<n0∧bx≠byy)(hlx:Lim xs)(hly:Lim ys)(hc:n≤xs.length)(hk:k≤ys.length)(hn:n<1099511627776)(hkm:k<1099511627776)
  (hx:0<n→xs.getD (n-1) 0≠0) (hy:0<k→ys.getD (k-1) 0≠0):
  FT 152 #[sl bx n c,sl byy k e] n0 [(bx,cU xs),(byy,cU ys)] (.int .i64 (Gp (val (xs.take n)) (val (ys.take k))))
    [(bx,some (cU xs)),(byy,some (cU ys))] []:=by
 have S:CT 152 #[(sl 5 n c),(sl 6 k e)] (Ac 7 [(5,(cU xs)),(6,(cU ys))]) (.int .i64 (Gp (val (xs.take n)) (val (ys.take k)))) (Ac 7 [(5,(cU xs)),(6,(cU ys))]):=by
  by_cases hnk:n=k
  ·subst hnk
   refine cmp_loop hlx hly hc hk hn n _ (Nat.le_refl _) rfl (cmp_in xs ys n c n e hn hkm rfl)
  ·by_cases hlt:n<k
   ·rw[Rd (val_lt_of_len hlx hc hlt hy)]
    exact cmp_lt xs ys n c k e hn hkm hlt
   ·rw[Lc (val_lt_of_len hly hk om hx)]
    exact cmp_gt xs ys n c k e hn hkm om
 refine ff [bx,byy] [cU xs,cU ys] [cU xs,cU ys] [] [] n0 S (hnd:= ?_) (hb:= ?_) (fo:= ?_) (fp:= ?_)
 ·simp[hb.2.2.2.2]
 ·simp;omega
 ·simp[Bj,Af]
 ·simp[Bj,Af]
theorem ov_l(xs ys:List Nat)(n c k e:Nat)(q:Int)(hq:q<0)(hc0:FT 152 #[(sl 5 n c),(sl 6 k e)] 7 [(5,(cU xs)),(6,(cU ys))] (.int .i64 q) [(5,some (cU xs)),(6,some (cU ys))] []):CT 116 #[(sl 5 n c),(sl 6 k e)] (Ac 7 [(5,(cU xs)),(6,(cU ys))]) (.tuple #[nS,(sl 5 n c)]) (Ac 7 [(5,(cU xs)),(6,(cU ys))]):=
 sF (sc:=[(10,.call [5,6] (.int .i64 q) [(5,some (cU xs)),(6,some (cU ys))] []),(0,.op (.rwB true)),(9,.stay)]) kr (aI hc0 (aI (dT (p:=q<(0:Int))) tt)) (Gets.refl _)
theorem ov_1(xs ys:List Nat)(n c k e:Nat)(q:Int)(hq: ¬q<0)(hc:n≤xs.length)(hm:n<1099511627776)(ha:ys.getD 0 0<1000000000)(hy:1≤ys.length)(hc0:FT 152 #[(sl 5 n c),(sl 6 1 e)] 7 [(5,(cU xs)),(6,(cU ys))] (.int .i64 q) [(5,some (cU xs)),(6,some (cU ys))] [])(zs:List Nat)(r:Nat)(hz:zs.length=n)(hc2:FT 155 #[(sl 7 n n),(nU (ys.getD 0 0))] 8 [(7,(cU (xs.take n++List.replicate (n-n) 0)))] (nU r) [(7,some (cU zs))] [])(rs:List Nat)(u:Nat)(hc4:FT 157 #[(nU r)] 8 [] (sl 8 u u) [] [(cU rs)]):CT 116 #[(sl 5 n c),(sl 6 1 e)] (Ac 7 [(5,(cU xs)),(6,(cU ys))]) (.tuple #[(sl 7 (top zs n) (top zs n)),(sl 8 u u)]) (Ac 9 [(5,(cU xs)),(6,(cU ys)),(7,(cU zs)),(8,(cU rs))]):=
 sF (sc:=[(10,.call [5,6] (.int .i64 q) [(5,some (cU xs)),(6,some (cU ys))] []),(0,.op (.rwB false)),(16,.call [5] (sl 7 n n) [(5,some (cU xs))] [(cU (xs.take n++List.replicate (n-n) 0))]),(7,.op (.ld (nW (ys.getD 0 0)))),(0,.op (.rwI (((ys.getD 0 0):Nat):Int))),(0,.call [7] (nU r) [(7,some (cU zs))] []),(5,.call [7] (sl 7 (top zs n) (top zs n)) [(7,some (cU zs))] []),(1,.call [] (sl 8 u u) [] [(cU rs)]),(4,.stay)]) kr (aI hc0 (aI (dF (p:=q<(0:Int))) (aI (Sp 7 5 xs n c n om om om om) (aI (Aq (k:=.u32) (xs:=ys) (i:=0)) (aI (He (a:=(((ys.getD 0 0):Nat):Int)) (r:=(((ys.getD 0 0):Nat):Int))) (aI hc2 (aI (Uq 8 7 zs n n om om om om) (aI hc4 tt)))))))) (Gets.refl _)
theorem ov_2(xs ys:List Nat)(n c k e:Nat)(q:Int)(hq: ¬q<0)(hc0:FT 152 #[(sl 5 n c),(sl 6 (k+2) e)] 7 [(5,(cU xs)),(6,(cU ys))] (.int .i64 q) [(5,some (cU xs)),(6,some (cU ys))] [])(zs rs:List Nat)(t u:Nat)(hc2:FT 158 #[(sl 5 n c),(sl 6 (k+2) e)] 7 [(5,(cU xs)),(6,(cU ys))] (.tuple #[(sl 7 t t),(sl 8 u u)]) [(5,some (cU xs)),(6,some (cU ys))] [(cU zs),(cU rs)]):CT 116 #[(sl 5 n c),(sl 6 (k+2) e)] (Ac 7 [(5,(cU xs)),(6,(cU ys))]) (.tuple #[(sl 7 t t),(sl 8 u u)]) (Ac 9 [(5,(cU xs)),(6,(cU ys)),(7,(cU zs)),(8,(cU rs))]):=
 sF (sc:=[(10,.call [5,6] (.int .i64 q) [(5,some (cU xs)),(6,some (cU ys))] []),(0,.op (.rwB false)),(8,.op (.rwB false)),(7,.call [5,6] (.tuple #[(sl 7 t t),(sl 8 u u)]) [(5,some (cU xs)),(6,some (cU ys))] [(cU zs),(cU rs)]),(6,.stay)]) kr (aI hc0 (aI (dF (p:=q<(0:Int))) (aI (eF (a:=(((k+2):Nat):Int)) (b:=(1:Int))) (aI hc2 tt)))) (Gets.refl _)
theorem ov_c(n0 bx byy:Nat)(xs ys:List Nat)(n c k e:Nat)(hb:5≤bx∧bx<n0∧5≤byy∧byy<n0∧bx≠byy)(hlx:Lim xs)(hly:Lim ys)(hc:n≤xs.length)(hk:k≤ys.length)(hm:n+1<1099511627776)(hkm:k<1099511627776)(hx:0<n→xs.getD (n-1) 0≠0)(hy:0<k→ys.getD (k-1) 0≠0)(h0:0<k):
  (val (xs.take n)<val (ys.take k)∧FT 116 #[sl bx n c,sl byy k e] n0 [(bx,cU xs),(byy,cU ys)] (.tuple #[.slice none 0 0,sl bx n c]) [(bx,some (cU xs)),(byy,some (cU ys))] [])∨
  (val (ys.take k)≤val (xs.take n)∧ ∃zs t rs u,Lim zs∧t≤zs.length∧t≤n∧(0<t→zs.getD (t-1) 0≠0)∧val (zs.take t)=val (xs.take n)/val (ys.take k)∧
   Lim rs∧u≤rs.length∧u≤n+2∧(0<u→rs.getD (u-1) 0≠0)∧val (rs.take u)=val (xs.take n)%val (ys.take k)∧
   FT 116 #[sl bx n c,sl byy k e] n0 [(bx,cU xs),(byy,cU ys)] (.tuple #[sl n0 t t,sl (n0+1) u u]) [(bx,some (cU xs)),(byy,some (cU ys))] [cU zs,cU rs]):=by
 have hq:=cmp_c 7 5 6 xs ys n c k e om hlx hly hc hk om hkm hx hy
 by_cases hlt:val (xs.take n)<val (ys.take k)
 ·left
  refine⟨hlt,?_⟩
  have S:=ov_l xs ys n c k e _ (Hv.2 hlt) hq
  exact ff [bx,byy] [cU xs,cU ys] [cU xs,cU ys] [] [] n0 S (hnd:=by simp[hb.2.2.2.2])
 ·right
  have hge: ¬Gp (val (xs.take n)) (val (ys.take k))<0:=fun q=>hlt (Hv.1 q)
  have hkn:k≤n:=by
   rcases Nat.lt_or_ge n k with h|h
   ·exact absurd (val_lt_of_len hlx hc h hy) hlt
   ·exact h
  refine⟨by omega,?_⟩
  have hk2:k=1∨ ∃k',k=k'+2:=by
   rcases Nat.lt_or_ge k 2 with h|h
   ·exact .inl om
   ·exact .inr ⟨k-2,by omega⟩
  rcases hk2 with rfl|⟨k',rfl⟩
  ·have ha:=hly.get 0
   have ha0:ys.getD 0 0≠0:=hy h0
   have lx:(xs.take n++List.replicate (n-n) 0).length=n:=by rw[List.length_append,List.length_take,List.length_replicate];omega
   have vx:val (xs.take n++List.replicate (n-n) 0)=val (xs.take n):=by rw[val_append,val_replicate,Nat.mul_zero,Nat.add_zero]
   have vy:val (ys.take 1)=ys.getD 0 0:=by rw[show (1:Nat)=0+1 from rfl,val_take_succ,List.take_zero,show val []=0 from rfl];simp
   obtain⟨zs,r,a1,a2,a3,a4,T⟩:=sh_c 8 7 (xs.take n++List.replicate (n-n) 0) n n (ys.getD 0 0) om ((hlx.take n).append (Lim.replicate _)) lx om om om
   rw[vx]at a4
   obtain⟨rs,u,b1,b2,b3,b4,b5,T2⟩:=nf_c 8 r om om
   have S:=ov_1 xs ys n c 1 e _ hge hc om ha om hq zs r a1 T rs u T2
   have htq:=top_le zs n
   have hdm:=(Nat.div_mod_unique (show 0<ys.getD 0 0 by omega)).2 (show r+ys.getD 0 0*val zs=val (xs.take n)∧r<ys.getD 0 0 from⟨by omega,a3⟩)
   refine⟨zs,top zs n,rs,u,a2,by omega,htq,top_pos _ _,?_,b1,by omega,by omega,b4,?_,ff [bx,byy] [cU xs,cU ys] [cU xs,cU ys] [7,8] [cU zs,cU rs] n0 S (hnd:=by simp[hb.2.2.2.2])⟩
   ·rw[top_val,List.take_of_length_le om,vy,hdm.1]
   ·rw[b5,vy,hdm.2]
  ·obtain⟨zs,t,rs,u,a1,a2,a3,a4,a5,b1,b2,b3,b4,b5,T⟩:=ld_c 7 5 6 xs ys n c k' e (n-(k'+2)) om hlx hly hc hk om om (hy h0)
   have S:=ov_2 xs ys n c k' e _ hge hq zs rs t u T
   exact⟨zs,t,rs,u,a1,a2,a3,a4,a5,b1,b2,by omega,b4,b5,ff [bx,byy] [cU xs,cU ys] [cU xs,cU ys] [7,8] [cU zs,cU rs] n0 S (hnd:=by simp[hb.2.2.2.2])⟩
theorem sg_f(xs:List Nat)(n c:Nat):CT 117 #[bF,(sl 5 n c)] (Ac 6 [(5,(cU xs))]) (.agg #[bF,(sl 5 n c)]) (Ac 7 [(5,(cU xs))]):=
 sF (sc:=[(17,.stay)]) kr tt (Gets.refl _)
theorem Wz(n0 b:Nat)(xs:List Nat)(n c:Nat)(hb:5≤b∧b<n0):
  FT 117 #[.bool false,sl b n c] n0 [(b,cU xs)] (.agg #[.bool false,sl b n c]) [(b,some (cU xs))] []:=
 ff [b] [cU xs] [cU xs] [] [] n0 (sg_f xs n c)
theorem sg_t(xs:List Nat)(n c:Nat)(ht:0<n):CT 117 #[bT,(sl 5 n c)] (Ac 6 [(5,(cU xs))]) (.agg #[bT,(sl 5 n c)]) (Ac 7 [(5,(cU xs))]):=
 sF (sc:=[(10,.op (.rwB true)),(6,.stay)]) kr (aI (dT (p:=(n:Int)>(0:Int))) tt) (Gets.refl _)
theorem Tz(n0 b:Nat)(xs:List Nat)(n c:Nat)(hb:5≤b∧b<n0)(ht:0<n):
  FT 117 #[.bool true,sl b n c] n0 [(b,cU xs)] (.agg #[.bool true,sl b n c]) [(b,some (cU xs))] []:=
 ff [b] [cU xs] [cU xs] [] [] n0 (sg_t xs n c ht)
theorem sg_z(xs:List Nat)(n c:Nat)(ht:n=0):CT 117 #[bT,(sl 5 n c)] (Ac 6 [(5,(cU xs))]) (.agg #[bF,(sl 5 n c)]) (Ac 7 [(5,(cU xs))]):=
 sF (sc:=[(10,.op (.rwB false)),(6,.stay)]) kr (aI (dF (p:=(n:Int)>(0:Int))) tt) (Gets.refl _)
theorem sg_zc(n0 b:Nat)(xs:List Nat)(n c:Nat)(hb:5≤b∧b<n0)(ht:n=0):
  FT 117 #[.bool true,sl b n c] n0 [(b,cU xs)] (.agg #[.bool false,sl b n c]) [(b,some (cU xs))] []:=
 ff [b] [cU xs] [cU xs] [] [] n0 (sg_z xs n c ht)
theorem op_t:CT 188 #[bF] (Ac 5 []) bT (Ac 5 []):=
 sF (sc:=[(11,.stay)]) kr tt (Gets.refl _)
theorem op_tc(n0:Nat)(hG:5≤n0):FT 188 #[bF] n0 [] bT [] []:=
 Dy n0 (op_t) hG
theorem wi_ff:CT 118 #[bF,bF] (Ac 5 []) bF (Ac 5 []):=
 sF (sc:=[(12,.stay)]) kr tt (Gets.refl _)
theorem wi_ffc(n0:Nat)(hG:5≤n0):FT 118 #[bF,bF] n0 [] bF [] []:=
 Dy n0 (wi_ff) hG
theorem wi_ft:CT 118 #[bF,bT] (Ac 5 []) bT (Ac 5 []):=
 sF (sc:=[(12,.stay)]) kr tt (Gets.refl _)
theorem wi_ftc(n0:Nat)(hG:5≤n0):FT 118 #[bF,bT] n0 [] bT [] []:=
 Dy n0 (wi_ft) hG
theorem wi_tf:CT 118 #[bT,bF] (Ac 5 []) bT (Ac 5 []):=
 sF (sc:=[(12,.stay)]) kr tt (Gets.refl _)
theorem wi_tfc(n0:Nat)(hG:5≤n0):FT 118 #[bT,bF] n0 [] bT [] []:=
 Dy n0 (wi_tf) hG
theorem wi_tt:CT 118 #[bT,bT] (Ac 5 []) bF (Ac 5 []):=
 sF (sc:=[(12,.stay)]) kr tt (Gets.refl _)
theorem wi_ttc(n0:Nat)(hG:5≤n0):FT 118 #[bT,bT] n0 [] bF [] []:=
 Dy n0 (wi_tt) hG
theorem ng_f(xs:List Nat)(n c:Nat)(ht:0<n):CT 150 #[(.agg #[bF,(sl 5 n c)])] (Ac 6 [(5,(cU xs))]) (.agg #[bT,(sl 5 n c)]) (Ac 8 [(5,(cU xs))]):=
 sF (sc:=[(6,.drwM [] [⟨2,[],bT,[],[]⟩,⟨5,[5],(.agg #[bT,(sl 5 n c)]),[(5,some (cU xs))],[]⟩]),(1,.stay)]) kr (aI (aI tt (aI tt (aI tt (aI tt (aI (op_tc 8 om) (aI (Tz 8 5 xs n c om ht) (aI tt tt))))))) tt) (Gets.refl _)
theorem ng_fc(n0 b:Nat)(xs:List Nat)(n c:Nat)(hb:5≤b∧b<n0)(ht:0<n):
  FT 150 #[.agg #[.bool false,sl b n c]] n0 [(b,cU xs)] (.agg #[.bool true,sl b n c]) [(b,some (cU xs))] []:=
 ff [b] [cU xs] [cU xs] [] [] n0 (ng_f xs n c ht)
end Go.Proofs.YtjbflfbhfnkmlaaGreatDoor
