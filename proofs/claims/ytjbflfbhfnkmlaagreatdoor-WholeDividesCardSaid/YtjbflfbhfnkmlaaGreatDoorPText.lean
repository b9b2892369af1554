import Derived.Test.YtjbflfbhfnkmlaaGreatDoorAppU
import Derived.Test.YtjbflfbhfnkmlaaGreatDoorK
import Derived.Test.YtjbflfbhfnkmlaaGreatDoorPTrim
import Derived.Test.YtjbflfbhfnkmlaaGreatDoorLE
set_option linter.unusedVariables false
set_option linter.unusedSimpArgs false
set_option maxRecDepth 100000
namespace Go.Proofs.YtjbflfbhfnkmlaaGreatDoor
open Go Go.AE Seg
noncomputable section
abbrev z_9df_0(bs:List Nat)(a r:Nat):AObj:=.cells (ns .u8 ((((((((((bs++[48+a/100000000%10])++[48+a/10000000%10])++[48+a/1000000%10])++[48+a/100000%10])++[48+a/10000%10])++[48+a/1000%10])++[48+a/100%10])++[48+a/10%10])++[48+a/1%10])++List.replicate (r-9) 0)) 5 none false
abbrev z_9df_1(a n:Nat):AObj:=.cells (ns .u8 ((Ae a).map (48+ ·)++List.replicate ((n*9)-(Ae a).length) 0)) 5 none false
abbrev z_9df_2:List Value:=[undef,undef,undef,undef,undef,undef,undef,undef,undef,undef,undef,undef,undef,undef,undef,undef,undef,undef,undef,undef,undef]
end
theorem tx_z(xs:List Nat)(n c:Nat)(hn:n=0):CT 149 #[(sl 5 n c)] (Ac 6 [(1,gob1),(5,(cU xs))]) (.string (bts [48])) (Ac 6 [(1,gob1),(5,(cU xs))]):=
 sF (sc:=[(9,.op (.rwB true)),(7,.stay)]) kr (aI (eT (a:=(n:Int)) (b:=(0:Int))) tt) (Gets.refl _)
noncomputable def tx_h_f(xs ws:List Nat)(n c l:Nat)(i:Int)(jc:List Value)(j:List Value):Frame:=(Fr 149 ([(sl 5 n c),uu,(J jc 0),(sl 6 l (n*9)),(.int .i64 i),(J j 0),(J jc 1),(J jc 2),bF,(J jc 3),(J jc 4),(J jc 5),(J jc 6),(J jc 7),(J jc 8),(J jc 9),(J jc 10),(J jc 11),(J jc 12),(J jc 13),(J jc 14),(J jc 15),(J jc 16),(J jc 17),(J jc 18)]++(jj j 1 20 [uu,uu])) [.code (cd Tryz.f149 [1,1,1,1,0,1,0,0]),.inLoop (cd Tryz.f149 [1,1,1,1,0,1,0,0]),.inBlock 0,.code (cd Tryz.f149 [1,1,1,1,1])])
noncomputable def tx_h_o(xs ws:List Nat)(n c l:Nat)(i:Int)(jc:List Value):List (Nat×AObj):=[(1,gob1),(5,(cU xs)),(6,(.cells (ns .u8 ws) 5 none false))]
noncomputable def tx_h(xs ws:List Nat)(n c l:Nat)(i:Int)(jc:List Value)(j:List Value):AS:=⟨tx_h_f xs ws n c l i jc j,[],Ac 16 (tx_h_o xs ws n c l i jc)⟩
theorem tx_in{s0:AS}(hs0:s0.h.next=6)(xs:List Nat)(n c a:Nat)(hn:0<n)(hc:n≤xs.length)(hm:n<1099511627776)(ha:a<1000000000)(hx:(ns .u32 xs)[n-1]? =some (nW a))(hr:GT s0 (Ca 149 #[(sl 5 n c)] 6 [(1,gob1),(5,(cU xs))])):GT s0 (tx_h xs ((Ae a).map (48+ ·)++List.replicate ((n*9)-(Ae a).length) 0) n c ((Ae a).length) ((n:Int)-2) ([(.string (bts [])),(sl 5 n c),(nI n),(sl 5 n c),(nI n),(nI (n*9)),(sl 6 0 (n*9)),(sl 6 0 (n*9)),(sl 5 n c),(sl 5 n c),(nI n),(nI (n-1)),(pp 5 (n-1)),(nW a),(nU a),(sl 6 ((Ae a).length) (n*9)),(sl 5 n c),(nI n),(.int .i64 ((n:Int)-2))]) z_9df_2):=by
 have h1:=hr.trans (sR (sc:=[(9,.op (.rwB false)),(7,.op (.rwI (((n*9):Nat):Int))),(0,.op (.mks 0 (n*9) (ns .u8 (List.replicate (n*9) 0)))),(8,.op (.rwI (((n-1):Nat):Int))),(0,.op (.idx (n-1))),(0,.op (.ld (nW a))),(0,.op (.rwI (a:Int))),(10,.call [1,6] (sl 6 ((Ae a).length) (n*9)) [(1,some gob1),(6,some (z_9df_1 a n))] []),(11,.op (.rwI ((n:Int)-2))),(4,.stay)]) (fr1:=(Fr 149 ([(sl 5 n c),uu,(.string (bts [])),(sl 6 ((Ae a).length) (n*9)),(.int .i64 ((n:Int)-2)),uu,(sl 5 n c),(nI n),bF,(sl 5 n c),(nI n),(nI (n*9)),(sl 6 0 (n*9)),(sl 6 0 (n*9)),(sl 5 n c),(sl 5 n c),(nI n),(nI (n-1)),(pp 5 (n-1)),(nW a),(nU a),(sl 6 ((Ae a).length) (n*9)),(sl 5 n c),(nI n),(.int .i64 ((n:Int)-2))]++(uj 22 [])) [.code (cd Tryz.f149 [1,1,1,1,0,1,0,0]),.inLoop (cd Tryz.f149 [1,1,1,1,0,1,0,0]),.inBlock 0,.code (cd Tryz.f149 [1,1,1,1,1])])) (next:=7) (l:=[(1,gob1),(5,(cU xs)),(6,(z_9df_1 a n))]) kr (aI (eF (a:=(n:Int)) (b:=(0:Int))) (aI (Am (a:=((n:Int)*(9:Int))) (r:=(((n*9):Nat):Int))) (aI (show (0≤(0:Int)∧(0:Int)≤(((n*9):Nat):Int)∧((1:Nat):Int)*(((n*9):Nat):Int)≤281474976710656∧(((n*9):Nat):Int)≤9223372036854775807)∧As (ns .u8 (List.replicate (n*9) 0))=true∧(madeCells (Value.cells (.int .u8 (.ofNat 0))) (Int.toNat (((n*9):Nat):Int)*1)).toList=(ns .u8 (List.replicate (n*9) 0))∧Int.toNat (0:Int)=0∧Int.toNat (((n*9):Nat):Int)=(n*9) from (by refine⟨⟨?_,?_,?_,?_⟩,Af _ _,Tt _ _ _,?_,?_⟩<;>omega)) (aI (Am (a:=((n:Int)-(1:Int))) (r:=(((n-1):Nat):Int))) (aI (ix (((n-1):Nat):Int) (n:Int) 0 1 (n-1)) (aI hx (aI (He (a:=(a:Int)) (r:=(a:Int))) (aI (au_c 7 6 a (n*9) om om om om) (aI (Am (a:=((n:Int)-(2:Int))) (r:=((n:Int)-2))) tt))))))))))
 exact Dd (b:=7) (k:=0) h1 kr rfl rfl rfl kr (by rw[hs0];decide) (by rw[hs0];decide) de de (by simp[tx_h_o,show ∀c e o r,Bj (.cells c e o r)=As c from fun _ _ _ _=>rfl,show ∀a b,Bj (.iter a b)=true from fun _ _=>rfl,Af,Gk]) kr
theorem tx_r{s0:AS}(hs0:s0.h.next=6)(xs bs:List Nat)(n c l r i a:Nat)(jc j:List Value)(hjc:Cm (Ak 7 9) jc)(hl:l=bs.length)(hr:9≤r)(hlr:l+r≤n*9)(hi:i<n)(hc:n≤xs.length)(hm:n<1099511627776)(ha:a<1000000000)(hx:(ns .u32 xs)[i]? =some (nW a))(hr:GT s0 (tx_h xs (bs++List.replicate r 0) n c l (i:Int) jc j)):GT s0 (tx_h xs ((((((((((bs++[48+a/100000000%10])++[48+a/10000000%10])++[48+a/1000000%10])++[48+a/100000%10])++[48+a/10000%10])++[48+a/1000%10])++[48+a/100%10])++[48+a/10%10])++[48+a/1%10])++List.replicate (r-9) 0) n c (l+9) ((i:Int)-1) ([(J jc 0),(J jc 1),(J jc 2),(J jc 3),(J jc 4),(J jc 5),(J jc 6),(J jc 7),(J jc 8),(J jc 9),(J jc 10),(J jc 11),(J jc 12),(J jc 13),(J jc 14),(J jc 15),(J jc 16),(J jc 17),(J jc 18)]) [(lW 0),(nI i),bT,(nI i),(.int .i64 ((i:Int)-1)),(lW 0),bF,(lW 1),(lW 0),(sl 6 (l+8) (n*9)),(sl 5 n c),(nI i),(pp 5 i),(nW a),(lW 1),(nW (a/1)),(nW ((a/1)%10)),(nW (48+((a/1)%10))),(nB (48+((a/1)%10))),(sl 15 1 1),(sl 6 (l+9) (n*9))]):=by
 have h1:=hr.trans (sR (sc:=[(4,.op (.rwB true)),(25,.op (.idx i)),(0,.op (.ld (nW a))),(1,.op (.rwI (((a/100000000):Nat):Int))),(0,.op (.rwI ((((a/100000000)%10):Nat):Int))),(0,.op (.rwI (((48+((a/100000000)%10)):Nat):Int))),(0,.op (.rwI (((48+((a/100000000)%10)):Nat):Int))),(1,.op (.appI (l+1) (ns .u8 ((bs++[48+a/100000000%10])++List.replicate (r-1) 0)))),(23,.op (.idx i)),(0,.op (.ld (nW a))),(1,.op (.rwI (((a/10000000):Nat):Int))),(0,.op (.rwI ((((a/10000000)%10):Nat):Int))),(0,.op (.rwI (((48+((a/10000000)%10)):Nat):Int))),(0,.op (.rwI (((48+((a/10000000)%10)):Nat):Int))),(1,.op (.appI (l+2) (ns .u8 (((bs++[48+a/100000000%10])++[48+a/10000000%10])++List.replicate (r-2) 0)))),(23,.op (.idx i)),(0,.op (.ld (nW a))),(1,.op (.rwI (((a/1000000):Nat):Int))),(0,.op (.rwI ((((a/1000000)%10):Nat):Int))),(0,.op (.rwI (((48+((a/1000000)%10)):Nat):Int))),(0,.op (.rwI (((48+((a/1000000)%10)):Nat):Int))),(1,.op (.appI (l+3) (ns .u8 ((((bs++[48+a/100000000%10])++[48+a/10000000%10])++[48+a/1000000%10])++List.replicate (r-3) 0)))),(23,.op (.idx i)),(0,.op (.ld (nW a))),(1,.op (.rwI (((a/100000):Nat):Int))),(0,.op (.rwI ((((a/100000)%10):Nat):Int))),(0,.op (.rwI (((48+((a/100000)%10)):Nat):Int))),(0,.op (.rwI (((48+((a/100000)%10)):Nat):Int))),(1,.op (.appI (l+4) (ns .u8 (((((bs++[48+a/100000000%10])++[48+a/10000000%10])++[48+a/1000000%10])++[48+a/100000%10])++List.replicate (r-4) 0)))),(23,.op (.idx i)),(0,.op (.ld (nW a))),(1,.op (.rwI (((a/10000):Nat):Int))),(0,.op (.rwI ((((a/10000)%10):Nat):Int))),(0,.op (.rwI (((48+((a/10000)%10)):Nat):Int))),(0,.op (.rwI (((48+((a/10000)%10)):Nat):Int))),(1,.op (.appI (l+5) (ns .u8 ((((((bs++[48+a/100000000%10])++[48+a/10000000%10])++[48+a/1000000%10])++[48+a/100000%10])++[48+a/10000%10])++List.replicate (r-5) 0)))),(23,.op (.idx i)),(0,.op (.ld (nW a))),(1,.op (.rwI (((a/1000):Nat):Int))),(0,.op (.rwI ((((a/1000)%10):Nat):Int))),(0,.op (.rwI (((48+((a/1000)%10)):Nat):Int))),(0,.op (.rwI (((48+((a/1000)%10)):Nat):Int))),(1,.op (.appI (l+6) (ns .u8 (((((((bs++[48+a/100000000%10])++[48+a/10000000%10])++[48+a/1000000%10])++[48+a/100000%10])++[48+a/10000%10])++[48+a/1000%10])++List.replicate (r-6) 0)))),(23,.op (.idx i)),(0,.op (.ld (nW a))),(1,.op (.rwI (((a/100):Nat):Int))),(0,.op (.rwI ((((a/100)%10):Nat):Int))),(0,.op (.rwI (((48+((a/100)%10)):Nat):Int))),(0,.op (.rwI (((48+((a/100)%10)):Nat):Int))),(1,.op (.appI (l+7) (ns .u8 ((((((((bs++[48+a/100000000%10])++[48+a/10000000%10])++[48+a/1000000%10])++[48+a/100000%10])++[48+a/10000%10])++[48+a/1000%10])++[48+a/100%10])++List.replicate (r-7) 0)))),(23,.op (.idx i)),(0,.op (.ld (nW a))),(1,.op (.rwI (((a/10):Nat):Int))),(0,.op (.rwI ((((a/10)%10):Nat):Int))),(0,.op (.rwI (((48+((a/10)%10)):Nat):Int))),(0,.op (.rwI (((48+((a/10)%10)):Nat):Int))),(1,.op (.appI (l+8) (ns .u8 (((((((((bs++[48+a/100000000%10])++[48+a/10000000%10])++[48+a/1000000%10])++[48+a/100000%10])++[48+a/10000%10])++[48+a/1000%10])++[48+a/100%10])++[48+a/10%10])++List.replicate (r-8) 0)))),(23,.op (.idx i)),(0,.op (.ld (nW a))),(1,.op (.rwI (((a/1):Nat):Int))),(0,.op (.rwI ((((a/1)%10):Nat):Int))),(0,.op (.rwI (((48+((a/1)%10)):Nat):Int))),(0,.op (.rwI (((48+((a/1)%10)):Nat):Int))),(1,.op (.appI (l+9) (ns .u8 ((((((((((bs++[48+a/100000000%10])++[48+a/10000000%10])++[48+a/1000000%10])++[48+a/100000%10])++[48+a/10000%10])++[48+a/1000%10])++[48+a/100%10])++[48+a/10%10])++[48+a/1%10])++List.replicate (r-9) 0)))),(20,.op (.rwI ((i:Int)-1))),(3,.stay)]) (fr1:=(Fr 149 [(sl 5 n c),uu,(J jc 0),(sl 6 (l+9) (n*9)),(.int .i64 ((i:Int)-1)),(lW 0),(J jc 1),(J jc 2),bF,(J jc 3),(J jc 4),(J jc 5),(J jc 6),(J jc 7),(J jc 8),(J jc 9),(J jc 10),(J jc 11),(J jc 12),(J jc 13),(J jc 14),(J jc 15),(J jc 16),(J jc 17),(J jc 18),(nI i),bT,(nI i),(.int .i64 ((i:Int)-1)),(lW 0),bF,(lW 1),(lW 0),(sl 6 (l+8) (n*9)),(sl 5 n c),(nI i),(pp 5 i),(nW a),(lW 1),(nW (a/1)),(nW ((a/1)%10)),(nW (48+((a/1)%10))),(nB (48+((a/1)%10))),(sl 24 1 1),(sl 6 (l+9) (n*9)),uu,uu] [.code (cd Tryz.f149 [1,1,1,1,0,1,0,0]),.inLoop (cd Tryz.f149 [1,1,1,1,0,1,0,0]),.inBlock 0,.code (cd Tryz.f149 [1,1,1,1,1])])) (next:=25) (l:=[(1,gob1),(5,(cU xs)),(6,(z_9df_0 bs a r))]) kr (aI (dT (p:=(i:Int)≥(0:Int))) (aI (ix (i:Int) (n:Int) 0 1 i) (aI hx (aI (show IntKind.wrap .u32 (Int.tdiv (a:Int) (100000000:Int))=(((a/100000000):Nat):Int) from (by rw[Int.tdiv_eq_ediv_of_nonneg om,Bk om om]<;>omega)) (aI (show (Int.tmod (((a/100000000):Nat):Int) (10:Int))=((((a/100000000)%10):Nat):Int) from (by rw[Int.tmod_eq_emod_of_nonneg om]<;>omega)) (aI (Br (a:=((48:Int)+((((a/100000000)%10):Nat):Int))) (r:=(((48+((a/100000000)%10)):Nat):Int))) (aI (wU8 (a:=(((48+((a/100000000)%10)):Nat):Int)) (r:=(((48+((a/100000000)%10)):Nat):Int))) (aI (show l+1=(l+1)∧(l+1)*1≤140737488355328∧(l+1)≤(n*9)∧(n*9)≤9223372036854775807∧0+l*1+1≤(ns .u8 (bs++List.replicate r 0)).length∧Bq (ns .u8 (bs++List.replicate r 0)) (0+l*1) [(nB (48+((a/100000000)%10)))]=(ns .u8 ((bs++[48+a/100000000%10])++List.replicate (r-1) 0)) from (Kz om om om om)) (aI (ix (i:Int) (n:Int) 0 1 i) (aI hx (aI (show IntKind.wrap .u32 (Int.tdiv (a:Int) (10000000:Int))=(((a/10000000):Nat):Int) from (by rw[Int.tdiv_eq_ediv_of_nonneg om,Bk om om]<;>omega)) (aI (show (Int.tmod (((a/10000000):Nat):Int) (10:Int))=((((a/10000000)%10):Nat):Int) from (by rw[Int.tmod_eq_emod_of_nonneg om]<;>omega)) (aI (Br (a:=((48:Int)+((((a/10000000)%10):Nat):Int))) (r:=(((48+((a/10000000)%10)):Nat):Int))) (aI (wU8 (a:=(((48+((a/10000000)%10)):Nat):Int)) (r:=(((48+((a/10000000)%10)):Nat):Int))) (aI (show (l+1)+1=(l+2)∧(l+2)*1≤140737488355328∧(l+2)≤(n*9)∧(n*9)≤9223372036854775807∧0+(l+1)*1+1≤(ns .u8 ((bs++[48+a/100000000%10])++List.replicate (r-1) 0)).length∧Bq (ns .u8 ((bs++[48+a/100000000%10])++List.replicate (r-1) 0)) (0+(l+1)*1) [(nB (48+((a/10000000)%10)))]=(ns .u8 (((bs++[48+a/100000000%10])++[48+a/10000000%10])++List.replicate (r-2) 0)) from (Kz (by simp only[List.length_append,List.length_cons,List.length_nil];omega) om om om)) (aI (ix (i:Int) (n:Int) 0 1 i) (aI hx (aI (show IntKind.wrap .u32 (Int.tdiv (a:Int) (1000000:Int))=(((a/1000000):Nat):Int) from (by rw[Int.tdiv_eq_ediv_of_nonneg om,Bk om om]<;>omega)) (aI (show (Int.tmod (((a/1000000):Nat):Int) (10:Int))=((((a/1000000)%10):Nat):Int) from (by rw[Int.tmod_eq_emod_of_nonneg om]<;>omega)) (aI (Br (a:=((48:Int)+((((a/1000000)%10):Nat):Int))) (r:=(((48+((a/1000000)%10)):Nat):Int))) (aI (wU8 (a:=(((48+((a/1000000)%10)):Nat):Int)) (r:=(((48+((a/1000000)%10)):Nat):Int))) (aI (show (l+2)+1=(l+3)∧(l+3)*1≤140737488355328∧(l+3)≤(n*9)∧(n*9)≤9223372036854775807∧0+(l+2)*1+1≤(ns .u8 (((bs++[48+a/100000000%10])++[48+a/10000000%10])++List.replicate (r-2) 0)).length∧Bq (ns .u8 (((bs++[48+a/100000000%10])++[48+a/10000000%10])++List.replicate (r-2) 0)) (0+(l+2)*1) [(nB (48+((a/1000000)%10)))]=(ns .u8 ((((bs++[48+a/100000000%10])++[48+a/10000000%10])++[48+a/1000000%10])++List.replicate (r-3) 0)) from (Kz (by simp only[List.length_append,List.length_cons,List.length_nil];omega) om om om)) (aI (ix (i:Int) (n:Int) 0 1 i) (aI hx (aI (show IntKind.wrap .u32 (Int.tdiv (a:Int) (100000:Int))=(((a/100000):Nat):Int) from (by rw[Int.tdiv_eq_ediv_of_nonneg om,Bk om om]<;>omega)) (aI (show (Int.tmod (((a/100000):Nat):Int) (10:Int))=((((a/100000)%10):Nat):Int) from (by rw[Int.tmod_eq_emod_of_nonneg om]<;>omega)) (aI (Br (a:=((48:Int)+((((a/100000)%10):Nat):Int))) (r:=(((48+((a/100000)%10)):Nat):Int))) (aI (wU8 (a:=(((48+((a/100000)%10)):Nat):Int)) (r:=(((48+((a/100000)%10)):Nat):Int))) (aI (show (l+3)+1=(l+4)∧(l+4)*1≤140737488355328∧(l+4)≤(n*9)∧(n*9)≤9223372036854775807∧0+(l+3)*1+1≤(ns .u8 ((((bs++[48+a/100000000%10])++[48+a/10000000%10])++[48+a/1000000%10])++List.replicate (r-3) 0)).length∧Bq (ns .u8 ((((bs++[48+a/100000000%10])++[48+a/10000000%10])++[48+a/1000000%10])++List.replicate (r-3) 0)) (0+(l+3)*1) [(nB (48+((a/100000)%10)))]=(ns .u8 (((((bs++[48+a/100000000%10])++[48+a/10000000%10])++[48+a/1000000%10])++[48+a/100000%10])++List.replicate (r-4) 0)) from (Kz (by simp only[List.length_append,List.length_cons,List.length_nil];omega) om om om)) (aI (ix (i:Int) (n:Int) 0 1 i) (aI hx (aI (show IntKind.wrap .u32 (Int.tdiv (a:Int) (10000:Int))=(((a/10000):Nat):Int) from (by rw[Int.tdiv_eq_ediv_of_nonneg om,Bk om om]<;>omega)) (aI (show (Int.tmod (((a/10000):Nat):Int) (10:Int))=((((a/10000)%10):Nat):Int) from (by rw[Int.tmod_eq_emod_of_nonneg om]<;>omega)) (aI (Br (a:=((48:Int)+((((a/10000)%10):Nat):Int))) (r:=(((48+((a/10000)%10)):Nat):Int))) (aI (wU8 (a:=(((48+((a/10000)%10)):Nat):Int)) (r:=(((48+((a/10000)%10)):Nat):Int))) (aI (show (l+4)+1=(l+5)∧(l+5)*1≤140737488355328∧(l+5)≤(n*9)∧(n*9)≤9223372036854775807∧0+(l+4)*1+1≤(ns .u8 (((((bs++[48+a/100000000%10])++[48+a/10000000%10])++[48+a/1000000%10])++[48+a/100000%10])++List.replicate (r-4) 0)).length∧Bq (ns .u8 (((((bs++[48+a/100000000%10])++[48+a/10000000%10])++[48+a/1000000%10])++[48+a/100000%10])++List.replicate (r-4) 0)) (0+(l+4)*1) [(nB (48+((a/10000)%10)))]=(ns .u8 ((((((bs++[48+a/100000000%10])++[48+a/10000000%10])++[48+a/1000000%10])++[48+a/100000%10])++[48+a/10000%10])++List.replicate (r-5) 0)) from (Kz (by simp only[List.length_append,List.length_cons,List.length_nil];omega) om om om)) (aI (ix (i:Int) (n:Int) 0 1 i) (aI hx (aI (show IntKind.wrap .u32 (Int.tdiv (a:Int) (1000:Int))=(((a/1000):Nat):Int) from (by rw[Int.tdiv_eq_ediv_of_nonneg om,Bk om om]<;>omega)) (aI (show (Int.tmod (((a/1000):Nat):Int) (10:Int))=((((a/1000)%10):Nat):Int) from (by rw[Int.tmod_eq_emod_of_nonneg om]<;>omega)) (aI (Br (a:=((48:Int)+((((a/1000)%10):Nat):Int))) (r:=(((48+((a/1000)%10)):Nat):Int))) (aI (wU8 (a:=(((48+((a/1000)%10)):Nat):Int)) (r:=(((48+((a/1000)%10)):Nat):Int))) (aI (show (l+5)+1=(l+6)∧(l+6)*1≤140737488355328∧(l+6)≤(n*9)∧(n*9)≤9223372036854775807∧0+(l+5)*1+1≤(ns .u8 ((((((bs++[48+a/100000000%10])++[48+a/10000000%10])++[48+a/1000000%10])++[48+a/100000%10])++[48+a/10000%10])++List.replicate (r-5) 0)).length∧Bq (ns .u8 ((((((bs++[48+a/100000000%10])++[48+a/10000000%10])++[48+a/1000000%10])++[48+a/100000%10])++[48+a/10000%10])++List.replicate (r-5) 0)) (0+(l+5)*1) [(nB (48+((a/1000)%10)))]=(ns .u8 (((((((bs++[48+a/100000000%10])++[48+a/10000000%10])++[48+a/1000000%10])++[48+a/100000%10])++[48+a/10000%10])++[48+a/1000%10])++List.replicate (r-6) 0)) from (Kz (by simp only[List.length_append,List.length_cons,List.length_nil];omega) om om om)) (aI (ix (i:Int) (n:Int) 0 1 i) (aI hx (aI (show IntKind.wrap .u32 (Int.tdiv (a:Int) (100:Int))=(((a/100):Nat):Int) from (by rw[Int.tdiv_eq_ediv_of_nonneg om,Bk om om]<;>omega)) (aI (show (Int.tmod (((a/100):Nat):Int) (10:Int))=((((a/100)%10):Nat):Int) from (by rw[Int.tmod_eq_emod_of_nonneg om]<;>omega)) (aI (Br (a:=((48:Int)+((((a/100)%10):Nat):Int))) (r:=(((48+((a/100)%10)):Nat):Int))) (aI (wU8 (a:=(((48+((a/100)%10)):Nat):Int)) (r:=(((48+((a/100)%10)):Nat):Int))) (aI (show (l+6)+1=(l+7)∧(l+7)*1≤140737488355328∧(l+7)≤(n*9)∧(n*9)≤9223372036854775807∧0+(l+6)*1+1≤(ns .u8 (((((((bs++[48+a/100000000%10])++[48+a/10000000%10])++[48+a/1000000%10])++[48+a/100000%10])++[48+a/10000%10])++[48+a/1000%10])++List.replicate (r-6) 0)).length∧Bq (ns .u8 (((((((bs++[48+a/100000000%10])++[48+a/10000000%10])++[48+a/1000000%10])++[48+a/100000%10])++[48+a/10000%10])++[48+a/1000%10])++List.replicate (r-6) 0)) (0+(l+6)*1) [(nB (48+((a/100)%10)))]=(ns .u8 ((((((((bs++[48+a/100000000%10])++[48+a/10000000%10])++[48+a/1000000%10])++[48+a/100000%10])++[48+a/10000%10])++[48+a/1000%10])++[48+a/100%10])++List.replicate (r-7) 0)) from (Kz (by simp only[List.length_append,List.length_cons,List.length_nil];omega) om om om)) (aI (ix (i:Int) (n:Int) 0 1 i) (aI hx (aI (show IntKind.wrap .u32 (Int.tdiv (a:Int) (10:Int))=(((a/10):Nat):Int) from (by rw[Int.tdiv_eq_ediv_of_nonneg om,Bk om om]<;>omega)) (aI (show (Int.tmod (((a/10):Nat):Int) (10:Int))=((((a/10)%10):Nat):Int) from (by rw[Int.tmod_eq_emod_of_nonneg om]<;>omega)) (aI (Br (a:=((48:Int)+((((a/10)%10):Nat):Int))) (r:=(((48+((a/10)%10)):Nat):Int))) (aI (wU8 (a:=(((48+((a/10)%10)):Nat):Int)) (r:=(((48+((a/10)%10)):Nat):Int))) (aI (show (l+7)+1=(l+8)∧(l+8)*1≤140737488355328∧(l+8)≤(n*9)∧(n*9)≤9223372036854775807∧0+(l+7)*1+1≤(ns .u8 ((((((((bs++[48+a/100000000%10])++[48+a/10000000%10])++[48+a/1000000%10])++[48+a/100000%10])++[48+a/10000%10])++[48+a/1000%10])++[48+a/100%10])++List.replicate (r-7) 0)).length∧Bq (ns .u8 ((((((((bs++[48+a/100000000%10])++[48+a/10000000%10])++[48+a/1000000%10])++[48+a/100000%10])++[48+a/10000%10])++[48+a/1000%10])++[48+a/100%10])++List.replicate (r-7) 0)) (0+(l+7)*1) [(nB (48+((a/10)%10)))]=(ns .u8 (((((((((bs++[48+a/100000000%10])++[48+a/10000000%10])++[48+a/1000000%10])++[48+a/100000%10])++[48+a/10000%10])++[48+a/1000%10])++[48+a/100%10])++[48+a/10%10])++List.replicate (r-8) 0)) from (Kz (by simp only[List.length_append,List.length_cons,List.length_nil];omega) om om om)) (aI (ix (i:Int) (n:Int) 0 1 i) (aI hx (aI (show IntKind.wrap .u32 (Int.tdiv (a:Int) (1:Int))=(((a/1):Nat):Int) from (by rw[Int.tdiv_eq_ediv_of_nonneg om,Bk om om]<;>omega)) (aI (show (Int.tmod (((a/1):Nat):Int) (10:Int))=((((a/1)%10):Nat):Int) from (by rw[Int.tmod_eq_emod_of_nonneg om]<;>omega)) (aI (Br (a:=((48:Int)+((((a/1)%10):Nat):Int))) (r:=(((48+((a/1)%10)):Nat):Int))) (aI (wU8 (a:=(((48+((a/1)%10)):Nat):Int)) (r:=(((48+((a/1)%10)):Nat):Int))) (aI (show (l+8)+1=(l+9)∧(l+9)*1≤140737488355328∧(l+9)≤(n*9)∧(n*9)≤9223372036854775807∧0+(l+8)*1+1≤(ns .u8 (((((((((bs++[48+a/100000000%10])++[48+a/10000000%10])++[48+a/1000000%10])++[48+a/100000%10])++[48+a/10000%10])++[48+a/1000%10])++[48+a/100%10])++[48+a/10%10])++List.replicate (r-8) 0)).length∧Bq (ns .u8 (((((((((bs++[48+a/100000000%10])++[48+a/10000000%10])++[48+a/1000000%10])++[48+a/100000%10])++[48+a/10000%10])++[48+a/1000%10])++[48+a/100%10])++[48+a/10%10])++List.replicate (r-8) 0)) (0+(l+8)*1) [(nB (48+((a/1)%10)))]=(ns .u8 ((((((((((bs++[48+a/100000000%10])++[48+a/10000000%10])++[48+a/1000000%10])++[48+a/100000%10])++[48+a/10000%10])++[48+a/1000%10])++[48+a/100%10])++[48+a/10%10])++[48+a/1%10])++List.replicate (r-9) 0)) from (Kz (by simp only[List.length_append,List.length_cons,List.length_nil];omega) om om om)) (aI (Am (a:=((i:Int)-(1:Int))) (r:=((i:Int)-1))) tt))))))))))))))))))))))))))))))))))))))))))))))))))))))))))))))))))
 rw[←Ap (Ak 7 9) hjc 0]at h1
 rw[←Ap (Ak 7 9) hjc 1]at h1
 rw[←Ap (Ak 7 9) hjc 10]at h1
 rw[←Ap (Ak 7 9) hjc 11]at h1
 rw[←Ap (Ak 7 9) hjc 12]at h1
 rw[←Ap (Ak 7 9) hjc 13]at h1
 rw[←Ap (Ak 7 9) hjc 14]at h1
 rw[←Ap (Ak 7 9) hjc 15]at h1
 rw[←Ap (Ak 7 9) hjc 16]at h1
 rw[←Ap (Ak 7 9) hjc 17]at h1
 rw[←Ap (Ak 7 9) hjc 18]at h1
 rw[←Ap (Ak 7 9) hjc 2]at h1
 rw[←Ap (Ak 7 9) hjc 3]at h1
 rw[←Ap (Ak 7 9) hjc 4]at h1
 rw[←Ap (Ak 7 9) hjc 5]at h1
 rw[←Ap (Ak 7 9) hjc 6]at h1
 rw[←Ap (Ak 7 9) hjc 7]at h1
 rw[←Ap (Ak 7 9) hjc 8]at h1
 rw[←Ap (Ak 7 9) hjc 9]at h1
 exact Dd (b:=7) (k:=9) h1 kr rfl rfl rfl kr (by rw[hs0];decide) (by rw[hs0];decide) de de (by simp[tx_h_o,show ∀c e o r,Bj (.cells c e o r)=As c from fun _ _ _ _=>rfl,show ∀a b,Bj (.iter a b)=true from fun _ _=>rfl,Af,Gk]) kr
theorem tx_o(xs bs:List Nat)(n c l r:Nat)(i:Int)(jc j:List Value)(hi:i<0)(hl:l=bs.length)(hr:GT (Ca 149 #[(sl 5 n c)] 6 [(1,gob1),(5,(cU xs))]) (tx_h xs (bs++List.replicate r 0) n c l i jc j)):CT 149 #[(sl 5 n c)] (Ac 6 [(1,gob1),(5,(cU xs))]) (.string (bstr bs)) (Ac 16 [(1,gob1),(5,(cU xs))]):=
 sF (sc:=[(4,.op (.rwB false)),(6,.op (.b2s (bstr bs))),(3,.stay)]) kr (aI (dF (p:=i≥(0:Int))) (aI (show 0+l≤(ns .u8 (bs++List.replicate r 0)).length∧(Dk (List.take l (List.drop 0 (ns .u8 (bs++List.replicate r 0))))).map (fun ns=>(⟨(ns.map fun n=>UInt8.ofNat n.toNat).toArray⟩:ByteArray))=some (bstr bs) from (b2s_ns hl)) tt)) hr
theorem tx_loop{xs:List Nat}{n c:Nat}(hlx:Lim xs)(hc:n≤xs.length)(hm:n<1099511627776): ∀(k:Nat) (bs:List Nat) (l r:Nat) (i:Int) (jc j:List Value),i=(k:Int)-1→k<n→
  Cm (Ak 7 9) jc→0<val ((xs.take n).drop k)→bs=(Ae (val ((xs.take n).drop k))).map (48+ ·)→l=bs.length→9*k≤r→l+r≤n*9→
  GT (Ca 149 #[(sl 5 n c)] 6 [(1,gob1),(5,(cU xs))]) (tx_h xs (bs++List.replicate r 0) n c l i jc j)→CT 149 #[(sl 5 n c)] (Ac 6 [(1,gob1),(5,(cU xs))]) (.string (bstr ((Ae (val (xs.take n))).map (48+ ·)))) (Ac 16 [(1,gob1),(5,(cU xs))]):=by
 intro k
 induction k with
 |zero=>
  intro bs l r i jc j hi _ _ _ hb hl _ _ hr
  rw[List.drop_zero]at hb
  rw[←hb]
  exact tx_o xs bs n c l r i jc j om hl hr
 |succ k ih=>
  intro bs l r i jc j hi hk hj hv hb hl h9 hlr hr
  rw[show i=(k:Int) by omega]at hr
  have r1:=tx_r rfl xs bs n c l r k (xs.getD k 0) jc j hj hl om hlr om hc hm (hlx.get k) (Aq) hr
  have hd:=val_drop (l:=xs.take n) (i:=k) (by rw[List.length_take];omega)
  rw[getD_take om]at hd
  refine ih _ _ _ _ _ _ rfl om (by simp[Cm,Qr,Ap _ hj]) om ?_ (by simp only[List.length_append,List.length_cons,List.length_nil];omega) om om r1
  rw[hd,digs_pad9 hv (hlx.get k),List.map_append,←hb]
  simp only[pad9,List.map_cons,List.map_nil,List.append_assoc,List.cons_append,List.nil_append]
theorem tx_c(n0 b:Nat)(xs:List Nat)(n c:Nat)(hb:5≤b∧b<n0)(hlx:Lim xs)(hc:n≤xs.length)(hm:n<1099511627776)(hx:0<n→xs.getD (n-1) 0≠0):
  FT 149 #[sl b n c] n0 [(1,gob1),(b,cU xs)] (.string (Aa (Ae (val (xs.take n)))))
   [(1,some gob1),(b,some (cU xs))] []:=by
 have key: ∃nx,CT 149 #[(sl 5 n c)] (Ac 6 [(1,gob1),(5,(cU xs))]) (.string (Aa (Ae (val (xs.take n))))) (Ac nx [(1,gob1),(5,(cU xs))]):=by
  by_cases hn:n=0
  ·refine⟨6,?_⟩
   rw[show val (xs.take n)=0 by rw[hn];rfl,show Aa (Ae 0)=bts [48] by rw[Cf de];rfl]
   exact tx_z xs n c hn
  ·refine⟨16,?_⟩
   rw[dstr_bstr]
   have hx2:=hx om
   have r1:=tx_in (s0:=(Ca 149 #[(sl 5 n c)] 6 [(1,gob1),(5,(cU xs))])) rfl xs n c (xs.getD (n-1) 0) om hc hm (hlx.get _) (Aq) (Gets.refl _)
   have hd:=val_drop (l:=xs.take n) (i:=n-1) (by rw[List.length_take];omega)
   rw[getD_take om,show n-1+1=n by omega,show (xs.take n).drop n=[] from List.drop_of_length_le (by rw[List.length_take];omega),show val []=0 from rfl]at hd
   have hd2:val ((xs.take n).drop (n-1))=xs.getD (n-1) 0:=by omega
   have hl9:=digs_len9 (n:=xs.getD (n-1) 0) om (hlx.get _)
   exact tx_loop hlx hc hm (n-1) _ _ _ _ _ _ om om (by simp[Cm,Qr,mv,mvA,Ed,Ak,undef]) om (by rw[hd2]) (by rw[List.length_map]) om om r1
 obtain⟨nx,S⟩:=key
 exact Sh [(1,gob1)] [b] [cU xs] [cU xs] [] [] n0 S (by decide+kernel) (by rfl) rfl (by rfl) rfl sm (by simp;omega) om (by simp[Bj,Af]) (by simp[Bj,Af]) rfl sm sm rfl rfl rfl
theorem dg_z(xs:List Nat)(n c:Nat)(hn:n=0):CT 148 #[(sl 5 n c)] (Ac 6 [(5,(cU xs))]) (lI 0) (Ac 6 [(5,(cU xs))]):=
 sF (sc:=[(9,.op (.rwB true)),(7,.stay)]) kr (aI (eT (a:=(n:Int)) (b:=(0:Int))) tt) (Gets.refl _)
noncomputable def dg_h_f(xs:List Nat)(n c u t:Nat)(j:List Value):Frame:=(Fr 148 ([(sl 5 n c),uu,(lI 0),(nI u),(nW t),(J j 0),(J j 1),bF]++(jj j 2 16 [uu])) [.code (cd Tryz.f148 [1,1,1,0,1,0,0]),.inLoop (cd Tryz.f148 [1,1,1,0,1,0,0]),.inBlock 0,.code (cd Tryz.f148 [1,1,1,1])])
noncomputable def dg_h_o(xs:List Nat)(n c u t:Nat):List (Nat×AObj):=[(5,(cU xs))]
noncomputable def dg_h(xs:List Nat)(n c u t:Nat)(j:List Value):AS:=⟨dg_h_f xs n c u t j,[],Ac 6 (dg_h_o xs n c u t)⟩
theorem dg_in(xs:List Nat)(n c a:Nat)(hn:0<n)(hc:n≤xs.length)(hm:n<1099511627776)(hx:(ns .u32 xs)[n-1]? =some (nW a)):GT (Ca 148 #[(sl 5 n c)] 6 [(5,(cU xs))]) (dg_h xs n c ((n-1)*9) a [(sl 5 n c),(nI n),(sl 5 n c),(nI n),(nI (n-1)),(nI ((n-1)*9)),(sl 5 n c),(sl 5 n c),(nI n),(nI (n-1)),(pp 5 (n-1)),(nW a),undef,undef,undef,undef,undef,undef]):=
 sR (sc:=[(9,.op (.rwB false)),(7,.op (.rwI (((n-1):Nat):Int))),(0,.op (.rwI ((((n-1)*9):Nat):Int))),(8,.op (.rwI (((n-1):Nat):Int))),(0,.op (.idx (n-1))),(0,.op (.ld (nW a))),(4,.stay)]) kr (aI (eF (a:=(n:Int)) (b:=(0:Int))) (aI (Am (a:=((n:Int)-(1:Int))) (r:=(((n-1):Nat):Int))) (aI (Am (a:=((((n-1):Nat):Int)*(9:Int))) (r:=((((n-1)*9):Nat):Int))) (aI (Am (a:=((n:Int)-(1:Int))) (r:=(((n-1):Nat):Int))) (aI (ix (((n-1):Nat):Int) (n:Int) 0 1 (n-1)) (aI hx tt))))))
theorem dg_r(xs:List Nat)(n c u t:Nat)(j:List Value)(ht:0<t)(ht2:t<1000000000)(hu:u<70368744177664):GT (dg_h xs n c u t j) (dg_h xs n c (u+1) (t/10) (jj j 0 12 [(nW t),bT,(nW t),(nW (t/10)),(nI u),(nI (u+1))])):=
 sR (sc:=[(4,.op (.rwB true)),(7,.op (.rwI (((u+1):Nat):Int))),(5,.op (.rwI (((t/10):Nat):Int))),(3,.stay)]) kr (aI (dT (p:=(t:Int)>(0:Int))) (aI (Am (a:=((u:Int)+(1:Int))) (r:=(((u+1):Nat):Int))) (aI (show IntKind.wrap .u32 (Int.tdiv (t:Int) (10:Int))=(((t/10):Nat):Int) from (by rw[Int.tdiv_eq_ediv_of_nonneg om,Bk om om]<;>omega)) tt)))
theorem dg_o(xs:List Nat)(n c u t:Nat)(j:List Value)(ht:t=0)(hr:GT (Ca 148 #[(sl 5 n c)] 6 [(5,(cU xs))]) (dg_h xs n c u t j)):CT 148 #[(sl 5 n c)] (Ac 6 [(5,(cU xs))]) (nI u) (Ac 6 [(5,(cU xs))]):=
 sF (sc:=[(4,.op (.rwB false)),(9,.stay)]) kr (aI (dF (p:=(t:Int)>(0:Int))) tt) hr
theorem dg_loop{xs:List Nat}{n c:Nat}: ∀(m t u:Nat) (j:List Value),t≤m→t<1000000000→u+Es t<70368744177664→GT (Ca 148 #[(sl 5 n c)] 6 [(5,(cU xs))]) (dg_h xs n c u t j)→
  CT 148 #[(sl 5 n c)] (Ac 6 [(5,(cU xs))]) (nI (u+Es t)) (Ac 6 [(5,(cU xs))]):=by
 intro m
 induction m with
 |zero=>
  intro t u j hm ht hu hr
  have h0:t=0:=by omega
  subst h0
  rw[ndig_zero,Nat.add_zero]
  exact dg_o xs n c u 0 j rfl hr
 |succ m ih=>
  intro t u j hm ht hu hr
  rcases Nat.eq_zero_or_pos t with h0|h0
  ·subst h0
   rw[ndig_zero,Nat.add_zero]
   exact dg_o xs n c u 0 j rfl hr
  ·rw[Qd h0]at hu ⊢
   have r:=dg_r xs n c u t j h0 ht om
   have:=ih (t/10) (u+1) _ om om om (hr.trans r)
   rw[show u+(Es (t/10)+1)=u+1+Es (t/10) by omega]
   exact this
theorem dg_c(n0 b:Nat)(xs:List Nat)(n c:Nat)(hb:5≤b∧b<n0)(hl:Lim xs)(hc:n≤xs.length)(hm:n<1099511627776):
  FT 148 #[sl b n c] n0 [(b,cU xs)] (nI (digN xs n)) [(b,some (cU xs))] []:=by
 have S:CT 148 #[(sl 5 n c)] (Ac 6 [(5,(cU xs))]) (nI (digN xs n)) (Ac 6 [(5,(cU xs))]):=by
  unfold digN
  by_cases hn:n=0
  ·rw[if_pos hn]
   exact dg_z xs n c hn
  ·rw[if_neg hn]
   have hlt:=hl.get (n-1)
   have h9:=ndig_le hlt
   exact dg_loop _ _ _ _ (Nat.le_refl _) hlt om (dg_in xs n c (xs.getD (n-1) 0) om hc hm (Aq))
 exact ff [b] [cU xs] [cU xs] [] [] n0 S
theorem digit_ne: ∀d,d<10→((Aa [d]).toList==(Seg.bts [45]).toList)=false:=by decide+kernel
theorem mstr_size(ds:List Nat):(Bg ds).size=ds.length+1:=by simp[Bg,ByteArray.size]
theorem mstr_cut(ds:List Nat):(Bg ds).extract 0 1=Seg.bts [45]:=by
 apply ByteArray.ext
 simp only[ByteArray.data_extract,Bg,Seg.bts]
 apply Array.ext'
 rw[Array.toList_extract,List.extract_eq_take_drop]
 simp
theorem mstr_rest(ds:List Nat)(n:Nat)(hn:n=ds.length+1):(Bg ds).extract 1 n=Aa ds:=by
 apply ByteArray.ext
 simp only[ByteArray.data_extract,Bg,Aa]
 apply Array.ext'
 rw[Array.toList_extract,List.extract_eq_take_drop,hn,List.drop_succ_cons,List.drop_zero,Nat.add_sub_cancel]
 exact List.take_of_length_le (by rw[List.length_map];exact Nat.le_refl _)
theorem mstr_cat(ds:List Nat):Seg.bts [45]++Aa ds=Bg ds:=by
 apply ByteArray.ext
 simp[ByteArray.data_append,Bg,Aa,Seg.bts]
theorem dstr_cut{ds:List Nat}(h:0<ds.length):(Aa ds).extract 0 1=Aa [ds.getD 0 0]:=by
 rw[Hz]
 cases ds with
 |nil=>simp at h
 |cons d ds=>rfl
theorem so_p(ds:List Nat)(d:Nat)(hd:d<10)(h0:0<(Aa ds).size)(hx:(Aa ds).extract 0 1=Aa [d]):CT 128 #[(.string (Aa ds))] (Ac 5 []) (.tuple #[bF,(.string (Aa ds))]) (Ac 5 []):=
 sF (sc:=[(40,.op (.rwB true)),(4,.op (.sslc (Aa [d]))),(1,.op (.rwB false)),(37,.stay)]) kr (aI (show decide ((((Aa ds).size:Nat):Int)≥(1:Int))=true from (by rw[decide_eq_true_eq];omega)) (aI (show 0≤(0:Int)∧(0:Int)≤(1:Int)∧(1:Int)≤(((Aa ds).size:Nat):Int)∧(Aa ds).extract (Int.toNat (0:Int)) (Int.toNat (1:Int))=(Aa [d]) from⟨by omega,by omega,by omega,hx⟩) (aI (show ((Aa [d]).toList==(bts [45]).toList)=false from (digit_ne d hd)) tt))) (Gets.refl _)
theorem so_m(ds:List Nat)(hs:(Bg ds).size=ds.length+1):CT 128 #[(.string (Bg ds))] (Ac 5 []) (.tuple #[bT,(.string (Aa ds))]) (Ac 5 []):=
 sF (sc:=[(40,.op (.rwB true)),(4,.op (.sslc (bts [45]))),(1,.op (.rwB true)),(14,.op (.sslc (Aa ds))),(26,.stay)]) kr (aI (show decide ((((Bg ds).size:Nat):Int)≥(1:Int))=true from (by rw[decide_eq_true_eq];omega)) (aI (show 0≤(0:Int)∧(0:Int)≤(1:Int)∧(1:Int)≤(((Bg ds).size:Nat):Int)∧(Bg ds).extract (Int.toNat (0:Int)) (Int.toNat (1:Int))=(bts [45]) from⟨by omega,by omega,by omega,mstr_cut ds⟩) (aI (show ((bts [45]).toList==(bts [45]).toList)=true from (by decide+kernel)) (aI (show 0≤(1:Int)∧(1:Int)≤(((Bg ds).size:Nat):Int)∧(((Bg ds).size:Nat):Int)≤(((Bg ds).size:Nat):Int)∧(Bg ds).extract (Int.toNat (1:Int)) (Int.toNat (((Bg ds).size:Nat):Int))=(Aa ds) from⟨by omega,by omega,by omega,mstr_rest ds _ hs⟩) tt)))) (Gets.refl _)
theorem so_pc(n0:Nat)(ds:List Nat)(hG:5≤n0)(hd:Dig ds)(h0:0<ds.length):FT 128 #[.string (Aa ds)] n0 [] (.tuple #[.bool false,.string (Aa ds)]) [] []:=
 Dy n0 (so_p ds _ (hd.get 0) (by rw[Ad];exact h0) (dstr_cut h0)) hG
theorem so_mc(n0:Nat)(ds:List Nat)(hG:5≤n0):FT 128 #[.string (Bg ds)] n0 [] (.tuple #[.bool true,.string (Aa ds)]) [] []:=
 Dy n0 (so_m ds (mstr_size ds)) hG
theorem nu_p(ds:List Nat)(hd:Dig ds)(h0:0<ds.length)(zs:List Nat)(t:Nat)(hc1:FT 147 #[(.string (Aa ds))] 6 [] (sl 6 t t) [] [(cU zs)]):CT 111 #[(.string (Aa ds))] (Ac 5 []) (.agg #[bF,(sl 6 t t)]) (Ac 8 [(6,(cU zs))]):=
 sF (sc:=[(7,.call [] (.tuple #[bF,(.string (Aa ds))]) [] []),(10,.call [] (sl 6 t t) [] [(cU zs)]),(22,.stay)]) kr (aI (so_pc 6 ds om hd h0) (aI hc1 tt)) (Gets.refl _)
theorem nu_m(ds:List Nat)(zs:List Nat)(t:Nat)(ht:0<t)(hc1:FT 147 #[(.string (Aa ds))] 6 [] (sl 6 t t) [] [(cU zs)]):CT 111 #[(.string (Bg ds))] (Ac 5 []) (.agg #[bT,(sl 6 t t)]) (Ac 8 [(6,(cU zs))]):=
 sF (sc:=[(7,.call [] (.tuple #[bT,(.string (Aa ds))]) [] []),(10,.call [] (sl 6 t t) [] [(cU zs)]),(11,.op (.rwB true)),(10,.stay)]) kr (aI (so_mc 6 ds om) (aI hc1 (aI (dT (p:=(t:Int)>(0:Int))) tt))) (Gets.refl _)
theorem nu_pc(n0:Nat)(ds:List Nat)(hG:5≤n0)(hd:Dig ds)(h0:0<ds.length)(hL:ds.length<549755813888):
  ∃zs t,Lim zs∧t≤zs.length∧t≤(ds.length+9-1)/9∧(0<t→zs.getD (t-1) 0≠0)∧val (zs.take t)=Az ds∧
   FT 111 #[.string (Aa ds)] n0 [] (.agg #[.bool false,sl n0 t t]) [] [cU zs]:=by
 obtain⟨zs,t,h1,h2,h3,h4,h5,h6⟩:=no_c 6 ds om hd hL
 exact⟨zs,t,h1,h2,h3,h4,h5,ff [] [] [] [6] [cU zs] n0 (nu_p ds hd h0 zs t h6) (hb:=sm) (hGn:=hG) (fo:=rfl) (fp:=rfl)⟩
theorem nu_mc(n0:Nat)(ds:List Nat)(hG:5≤n0)(hd:Dig ds)(h0:0<Az ds)(hL:ds.length<549755813888):
  ∃zs t,Lim zs∧t≤zs.length∧t≤(ds.length+9-1)/9∧(0<t→zs.getD (t-1) 0≠0)∧val (zs.take t)=Az ds∧
   FT 111 #[.string (Bg ds)] n0 [] (.agg #[.bool true,sl n0 t t]) [] [cU zs]:=by
 obtain⟨zs,t,h1,h2,h3,h4,h5,h6⟩:=no_c 6 ds om hd hL
 have ht:0<t:=by
  rcases Nat.eq_zero_or_pos t with q|q
  ·rw[q,List.take_zero]at h5
   have h7:val []=0:=rfl
   omega
  ·exact q
 exact⟨zs,t,h1,h2,h3,h4,h5,ff [] [] [] [6] [cU zs] n0 (nu_m ds zs t ht h6) (hb:=sm) (hGn:=hG) (fo:=rfl) (fp:=rfl)⟩
theorem nt_p(xs:List Nat)(n c:Nat)(hlx:Lim xs)(hc:n≤xs.length)(hm:n<1099511627776)(hx:0<n→xs.getD (n-1) 0≠0)(l:Nat)(hl:l≤400)(hc1:FT 148 #[(sl 5 n c)] 7 [(5,(cU xs))] (nI l) [(5,some (cU xs))] []):CT 112 #[(.agg #[bF,(sl 5 n c)])] (Ac 6 [(1,gob1),(5,(cU xs))]) (.string (Aa (Ae (val (xs.take n))))) (Ac 7 [(1,gob1),(5,(cU xs))]):=
 sF (sc:=[(10,.call [5] (nI l) [(5,some (cU xs))] []),(0,.op (.rwB false)),(27,.call [1,5] (.string (Aa (Ae (val (xs.take n))))) [(1,some gob1),(5,some (cU xs))] []),(3,.stay)]) kr (aI hc1 (aI (dF (p:=(l:Int)>(400:Int))) (aI (tx_c 7 5 xs n c om hlx hc hm hx) tt))) (Gets.refl _)
theorem nt_pc(n0 b:Nat)(xs:List Nat)(n c:Nat)(hb:5≤b∧b<n0)(hlx:Lim xs)(hc:n≤xs.length)(hm:n<1099511627776)(hx:0<n→xs.getD (n-1) 0≠0)(hd:Es (val (xs.take n))≤400):
  FT 112 #[.agg #[.bool false,sl b n c]] n0 [(1,gob1),(b,cU xs)] (.string (Aa (Ae (val (xs.take n)))))
   [(1,some gob1),(b,some (cU xs))] []:=by
 exact Sh [(1,gob1)] [b] [cU xs] [cU xs] [] [] n0 (nt_p xs n c hlx hc hm hx _ hd (by have q:=dg_c 7 5 xs n c om hlx hc hm;rw[digN_eq hlx hc hx]at q;exact q)) (by decide+kernel) (by rfl) rfl (by rfl) rfl sm (by simp;omega) om (by simp[Bj,Af]) (by simp[Bj,Af]) rfl sm sm rfl rfl rfl
theorem nt_m(xs:List Nat)(n c:Nat)(hlx:Lim xs)(hc:n≤xs.length)(hm:n<1099511627776)(hx:0<n→xs.getD (n-1) 0≠0)(hz:(Aa (Ae (val (xs.take n)))).size<1099511627776)(l:Nat)(hl:l≤400)(hc1:FT 148 #[(sl 5 n c)] 7 [(5,(cU xs))] (nI l) [(5,some (cU xs))] []):CT 112 #[(.agg #[bT,(sl 5 n c)])] (Ac 6 [(1,gob1),(5,(cU xs))]) (.string (Bg (Ae (val (xs.take n))))) (Ac 7 [(1,gob1),(5,(cU xs))]):=
 sF (sc:=[(10,.call [5] (nI l) [(5,some (cU xs))] []),(0,.op (.rwB false)),(26,.call [1,5] (.string (Aa (Ae (val (xs.take n))))) [(1,some gob1),(5,some (cU xs))] []),(0,.op (.cat (Bg (Ae (val (xs.take n)))))),(3,.stay)]) kr (aI hc1 (aI (dF (p:=(l:Int)>(400:Int))) (aI (tx_c 7 5 xs n c om hlx hc hm hx) (aI (show ((((bts [45]).size+(Aa (Ae (val (xs.take n)))).size:Nat)):Int)≤9223372036854775807∧(bts [45])++(Aa (Ae (val (xs.take n))))=(Bg (Ae (val (xs.take n)))) from⟨by rw[show (Seg.bts [45]).size=1 from rfl];omega,mstr_cat _⟩) tt)))) (Gets.refl _)
theorem nt_mc(n0 b:Nat)(xs:List Nat)(n c:Nat)(hb:5≤b∧b<n0)(hlx:Lim xs)(hc:n≤xs.length)(hm:n<1099511627776)(hx:0<n→xs.getD (n-1) 0≠0)(hd:Es (val (xs.take n))≤400):
  FT 112 #[.agg #[.bool true,sl b n c]] n0 [(1,gob1),(b,cU xs)] (.string (Bg (Ae (val (xs.take n)))))
   [(1,some gob1),(b,some (cU xs))] []:=by
 have hz:(Aa (Ae (val (xs.take n)))).size<1099511627776:=by
  rw[Ad]
  rcases Nat.eq_zero_or_pos (val (xs.take n)) with q|q
  ·rw[q,Cf de];decide
  ·rw[Hk _ q];omega
 exact Sh [(1,gob1)] [b] [cU xs] [cU xs] [] [] n0 (nt_m xs n c hlx hc hm hx hz _ hd (by have q:=dg_c 7 5 xs n c om hlx hc hm;rw[digN_eq hlx hc hx]at q;exact q)) (by decide+kernel) (by rfl) rfl (by rfl) rfl sm (by simp;omega) om (by simp[Bj,Af]) (by simp[Bj,Af]) rfl sm sm rfl rfl rfl
end Go.Proofs.YtjbflfbhfnkmlaaGreatDoor
