import Derived.Test.YtldoiilgfcpipaaGreatDoorPRTrim
import Derived.Test.YtldoiilgfcpipaaGreatDoorLF
set_option linter.unusedVariables false
set_option linter.unusedSimpArgs false
set_option maxRecDepth 100000
namespace Go.Proofs.YtldoiilgfcpipaaGreatDoor
open Go Go.AE Seg
noncomputable section
abbrev z_a50_0(n:Nat):AObj:=.cells (ns .i64 (List.replicate n 0)) 3 none false
end
theorem tz_g(n i:Nat):(List.replicate n 0).getD i 0=0:=by
 simp only[List.getD,List.getElem?_replicate]
 split<;>rfl
theorem tz_ld{n i:Nat}(h:i<n):(ns .i64 (List.replicate n 0))[i]? =some (lI 0):=by
 have:=Ar (k:=.i64) (xs:=List.replicate n 0) (i:=i) (by simpa using h)
 rw[tz_g]at this
 exact this
theorem tz_st{n i:Nat}(h:i<n):i+1≤(ns .i64 (List.replicate n 0)).length∧Bs (ns .i64 (List.replicate n 0)) i [.int .i64 (.ofNat 0)]=ns .i64 (List.replicate n 0):=by
 have:=Dp (k:=.i64) (xs:=List.replicate n 0) (i:=i) (v:=0) (by simpa using h)
 rw[show (List.replicate n 0).set i 0=List.replicate n 0 from List.ext_getElem sm (fun k h1 h2=>by rw[List.getElem_set];split<;>simp)]at this
 exact this
theorem tz_top(n k:Nat):F.top (List.replicate n 0) k=0:=by
 rcases Nat.eq_zero_or_pos (F.top (List.replicate n 0) k) with h|h
 ·exact h
 ·exact absurd (tz_g n _) (F.top_pos _ _ h)
theorem tz_tr(n0 b n:Nat)(hb:5≤b∧b<n0)(hm:n<1099511627776):FT 133 #[sl b n n] n0 [(b,.cells (ns .i64 (List.replicate n 0)) 3 none false)] (sl b 0 n) [(b,some (cI (List.replicate n 0) none))] []:=by
 have:=rs_c n0 b (List.replicate n 0) n n hb sm hm (Nat.le_refl _)
 rw[tz_top]at this
 exact this
noncomputable def tz_h_f(o1:Option Nat)(e1:Nat)(xs:List Nat)(n i:Nat)(j:List Value):Frame:=(Fr 92 ([(sl 5 n e1),nS,uu,uu,nS,(sl 6 n n),(nI i)]++(jj j 0 3 ([(sl 5 n e1),(nI n),nS,(lI 0),(nI n),(sl 6 n n)]++(jj j 3 54 [uu,uu])))) [.code (cd Tryz.f92 [1,1,0,1,0,0]),.inLoop (cd Tryz.f92 [1,1,0,1,0,0]),.inBlock 0,.code (cd Tryz.f92 [1,1,1])])
noncomputable def tz_h_o(o1:Option Nat)(e1:Nat)(xs:List Nat)(n i:Nat):List (Nat×AObj):=[(5,(cI xs o1)),(6,(z_a50_0 n))]
noncomputable def tz_h(o1:Option Nat)(e1:Nat)(xs:List Nat)(n i:Nat)(j:List Value):AS:=⟨tz_h_f o1 e1 xs n i j,[],Ag 7 (tz_h_o o1 e1 xs n i)⟩
theorem tz_in(o1:Option Nat)(e1:Nat)(xs:List Nat)(n:Nat)(hn:n<70368744177):GT (Cg 92 #[(sl 5 n e1),nS] 6 [(5,(cI xs o1))]) (tz_h o1 e1 xs n 0 [undef,undef,undef,undef,undef,undef,undef,undef,undef,undef,undef,undef,undef,undef,undef,undef,undef,undef,undef,undef,undef,undef,undef,undef,undef,undef,undef,undef,undef,undef,undef,undef,undef,undef,undef,undef,undef,undef,undef,undef,undef,undef,undef,undef,undef,undef,undef,undef,undef,undef,undef,undef,undef,undef,undef,undef,undef]):=
 sR (sc:=[(10,.op (.rwI (n:Int))),(0,.op (.mks n n (ns .i64 (List.replicate n 0)))),(9,.stay)]) kr (aI (Ao (a:=((n:Int)+(0:Int))) (r:=(n:Int))) (aI (show (0≤(n:Int)∧(n:Int)≤(n:Int)∧((8:Nat):Int)*(n:Int)≤281474976710656∧(n:Int)≤9223372036854775807)∧Au (ns .i64 (List.replicate n 0))=true∧(madeCells (Value.cells (lI 0)) (Int.toNat (n:Int)*1)).toList=(ns .i64 (List.replicate n 0))∧Int.toNat (n:Int)=n∧Int.toNat (n:Int)=n from (by refine⟨⟨?_,?_,?_,?_⟩,Ab _ _,Qd _ _ _,?_,?_⟩<;>omega)) tt))
theorem tz_r(o1:Option Nat)(e1:Nat)(xs:List Nat)(n i:Nat)(j:List Value)(hn:n<70368744177)(hi:i<n):GT (tz_h o1 e1 xs n i j) (tz_h o1 e1 xs n (i+1) ([(lI 0),(lI 0),(J j 2),(nI i),(sl 5 n e1),(nI n),bT,(nI i),(nI (i+1)),(lI 0),nS,(lI 0),bF]++(jj j 13 29 [(sl 6 n n),(nI i),nS,(lI 0),(nI i),(sl 6 n n),(nI i),nS,(lI 0),(nI i),(pp 6 i),(lI 0),(lI 0),(lI 0),(pp 6 i)]))):=
 sR (sc:=[(6,.op (.rwB true)),(31,.op (.rwI (i:Int))),(4,.op (.rwI (i:Int))),(0,.op (.idx i)),(0,.op (.ld (lI 0))),(2,.op (.idx i)),(0,.op (.st (ns .i64 (List.replicate n 0)))),(4,.op (.rwI (((i+1):Nat):Int))),(3,.stay)]) kr (aI (dT (p:=(i:Int)<(n:Int))) (aI (Ao (a:=((i:Int)+(0:Int))) (r:=(i:Int))) (aI (Ao (a:=((i:Int)+(0:Int))) (r:=(i:Int))) (aI (ix (i:Int) (n:Int) 0 1 i) (aI (show ((ns .i64 (List.replicate n 0)):List Value)[i]? =some (lI 0) from (tz_ld hi)) (aI (ix (i:Int) (n:Int) 0 1 i) (aI (show i+1≤(ns .i64 (List.replicate n 0)).length∧Bs (ns .i64 (List.replicate n 0)) i [(lI 0)]=(ns .i64 (List.replicate n 0)) from (tz_st hi)) (aI (Ao (a:=((i:Int)+(1:Int))) (r:=(((i+1):Nat):Int))) tt))))))))
theorem tz_o(o1:Option Nat)(e1:Nat)(xs:List Nat)(n i:Nat)(j:List Value)(hn:n<70368744177)(hi:n≤i)(hr:GT (Cg 92 #[(sl 5 n e1),nS] 6 [(5,(cI xs o1))]) (tz_h o1 e1 xs n i j)):CT 92 #[(sl 5 n e1),nS] (Ag 6 [(5,(cI xs o1))]) (sl 6 0 n) (Ag 7 [(5,(cI xs o1)),(6,(z_a50_0 n))]):=
 sF (sc:=[(6,.op (.rwB false)),(6,.call [6] (sl 6 0 n) [(6,some (z_a50_0 n))] []),(3,.stay)]) kr (aI (dF (p:=(i:Int)<(n:Int))) (aI (tz_tr 7 6 n om om) tt)) hr
theorem tz_all{s0:AS}{o1:Option Nat}{e1:Nat}{xs:List Nat}{n:Nat}(hn:n<70368744177): ∀(m i:Nat) (j:List Value),m=n-i→i≤n→GT s0 (tz_h o1 e1 xs n i j)→ ∃j',GT s0 (tz_h o1 e1 xs n n j'):=by
 intro m
 induction m with
 |zero=>
  intro i j hm hi hr
  have:i=n:=by omega
  subst this
  exact⟨j,hr⟩
 |succ m ih=>
  intro i j hm hi hr
  exact ih _ _ om om (hr.trans (tz_r o1 e1 xs n i j hn om))
theorem tz_c(o1:Option Nat)(e1 n0 bx:Nat)(xs:List Nat)(n:Nat)(hb:5≤bx∧bx<n0)(hn:n<70368744177):
  FT 92 #[sl bx n e1,.slice none 0 0] n0 [(bx,.cells (ns .i64 xs) 3 o1 false)] (sl n0 0 n) [(bx,some (cI xs o1))] [.cells (ns .i64 (List.replicate n 0)) 3 none false]:=by
 obtain⟨j,hr⟩:=tz_all hn _ 0 _ rfl (Nat.zero_le _) (tz_in o1 e1 xs n hn)
 exact ff [bx] [.cells (ns .i64 xs) 3 o1 false] [.cells (ns .i64 xs) 3 o1 false] [6] [.cells (ns .i64 (List.replicate n 0)) 3 none false] n0 (tz_o o1 e1 xs n n j hn (Nat.le_refl _) hr)
theorem mz_o(o1 o2:Option Nat)(e1 e2:Nat)(xs ys:List Nat):CT 91 #[(sl 5 0 e1),(sl 6 0 e2)] (Ag 7 [(5,(cI xs o1)),(6,(cI ys o2))]) nS (Ag 7 [(5,(cI xs o1)),(6,(cI ys o2))]):=
 sF (sc:=[(68,.stay)]) kr tt (Gets.refl _)
theorem mz_c(o1 o2:Option Nat)(e1 e2:Nat)(n0 bx byy:Nat)(xs ys:List Nat)(hb:5≤bx∧bx<n0∧5≤byy∧byy<n0∧bx≠byy):
  FT 91 #[sl bx 0 e1,sl byy 0 e2] n0 [(bx,.cells (ns .i64 xs) 3 o1 false),(byy,.cells (ns .i64 ys) 3 o2 false)] nS [(bx,some (cI xs o1)),(byy,some (cI ys o2))] []:=
 ff [bx,byy] [.cells (ns .i64 xs) 3 o1 false,.cells (ns .i64 ys) 3 o2 false] [.cells (ns .i64 xs) 3 o1 false,.cells (ns .i64 ys) 3 o2 false] [] [] n0 (mz_o o1 o2 e1 e2 xs ys) (hnd:=by simp[hb.2.2.2.2])
end Go.Proofs.YtldoiilgfcpipaaGreatDoor
