import Derived.Test.YtjbflfbhfnkmlaaGreatDoorPToInt
import Derived.Test.YtjbflfbhfnkmlaaGreatDoorLF
import Derived.Test.YtjbflfbhfnkmlaaGreatDoorLE
set_option linter.unusedVariables false
set_option linter.unusedSimpArgs false
set_option maxRecDepth 100000
namespace Go.Proofs.YtjbflfbhfnkmlaaGreatDoor
open Go Go.AE Seg
noncomputable section
abbrev z_b1b_0(n:Nat):Value:=.int .i64 ((n:Int)-(2:Int))
end
noncomputable def gs_h_f(o1 o2:Option Nat)(e1 e2:Nat)(xs ys:List Nat)(t n tp:Nat)(i:Int)(j:List Value):Frame:=(Fr 138 ([(sl 5 t e1),(sl 6 n e2),uu,uu,(lI 0),(nI n),(nI tp),(lI 0),(.int .i64 i),(J j 0),(sl 6 n e2),(nI n),(nI n)]++(jj j 1 22 (uj 19 []))) [.code (cd Tryz.f138 [1,1,1,0,1,0,0]),.inLoop (cd Tryz.f138 [1,1,1,0,1,0,0]),.inBlock 0,.code (cd Tryz.f138 [1,1,1,1])])
noncomputable def gs_h_o(o1 o2:Option Nat)(e1 e2:Nat)(xs ys:List Nat)(t n tp:Nat)(i:Int):List (Nat×AObj):=[(5,(cI xs o1)),(6,(cI ys o2))]
noncomputable def gs_h(o1 o2:Option Nat)(e1 e2:Nat)(xs ys:List Nat)(t n tp:Nat)(i:Int)(j:List Value):AS:=⟨gs_h_f o1 o2 e1 e2 xs ys t n tp i j,[],Ac 7 (gs_h_o o1 o2 e1 e2 xs ys t n tp i)⟩
theorem gs_in(o1 o2:Option Nat)(e1 e2:Nat)(xs ys:List Nat)(t n:Nat):GT (Ca 138 #[(sl 5 t e1),(sl 6 n e2)] 7 [(5,(cI xs o1)),(6,(cI ys o2))]) (gs_h o1 o2 e1 e2 xs ys t n 0 (n:Int) [undef,undef,undef,undef,undef,undef,undef,undef,undef,undef,undef,undef,undef,undef,undef,undef,undef,undef,undef,undef,undef,undef,undef]):=
 sR (sc:=[(23,.stay)]) kr tt
theorem gs_n(o1 o2:Option Nat)(e1 e2:Nat)(xs ys:List Nat)(t n:Nat)(tp:Nat)(j:List Value)(ht:t<1099511627776)(hnm:n<1099511627776)(htp:tp<100000000)(i:Int)(hi:(n:Int)-2≤i)(hi0:i<0):GT (gs_h o1 o2 e1 e2 xs ys t n tp i j) (gs_h o1 o2 e1 e2 xs ys t n (tp*10000) (i-(1:Int)) ([(lI 0),(.int .i64 i),(nI n),(z_b1b_0 n),bT,(.int .i64 i),(.int .i64 (i-(1:Int))),(.int .i64 i),bF,bF,undef,undef,undef,undef,bF]++(jj j 15 4 [(nI tp),(nI (tp*10000)),(lI 0),(nI (tp*10000))]))):=
 sR (sc:=[(5,.op (.rwI ((n:Int)-(2:Int)))),(0,.op (.rwB true)),(13,.op (.rwB false)),(11,.op (.rwI (((tp*10000):Nat):Int))),(1,.op (.rwI (((tp*10000):Nat):Int))),(5,.op (.rwI (i-(1:Int)))),(3,.stay)]) kr (aI (Am (a:=((n:Int)-(2:Int))) (r:=((n:Int)-(2:Int)))) (aI (dT (p:=i≥((n:Int)-(2:Int)))) (aI (dF (p:=i≥(0:Int))) (aI (Am (a:=((tp:Int)*(10000:Int))) (r:=(((tp*10000):Nat):Int))) (aI (Am (a:=((((tp*10000):Nat):Int)+(0:Int))) (r:=(((tp*10000):Nat):Int))) (aI (Am (a:=(i-(1:Int))) (r:=(i-(1:Int)))) tt))))))
theorem gs_f(o1 o2:Option Nat)(e1 e2:Nat)(xs ys:List Nat)(t n:Nat)(tp:Nat)(j:List Value)(ht:t<1099511627776)(hnm:n<1099511627776)(htp:tp<100000000)(i:Nat)(hi:(n:Int)-2≤(i:Int))(him:i<1099511627776)(hi0:t≤i):GT (gs_h o1 o2 e1 e2 xs ys t n tp (i:Int) j) (gs_h o1 o2 e1 e2 xs ys t n (tp*10000) ((i:Int)-(1:Int)) ([(lI 0),(nI i),(nI n),(z_b1b_0 n),bT,(nI i),(.int .i64 ((i:Int)-(1:Int))),(nI i),bT,bT,(nI i),(sl 5 t e1),(nI t),bF,bF]++(jj j 15 4 [(nI tp),(nI (tp*10000)),(lI 0),(nI (tp*10000))]))):=
 sR (sc:=[(5,.op (.rwI ((n:Int)-(2:Int)))),(0,.op (.rwB true)),(13,.op (.rwB true)),(4,.op (.rwB false)),(6,.op (.rwI (((tp*10000):Nat):Int))),(1,.op (.rwI (((tp*10000):Nat):Int))),(5,.op (.rwI ((i:Int)-(1:Int)))),(3,.stay)]) kr (aI (Am (a:=((n:Int)-(2:Int))) (r:=((n:Int)-(2:Int)))) (aI (dT (p:=(i:Int)≥((n:Int)-(2:Int)))) (aI (dT (p:=(i:Int)≥(0:Int))) (aI (dF (p:=(i:Int)<(t:Int))) (aI (Am (a:=((tp:Int)*(10000:Int))) (r:=(((tp*10000):Nat):Int))) (aI (Am (a:=((((tp*10000):Nat):Int)+(0:Int))) (r:=(((tp*10000):Nat):Int))) (aI (Am (a:=((i:Int)-(1:Int))) (r:=((i:Int)-(1:Int)))) tt)))))))
theorem gs_t(o1 o2:Option Nat)(e1 e2:Nat)(xs ys:List Nat)(t n:Nat)(tp:Nat)(j:List Value)(ht:t<1099511627776)(hnm:n<1099511627776)(htp:tp<100000000)(i:Nat)(a:Nat)(hi:(n:Int)-2≤(i:Int))(hi0:i<t)(ha:a<10000)(hx:(ns .i64 xs)[i]? =some (nI a)):GT (gs_h o1 o2 e1 e2 xs ys t n tp (i:Int) j) (gs_h o1 o2 e1 e2 xs ys t n ((tp*10000)+a) ((i:Int)-(1:Int)) [(nI a),(nI i),(nI n),(z_b1b_0 n),bT,(nI i),(.int .i64 ((i:Int)-(1:Int))),(nI i),bT,bT,(nI i),(sl 5 t e1),(nI t),bT,bT,(sl 5 t e1),(nI i),(pp 5 i),(nI a),(nI tp),(nI (tp*10000)),(nI a),(nI ((tp*10000)+a))]):=
 sR (sc:=[(5,.op (.rwI ((n:Int)-(2:Int)))),(0,.op (.rwB true)),(13,.op (.rwB true)),(4,.op (.rwB true)),(6,.op (.idx i)),(0,.op (.ld (nI a))),(4,.op (.rwI (((tp*10000):Nat):Int))),(1,.op (.rwI ((((tp*10000)+a):Nat):Int))),(5,.op (.rwI ((i:Int)-(1:Int)))),(3,.stay)]) kr (aI (Am (a:=((n:Int)-(2:Int))) (r:=((n:Int)-(2:Int)))) (aI (dT (p:=(i:Int)≥((n:Int)-(2:Int)))) (aI (dT (p:=(i:Int)≥(0:Int))) (aI (dT (p:=(i:Int)<(t:Int))) (aI (ix (i:Int) (t:Int) 0 1 i) (aI hx (aI (Am (a:=((tp:Int)*(10000:Int))) (r:=(((tp*10000):Nat):Int))) (aI (Am (a:=((((tp*10000):Nat):Int)+(a:Int))) (r:=((((tp*10000)+a):Nat):Int))) (aI (Am (a:=((i:Int)-(1:Int))) (r:=((i:Int)-(1:Int)))) tt)))))))))
theorem gs_1(o1 o2:Option Nat)(e1 e2:Nat)(xs ys:List Nat)(t n:Nat)(tp:Nat)(j:List Value)(ht:t<1099511627776)(hnm:n<1099511627776)(htp:tp<1000000000000)(i:Int)(n1 a w:Nat)(hi:i<(n:Int)-2)(hn1:n=n1+1)(ha:a<10000)(ha0:0<a)(hx:(ns .i64 ys)[n1]? =some (nI a))(h1:n≤1)(hw:w=tp/(a*10000))(hr:GT (Ca 138 #[(sl 5 t e1),(sl 6 n e2)] 7 [(5,(cI xs o1)),(6,(cI ys o2))]) (gs_h o1 o2 e1 e2 xs ys t n tp i j)):CT 138 #[(sl 5 t e1),(sl 6 n e2)] (Ac 7 [(5,(cI xs o1)),(6,(cI ys o2))]) (nI (min 9999 w)) (Ac 7 [(5,(cI xs o1)),(6,(cI ys o2))]):=
 sF (sc:=[(5,.op (.rwI ((n:Int)-(2:Int)))),(0,.op (.rwB false)),(7,.op (.rwI (n1:Int))),(0,.op (.idx n1)),(0,.op (.ld (nI a))),(0,.op (.rwI (((a*10000):Nat):Int))),(6,.op (.rwB false)),(7,.op (.div (w:Int))),(0,.op (.rwI (((min 9999 w):Nat):Int))),(3,.stay)]) kr (aI (Am (a:=((n:Int)-(2:Int))) (r:=((n:Int)-(2:Int)))) (aI (dF (p:=i≥((n:Int)-(2:Int)))) (aI (Am (a:=((n:Int)-(1:Int))) (r:=(n1:Int))) (aI (ix (n1:Int) (n:Int) 0 1 n1) (aI hx (aI (Am (a:=((a:Int)*(10000:Int))) (r:=(((a*10000):Nat):Int))) (aI (dF (p:=(n:Int)>(1:Int))) (aI (show (((a*10000):Nat):Int)≠0∧IntKind.wrap .i64 (Int.tdiv (tp:Int) (((a*10000):Nat):Int))=(w:Int) from⟨by omega,by subst hw;exact quo_wrap om⟩) (aI (show (if (w:Int)<(9999:Int) then (w:Int) else (9999:Int))=(((min 9999 w):Nat):Int) from (by split<;>omega)) tt))))))))) hr
theorem gs_2(o1 o2:Option Nat)(e1 e2:Nat)(xs ys:List Nat)(t n:Nat)(tp:Nat)(j:List Value)(ht:t<1099511627776)(hnm:n<1099511627776)(htp:tp<1000000000000)(i:Int)(n1 a w:Nat)(hi:i<(n:Int)-2)(hn1:n=n1+1)(ha:a<10000)(ha0:0<a)(hx:(ns .i64 ys)[n1]? =some (nI a))(n2 b:Nat)(h1:1<n)(hn2:n=n2+2)(hb:b<10000)(hy:(ns .i64 ys)[n2]? =some (nI b))(hw:w=tp/(a*10000+b))(hr:GT (Ca 138 #[(sl 5 t e1),(sl 6 n e2)] 7 [(5,(cI xs o1)),(6,(cI ys o2))]) (gs_h o1 o2 e1 e2 xs ys t n tp i j)):CT 138 #[(sl 5 t e1),(sl 6 n e2)] (Ac 7 [(5,(cI xs o1)),(6,(cI ys o2))]) (nI (min 9999 w)) (Ac 7 [(5,(cI xs o1)),(6,(cI ys o2))]):=
 sF (sc:=[(5,.op (.rwI ((n:Int)-(2:Int)))),(0,.op (.rwB false)),(7,.op (.rwI (n1:Int))),(0,.op (.idx n1)),(0,.op (.ld (nI a))),(0,.op (.rwI (((a*10000):Nat):Int))),(6,.op (.rwB true)),(6,.op (.rwI (n2:Int))),(0,.op (.idx n2)),(0,.op (.ld (nI b))),(0,.op (.rwI ((((a*10000)+b):Nat):Int))),(6,.op (.div (w:Int))),(0,.op (.rwI (((min 9999 w):Nat):Int))),(3,.stay)]) kr (aI (Am (a:=((n:Int)-(2:Int))) (r:=((n:Int)-(2:Int)))) (aI (dF (p:=i≥((n:Int)-(2:Int)))) (aI (Am (a:=((n:Int)-(1:Int))) (r:=(n1:Int))) (aI (ix (n1:Int) (n:Int) 0 1 n1) (aI hx (aI (Am (a:=((a:Int)*(10000:Int))) (r:=(((a*10000):Nat):Int))) (aI (dT (p:=(n:Int)>(1:Int))) (aI (Am (a:=((n:Int)-(2:Int))) (r:=(n2:Int))) (aI (ix (n2:Int) (n:Int) 0 1 n2) (aI hy (aI (Am (a:=((((a*10000):Nat):Int)+(b:Int))) (r:=((((a*10000)+b):Nat):Int))) (aI (show ((((a*10000)+b):Nat):Int)≠0∧IntKind.wrap .i64 (Int.tdiv (tp:Int) ((((a*10000)+b):Nat):Int))=(w:Int) from⟨by omega,by subst hw;exact quo_wrap om⟩) (aI (show (if (w:Int)<(9999:Int) then (w:Int) else (9999:Int))=(((min 9999 w):Nat):Int) from (by split<;>omega)) tt))))))))))))) hr
theorem gs_step{s0:AS}{o1 o2:Option Nat}{e1 e2:Nat}{xs ys:List Nat}{t n tp:Nat}{i:Int}{j:List Value}(hlx:F.Lim xs)(htx:t≤xs.length)(ht:t<1099511627776)(hnm:n<1099511627776)(htp:tp<100000000)(hi:(n:Int)-2≤i)(him:i≤n)(hr:GT s0 (gs_h o1 o2 e1 e2 xs ys t n tp i j)):
  ∃j',GT s0 (gs_h o1 o2 e1 e2 xs ys t n (tp*10000+F.gd xs t i) (i-1) j'):=by
 by_cases h0:i<0
 ·rw[F.gd_neg xs t h0,Nat.add_zero]
  exact⟨_,hr.trans (gs_n o1 o2 e1 e2 xs ys t n tp j ht hnm htp i hi h0)⟩
 ·obtain⟨k,rfl⟩: ∃k:Nat,i=k:=⟨i.toNat,by omega⟩
  by_cases hk:k<t
  ·have e:F.gd xs t (k:Int)=xs.getD k 0:=by rw[F.gd_nat,F.getD_take hk]
   rw[e]
   exact⟨_,hr.trans (gs_t o1 o2 e1 e2 xs ys t n tp j ht hnm htp k _ hi hk (hlx.get k) (Aq))⟩
  ·have e:F.gd xs t (k:Int)=0:=by rw[F.gd_nat,F.getD_le (by rw[List.length_take];omega)]
   rw[e,Nat.add_zero]
   exact⟨_,hr.trans (gs_f o1 o2 e1 e2 xs ys t n tp j ht hnm htp k hi om om)⟩
theorem gs_c(o1 o2:Option Nat)(e1 e2:Nat)(xs ys:List Nat)(t n:Nat)(n0 bx byy:Nat)(hb:5≤bx∧bx<n0∧5≤byy∧byy<n0∧bx≠byy)(hlx:F.Lim xs)(hly:F.Lim ys)(htx:t≤xs.length)(hny:n≤ys.length)(ht:t<1099511627776)(hnm:n<1099511627776)(h0:0<n)(hy:ys.getD (n-1) 0≠0):
  FT 138 #[sl bx t e1,sl byy n e2] n0 [(bx,.cells (ns .i64 xs) 3 o1 false),(byy,.cells (ns .i64 ys) 3 o2 false)] (nI (F.guessF xs t ys n)) [(bx,some (cI xs o1)),(byy,some (cI ys o2))] []:=by
 have g0:=F.gd_lt hlx t (n:Int)
 have g1:=F.gd_lt hlx t ((n:Int)-1)
 have g2:=F.gd_lt hlx t ((n:Int)-2)
 obtain⟨j1,r1⟩:=gs_step (tp:=0) (i:=(n:Int)) hlx htx ht hnm de om om (gs_in o1 o2 e1 e2 xs ys t n)
 rw[Nat.zero_mul,Nat.zero_add]at r1
 obtain⟨j2,r2⟩:=gs_step hlx htx ht hnm om om om r1
 rw[show (n:Int)-1-1=(n:Int)-2 by omega]at r2
 obtain⟨j3,r3⟩:=gs_step hlx htx ht hnm om om om r2
 have S:CT 138 #[(sl 5 t e1),(sl 6 n e2)] (Ac 7 [(5,(cI xs o1)),(6,(cI ys o2))]) (nI (F.guessF xs t ys n)) (Ac 7 [(5,(cI xs o1)),(6,(cI ys o2))]):=by
  have ha:=hly.get (n-1)
  unfold F.guessF F.gtop F.gby
  by_cases h1:n≤1
  ·rw[if_neg om,Nat.add_zero]
   exact gs_1 o1 o2 e1 e2 xs ys t n _ j3 ht hnm om _ (n-1) _ _ om om ha om (Aq) h1 rfl r3
  ·rw[if_pos om]
   exact gs_2 o1 o2 e1 e2 xs ys t n _ j3 ht hnm om _ (n-1) _ _ om om ha om (Aq) (n-2) _ om om (hly.get (n-2)) (Aq) rfl r3
 exact ff [bx,byy] [.cells (ns .i64 xs) 3 o1 false,.cells (ns .i64 ys) 3 o2 false] [.cells (ns .i64 xs) 3 o1 false,.cells (ns .i64 ys) 3 o2 false] [] [] n0 S (hnd:=by simp[hb.2.2.2.2])
theorem lo_z:CT 139 #[(lI 0)] (Ac 5 []) nS (Ac 5 []):=
 sF (sc:=[(16,.stay)]) kr tt (Gets.refl _)
theorem lo_q(q:Nat)(hq:0<q):CT 139 #[(nI q)] (Ac 5 []) (sl 5 1 1) (Ac 6 [(5,(cI ([q]) none))]):=
 sF (sc:=[(8,.op (.rwB false)),(10,.stay)]) kr (aI (eF (a:=(q:Int)) (b:=(0:Int))) tt) (Gets.refl _)
theorem Xa(n0:Nat)(hG:5≤n0):FT 139 #[.int .i64 (.ofNat 0)] n0 [] nS [] []:=
 Dy n0 (lo_z) hG
theorem lo_c(n0 q:Nat)(hG:5≤n0)(hq:0<q):FT 139 #[.int .i64 ((q:Nat):Int)] n0 [] (sl n0 1 1) [] [.cells (ns .i64 [q]) 3 none false]:=
 ff [] [] [] [5] [.cells (ns .i64 [q]) 3 none false] n0 (lo_q q hq) (hb:=sm) (hGn:=hG) (fo:=rfl) (fp:=rfl)
noncomputable section
abbrev z_a50_0(n:Nat):AObj:=.cells (ns .i64 (List.replicate n 0)) 3 none false
end
theorem tz_g(n i:Nat):(List.replicate n 0).getD i 0=0:=by
 simp only[List.getD,List.getElem?_replicate]
 split<;>rfl
theorem tz_ld{n i:Nat}(h:i<n):(ns .i64 (List.replicate n 0))[i]? =some (lI 0):=by
 have:=Aq (k:=.i64) (xs:=List.replicate n 0) (i:=i) (by simpa using h)
 rw[tz_g]at this
 exact this
theorem tz_st{n i:Nat}(h:i<n):i+1≤(ns .i64 (List.replicate n 0)).length∧Bq (ns .i64 (List.replicate n 0)) i [.int .i64 (.ofNat 0)]=ns .i64 (List.replicate n 0):=by
 have:=Dw (k:=.i64) (xs:=List.replicate n 0) (i:=i) (v:=0) (by simpa using h)
 rw[show (List.replicate n 0).set i 0=List.replicate n 0 from List.ext_getElem sm (fun k h1 h2=>by rw[List.getElem_set];split<;>simp)]at this
 exact this
theorem tz_top(n k:Nat):F.top (List.replicate n 0) k=0:=by
 rcases Nat.eq_zero_or_pos (F.top (List.replicate n 0) k) with h|h
 ·exact h
 ·exact absurd (tz_g n _) (F.top_pos _ _ h)
theorem tz_tr(n0 b n:Nat)(hb:5≤b∧b<n0)(hm:n<1099511627776):FT 133 #[sl b n n] n0 [(b,.cells (ns .i64 (List.replicate n 0)) 3 none false)] (sl b 0 n) [(b,some (cI (List.replicate n 0) none))] []:=by
 have:=rs_c n0 b (List.replicate n 0) n n hb sm hm (Nat.le_refl _)
 rw[tz_top]at this
 exact this
noncomputable def tz_h_f(o1:Option Nat)(e1:Nat)(xs:List Nat)(n i:Nat)(j:List Value):Frame:=(Fr 92 ([(sl 5 n e1),nS,uu,uu,nS,(sl 6 n n),(nI i)]++(jj j 0 3 ([(sl 5 n e1),(nI n),nS,(lI 0),(nI n),(sl 6 n n)]++(jj j 3 54 [uu,uu])))) [.code (cd Tryz.f92 [1,1,0,1,0,0]),.inLoop (cd Tryz.f92 [1,1,0,1,0,0]),.inBlock 0,.code (cd Tryz.f92 [1,1,1])])
noncomputable def tz_h_o(o1:Option Nat)(e1:Nat)(xs:List Nat)(n i:Nat):List (Nat×AObj):=[(5,(cI xs o1)),(6,(z_a50_0 n))]
noncomputable def tz_h(o1:Option Nat)(e1:Nat)(xs:List Nat)(n i:Nat)(j:List Value):AS:=⟨tz_h_f o1 e1 xs n i j,[],Ac 7 (tz_h_o o1 e1 xs n i)⟩
theorem tz_in(o1:Option Nat)(e1:Nat)(xs:List Nat)(n:Nat)(hn:n<70368744177):GT (Ca 92 #[(sl 5 n e1),nS] 6 [(5,(cI xs o1))]) (tz_h o1 e1 xs n 0 [undef,undef,undef,undef,undef,undef,undef,undef,undef,undef,undef,undef,undef,undef,undef,undef,undef,undef,undef,undef,undef,undef,undef,undef,undef,undef,undef,undef,undef,undef,undef,undef,undef,undef,undef,undef,undef,undef,undef,undef,undef,undef,undef,undef,undef,undef,undef,undef,undef,undef,undef,undef,undef,undef,undef,undef,undef]):=
 sR (sc:=[(10,.op (.rwI (n:Int))),(0,.op (.mks n n (ns .i64 (List.replicate n 0)))),(9,.stay)]) kr (aI (Am (a:=((n:Int)+(0:Int))) (r:=(n:Int))) (aI (show (0≤(n:Int)∧(n:Int)≤(n:Int)∧((8:Nat):Int)*(n:Int)≤281474976710656∧(n:Int)≤9223372036854775807)∧As (ns .i64 (List.replicate n 0))=true∧(madeCells (Value.cells (lI 0)) (Int.toNat (n:Int)*1)).toList=(ns .i64 (List.replicate n 0))∧Int.toNat (n:Int)=n∧Int.toNat (n:Int)=n from (by refine⟨⟨?_,?_,?_,?_⟩,Af _ _,Tt _ _ _,?_,?_⟩<;>omega)) tt))
theorem tz_r(o1:Option Nat)(e1:Nat)(xs:List Nat)(n i:Nat)(j:List Value)(hn:n<70368744177)(hi:i<n):GT (tz_h o1 e1 xs n i j) (tz_h o1 e1 xs n (i+1) ([(lI 0),(lI 0),(J j 2),(nI i),(sl 5 n e1),(nI n),bT,(nI i),(nI (i+1)),(lI 0),nS,(lI 0),bF]++(jj j 13 29 [(sl 6 n n),(nI i),nS,(lI 0),(nI i),(sl 6 n n),(nI i),nS,(lI 0),(nI i),(pp 6 i),(lI 0),(lI 0),(lI 0),(pp 6 i)]))):=
 sR (sc:=[(6,.op (.rwB true)),(31,.op (.rwI (i:Int))),(4,.op (.rwI (i:Int))),(0,.op (.idx i)),(0,.op (.ld (lI 0))),(2,.op (.idx i)),(0,.op (.st (ns .i64 (List.replicate n 0)))),(4,.op (.rwI (((i+1):Nat):Int))),(3,.stay)]) kr (aI (dT (p:=(i:Int)<(n:Int))) (aI (Am (a:=((i:Int)+(0:Int))) (r:=(i:Int))) (aI (Am (a:=((i:Int)+(0:Int))) (r:=(i:Int))) (aI (ix (i:Int) (n:Int) 0 1 i) (aI (show ((ns .i64 (List.replicate n 0)):List Value)[i]? =some (lI 0) from (tz_ld hi)) (aI (ix (i:Int) (n:Int) 0 1 i) (aI (show i+1≤(ns .i64 (List.replicate n 0)).length∧Bq (ns .i64 (List.replicate n 0)) i [(lI 0)]=(ns .i64 (List.replicate n 0)) from (tz_st hi)) (aI (Am (a:=((i:Int)+(1:Int))) (r:=(((i+1):Nat):Int))) tt))))))))
theorem tz_o(o1:Option Nat)(e1:Nat)(xs:List Nat)(n i:Nat)(j:List Value)(hn:n<70368744177)(hi:n≤i)(hr:GT (Ca 92 #[(sl 5 n e1),nS] 6 [(5,(cI xs o1))]) (tz_h o1 e1 xs n i j)):CT 92 #[(sl 5 n e1),nS] (Ac 6 [(5,(cI xs o1))]) (sl 6 0 n) (Ac 7 [(5,(cI xs o1)),(6,(z_a50_0 n))]):=
 sF (sc:=[(6,.op (.rwB false)),(6,.call [6] (sl 6 0 n) [(6,some (z_a50_0 n))] []),(3,.stay)]) kr (aI (dF (p:=(i:Int)<(n:Int))) (aI (tz_tr 7 6 n om om) tt)) hr
theorem tz_all{s0:AS}{o1:Option Nat}{e1:Nat}{xs:List Nat}{n:Nat}(hn:n<70368744177): ∀(m i:Nat) (j:List Value),m=n-i→i≤n→GT s0 (tz_h o1 e1 xs n i j)→ ∃j',GT s0 (tz_h o1 e1 xs n n j'):=by
 intro m
 induction m with
 |zero=>
  intro i j hm hi hr
  have:i=n:=by omega
  subst this
  exact⟨j,hr⟩
 |succ m ih=>
  intro i j hm hi hr
  exact ih _ _ om om (hr.trans (tz_r o1 e1 xs n i j hn om))
theorem tz_c(o1:Option Nat)(e1 n0 bx:Nat)(xs:List Nat)(n:Nat)(hb:5≤bx∧bx<n0)(hn:n<70368744177):
  FT 92 #[sl bx n e1,.slice none 0 0] n0 [(bx,.cells (ns .i64 xs) 3 o1 false)] (sl n0 0 n) [(bx,some (cI xs o1))] [.cells (ns .i64 (List.replicate n 0)) 3 none false]:=by
 obtain⟨j,hr⟩:=tz_all hn _ 0 _ rfl (Nat.zero_le _) (tz_in o1 e1 xs n hn)
 exact ff [bx] [.cells (ns .i64 xs) 3 o1 false] [.cells (ns .i64 xs) 3 o1 false] [6] [.cells (ns .i64 (List.replicate n 0)) 3 none false] n0 (tz_o o1 e1 xs n n j hn (Nat.le_refl _) hr)
theorem mz_o(o1 o2:Option Nat)(e1 e2:Nat)(xs ys:List Nat):CT 91 #[(sl 5 0 e1),(sl 6 0 e2)] (Ac 7 [(5,(cI xs o1)),(6,(cI ys o2))]) nS (Ac 7 [(5,(cI xs o1)),(6,(cI ys o2))]):=
 sF (sc:=[(68,.stay)]) kr tt (Gets.refl _)
theorem mz_c(o1 o2:Option Nat)(e1 e2:Nat)(n0 bx byy:Nat)(xs ys:List Nat)(hb:5≤bx∧bx<n0∧5≤byy∧byy<n0∧bx≠byy):
  FT 91 #[sl bx 0 e1,sl byy 0 e2] n0 [(bx,.cells (ns .i64 xs) 3 o1 false),(byy,.cells (ns .i64 ys) 3 o2 false)] nS [(bx,some (cI xs o1)),(byy,some (cI ys o2))] []:=
 ff [bx,byy] [.cells (ns .i64 xs) 3 o1 false,.cells (ns .i64 ys) 3 o2 false] [.cells (ns .i64 xs) 3 o1 false,.cells (ns .i64 ys) 3 o2 false] [] [] n0 (mz_o o1 o2 e1 e2 xs ys) (hnd:=by simp[hb.2.2.2.2])
end Go.Proofs.YtjbflfbhfnkmlaaGreatDoor
