import Derived.Test.YtjbflfbhfnkmlaaGreatDoorPToInt
import Derived.Test.YtjbflfbhfnkmlaaGreatDoorLF
set_option linter.unusedVariables false
set_option linter.unusedSimpArgs false
set_option maxRecDepth 100000
namespace Go.Proofs.YtjbflfbhfnkmlaaGreatDoor
open Go Go.AE Seg
theorem rc_lt(o1 o2:Option Nat)(e1 e2:Nat)(xs ys:List Nat)(n k:Nat)(hn:n<1099511627776)(hkm:k<1099511627776)(hlt:n<k):CT 90 #[(sl 5 n e1),(sl 6 k e2)] (Ac 7 [(5,(cI xs o1)),(6,(cI ys o2))]) (.int .i64 (.negSucc 0)) (Ac 7 [(5,(cI xs o1)),(6,(cI ys o2))]):=
 sF (sc:=[(11,.op (.rwB true)),(9,.op (.rwB true)),(7,.stay)]) kr (aI (nT (a:=(n:Int)) (b:=(k:Int))) (aI (dT (p:=(n:Int)<(k:Int))) tt)) (Gets.refl _)
theorem rc_gt(o1 o2:Option Nat)(e1 e2:Nat)(xs ys:List Nat)(n k:Nat)(hn:n<1099511627776)(hkm:k<1099511627776)(hlt:k<n):CT 90 #[(sl 5 n e1),(sl 6 k e2)] (Ac 7 [(5,(cI xs o1)),(6,(cI ys o2))]) (lI 1) (Ac 7 [(5,(cI xs o1)),(6,(cI ys o2))]):=
 sF (sc:=[(11,.op (.rwB true)),(9,.op (.rwB false)),(8,.stay)]) kr (aI (nT (a:=(n:Int)) (b:=(k:Int))) (aI (dF (p:=(n:Int)<(k:Int))) tt)) (Gets.refl _)
noncomputable def rc_h_f(o1 o2:Option Nat)(e1 e2:Nat)(xs ys:List Nat)(n k:Nat)(i:Int)(j:List Value):Frame:=(Fr 90 ([(sl 5 n e1),(sl 6 k e2),uu,uu,(J j 0),(.int .i64 i)]++(jj j 1 4 ([bF,uu,uu,uu,uu,uu]++(jj j 5 25 [])))) [.code (cd Tryz.f90 [1,1,0,1,0,0]),.inLoop (cd Tryz.f90 [1,1,0,1,0,0]),.inBlock 0,.code (cd Tryz.f90 [1,1,1])])
noncomputable def rc_h_o(o1 o2:Option Nat)(e1 e2:Nat)(xs ys:List Nat)(n k:Nat)(i:Int):List (Nat×AObj):=[(5,(cI xs o1)),(6,(cI ys o2))]
noncomputable def rc_h(o1 o2:Option Nat)(e1 e2:Nat)(xs ys:List Nat)(n k:Nat)(i:Int)(j:List Value):AS:=⟨rc_h_f o1 o2 e1 e2 xs ys n k i j,[],Ac 7 (rc_h_o o1 o2 e1 e2 xs ys n k i)⟩
theorem rc_in(o1 o2:Option Nat)(e1 e2:Nat)(xs ys:List Nat)(n k:Nat)(hn:n<1099511627776)(hkm:k<1099511627776)(hnk:n=k):GT (Ca 90 #[(sl 5 n e1),(sl 6 k e2)] 7 [(5,(cI xs o1)),(6,(cI ys o2))]) (rc_h o1 o2 e1 e2 xs ys n k ((n:Int)-1) [(lI 0),(sl 5 n e1),(nI n),(sl 6 k e2),(nI k),(sl 5 n e1),(nI n),(.int .i64 ((n:Int)-1)),undef,undef,undef,undef,undef,undef,undef,undef,undef,undef,undef,undef,undef,undef,undef,undef,undef,undef,undef,undef,undef,undef]):=
 sR (sc:=[(11,.op (.rwB false)),(8,.op (.rwI ((n:Int)-1))),(4,.stay)]) kr (aI (nF (a:=(n:Int)) (b:=(k:Int))) (aI (Am (a:=((n:Int)-(1:Int))) (r:=((n:Int)-1))) tt))
theorem rc_r(o1 o2:Option Nat)(e1 e2:Nat)(xs ys:List Nat)(n k:Nat)(i:Nat)(a b:Nat)(j:List Value)(hi:i<n)(hnk:n=k)(hc:n≤xs.length)(hk:k≤ys.length)(hn:n<1099511627776)(hx:(ns .i64 xs)[i]? =some (nI a))(hy:(ns .i64 ys)[i]? =some (nI b))(hab:a=b):GT (rc_h o1 o2 e1 e2 xs ys n k (i:Int) j) (rc_h o1 o2 e1 e2 xs ys n k ((i:Int)-1) (jj j 0 8 [(nI i),bT,(nI i),(.int .i64 ((i:Int)-1)),(sl 5 n e1),(nI i),(pp 5 i),(nI a),(sl 6 k e2),(nI i),(pp 6 i),(nI b),bF,(sl 5 n e1),(nI i),(pp 5 i),(nI a),(sl 6 k e2),(nI i),(pp 6 i),(nI b),bF])):=
 sR (sc:=[(4,.op (.rwB true)),(7,.drw [(2,.idx i),(3,.ld (nI a)),(6,.idx i),(7,.ld (nI b)),(8,.rwB false)]),(3,.drw [(2,.idx i),(3,.ld (nI a)),(6,.idx i),(7,.ld (nI b)),(8,.rwB false)]),(5,.op (.rwI ((i:Int)-1))),(3,.stay)]) kr (aI (dT (p:=(i:Int)≥(0:Int))) (aI (aI tt (aI tt (aI (ix (i:Int) (n:Int) 0 1 i) (aI hx (aI tt (aI tt (aI (ix (i:Int) (k:Int) 0 1 i) (aI hy (aI (dF (p:=(a:Int)<(b:Int))) tt))))))))) (aI (aI tt (aI tt (aI (ix (i:Int) (n:Int) 0 1 i) (aI hx (aI tt (aI tt (aI (ix (i:Int) (k:Int) 0 1 i) (aI hy (aI (dF (p:=(a:Int)>(b:Int))) tt))))))))) (aI (Am (a:=((i:Int)-(1:Int))) (r:=((i:Int)-1))) tt))))
theorem rc_o1(o1 o2:Option Nat)(e1 e2:Nat)(xs ys:List Nat)(n k:Nat)(i:Nat)(a b:Nat)(j:List Value)(hi:i<n)(hnk:n=k)(hc:n≤xs.length)(hk:k≤ys.length)(hn:n<1099511627776)(hx:(ns .i64 xs)[i]? =some (nI a))(hy:(ns .i64 ys)[i]? =some (nI b))(hab:a<b)(hr:GT (Ca 90 #[(sl 5 n e1),(sl 6 k e2)] 7 [(5,(cI xs o1)),(6,(cI ys o2))]) (rc_h o1 o2 e1 e2 xs ys n k (i:Int) j)):CT 90 #[(sl 5 n e1),(sl 6 k e2)] (Ac 7 [(5,(cI xs o1)),(6,(cI ys o2))]) (.int .i64 (.negSucc 0)) (Ac 7 [(5,(cI xs o1)),(6,(cI ys o2))]):=
 sF (sc:=[(4,.op (.rwB true)),(7,.drw [(2,.idx i),(3,.ld (nI a)),(6,.idx i),(7,.ld (nI b)),(8,.rwB true)]),(6,.stay)]) kr (aI (dT (p:=(i:Int)≥(0:Int))) (aI (aI tt (aI tt (aI (ix (i:Int) (n:Int) 0 1 i) (aI hx (aI tt (aI tt (aI (ix (i:Int) (k:Int) 0 1 i) (aI hy (aI (dT (p:=(a:Int)<(b:Int))) tt))))))))) tt)) hr
theorem rc_o2(o1 o2:Option Nat)(e1 e2:Nat)(xs ys:List Nat)(n k:Nat)(i:Nat)(a b:Nat)(j:List Value)(hi:i<n)(hnk:n=k)(hc:n≤xs.length)(hk:k≤ys.length)(hn:n<1099511627776)(hx:(ns .i64 xs)[i]? =some (nI a))(hy:(ns .i64 ys)[i]? =some (nI b))(hab:b<a)(hr:GT (Ca 90 #[(sl 5 n e1),(sl 6 k e2)] 7 [(5,(cI xs o1)),(6,(cI ys o2))]) (rc_h o1 o2 e1 e2 xs ys n k (i:Int) j)):CT 90 #[(sl 5 n e1),(sl 6 k e2)] (Ac 7 [(5,(cI xs o1)),(6,(cI ys o2))]) (lI 1) (Ac 7 [(5,(cI xs o1)),(6,(cI ys o2))]):=
 sF (sc:=[(4,.op (.rwB true)),(7,.drw [(2,.idx i),(3,.ld (nI a)),(6,.idx i),(7,.ld (nI b)),(8,.rwB false)]),(3,.drw [(2,.idx i),(3,.ld (nI a)),(6,.idx i),(7,.ld (nI b)),(8,.rwB true)]),(6,.stay)]) kr (aI (dT (p:=(i:Int)≥(0:Int))) (aI (aI tt (aI tt (aI (ix (i:Int) (n:Int) 0 1 i) (aI hx (aI tt (aI tt (aI (ix (i:Int) (k:Int) 0 1 i) (aI hy (aI (dF (p:=(a:Int)<(b:Int))) tt))))))))) (aI (aI tt (aI tt (aI (ix (i:Int) (n:Int) 0 1 i) (aI hx (aI tt (aI tt (aI (ix (i:Int) (k:Int) 0 1 i) (aI hy (aI (dT (p:=(a:Int)>(b:Int))) tt))))))))) tt))) hr
theorem rc_e(o1 o2:Option Nat)(e1 e2:Nat)(xs ys:List Nat)(n k:Nat)(i:Int)(j:List Value)(hi:i<0)(hr:GT (Ca 90 #[(sl 5 n e1),(sl 6 k e2)] 7 [(5,(cI xs o1)),(6,(cI ys o2))]) (rc_h o1 o2 e1 e2 xs ys n k i j)):CT 90 #[(sl 5 n e1),(sl 6 k e2)] (Ac 7 [(5,(cI xs o1)),(6,(cI ys o2))]) (lI 0) (Ac 7 [(5,(cI xs o1)),(6,(cI ys o2))]):=
 sF (sc:=[(4,.op (.rwB false)),(8,.stay)]) kr (aI (dF (p:=i≥(0:Int))) tt) hr
theorem rc_loop{n:Nat}{o1 o2:Option Nat}{e1 e2:Nat}{xs ys:List Nat}(hlx:F.Lim xs)(hly:F.Lim ys)(hc:n≤xs.length)(hk:n≤ys.length)(hn:n<1099511627776): ∀(i:Nat) (j:List Value),i≤n→Gp (F.val (xs.take n)) (F.val (ys.take n))=Gp (F.val (xs.take i)) (F.val (ys.take i))→
  GT (Ca 90 #[(sl 5 n e1),(sl 6 n e2)] 7 [(5,(cI xs o1)),(6,(cI ys o2))]) (rc_h o1 o2 e1 e2 xs ys n n ((i:Int)-1) j)→CT 90 #[(sl 5 n e1),(sl 6 n e2)] (Ac 7 [(5,(cI xs o1)),(6,(cI ys o2))]) (.int .i64 (Gp (F.val (xs.take n)) (F.val (ys.take n)))) (Ac 7 [(5,(cI xs o1)),(6,(cI ys o2))]):=by
 intro i
 induction i with
 |zero=>
  intro j _ ht hr
  have:=rc_e o1 o2 e1 e2 xs ys n n _ j om hr
  rw[ht]
  exact this
 |succ i ih=>
  intro j hi ht hr
  rw[show ((i+1:Nat):Int)-1=(i:Int) by omega]at hr
  by_cases ha:xs.getD i 0=ys.getD i 0
  ·have r:=rc_r o1 o2 e1 e2 xs ys n n i (xs.getD i 0) (ys.getD i 0) j om rfl hc hk hn (Aq) (Aq) ha
   exact ih _ om (by rw[ht,F.val_take_succ,F.val_take_succ,ha];exact cmpN_add _ _ _) (hr.trans r)
  ·rw[ht,F.val_take_succ,F.val_take_succ,cmpN_top (by have:=F.val_lt (hlx.take i);rw[List.length_take,Nat.min_eq_left om]at this;exact this) (by have:=F.val_lt (hly.take i);rw[List.length_take,Nat.min_eq_left om]at this;exact this) ha]
   rcases Nat.lt_or_gt_of_ne ha with hab|hab
   ·rw[Rd hab]
    exact rc_o1 o1 o2 e1 e2 xs ys n n i (xs.getD i 0) (ys.getD i 0) j om rfl hc hk hn (Aq) (Aq) hab hr
   ·rw[Lc hab]
    exact rc_o2 o1 o2 e1 e2 xs ys n n i (xs.getD i 0) (ys.getD i 0) j om rfl hc hk hn (Aq) (Aq) hab hr
theorem Sr(o1 o2:Option Nat)(e1 e2:Nat)(xs ys:List Nat)(n k:Nat)(n0 bx byy:Nat)(hb:5≤bx∧bx<n0∧5≤byy∧byy<n0∧bx≠byy)(hlx:F.Lim xs)(hly:F.Lim ys)(hc:n≤xs.length)(hk:k≤ys.length)(hn:n<1099511627776)(hkm:k<1099511627776)
  (hx:0<n→xs.getD (n-1) 0≠0) (hy:0<k→ys.getD (k-1) 0≠0):
  FT 90 #[sl bx n e1,sl byy k e2] n0 [(bx,.cells (ns .i64 xs) 3 o1 false),(byy,.cells (ns .i64 ys) 3 o2 false)] (.int .i64 (Gp (F.val (xs.take n)) (F.val (ys.take k))))
    [(bx,some (cI xs o1)),(byy,some (cI ys o2))] []:=by
 have S:CT 90 #[(sl 5 n e1),(sl 6 k e2)] (Ac 7 [(5,(cI xs o1)),(6,(cI ys o2))]) (.int .i64 (Gp (F.val (xs.take n)) (F.val (ys.take k)))) (Ac 7 [(5,(cI xs o1)),(6,(cI ys o2))]):=by
  by_cases hnk:n=k
  ·subst hnk
   refine rc_loop hlx hly hc hk hn n _ (Nat.le_refl _) rfl (rc_in o1 o2 e1 e2 xs ys n n hn hkm rfl)
  ·by_cases hlt:n<k
   ·rw[Rd (F.val_lt_of_len hlx hc hlt hy)]
    exact rc_lt o1 o2 e1 e2 xs ys n k hn hkm hlt
   ·rw[Lc (F.val_lt_of_len hly hk om hx)]
    exact rc_gt o1 o2 e1 e2 xs ys n k hn hkm om
 refine ff [bx,byy] [.cells (ns .i64 xs) 3 o1 false,.cells (ns .i64 ys) 3 o2 false] [.cells (ns .i64 xs) 3 o1 false,.cells (ns .i64 ys) 3 o2 false] [] [] n0 S (hnd:= ?_) (hb:= ?_) (fo:= ?_) (fp:= ?_)
 ·simp[hb.2.2.2.2]
 ·simp;omega
 ·simp[Bj,Af]
 ·simp[Bj,Af]
theorem rc_c(n0 bx byy:Nat)(xs ys:List Nat)(n k:Nat):type_of% (Sr (some 1) (some 1) 0 0 xs ys n k n0 bx byy):=Sr (some 1) (some 1) 0 0 xs ys n k n0 bx byy
noncomputable section
abbrev Vz(xs ys:List Nat):Value:=.int .i64 (((((xs.getD 0 0):Nat):Int)-(0:Int))-(((ys.getD 0 0):Nat):Int))
abbrev z_3ac_1(xs:List Nat)(i c:Nat):Value:=.int .i64 ((((xs.getD i 0):Nat):Int)-((c:Nat):Int))
abbrev Rg(xs:List Nat):Value:=.int .i64 ((((xs.getD 0 0):Nat):Int)-(0:Int))
abbrev z_3ac_3(xs ys:List Nat)(i c:Nat):Value:=.int .i64 (((((xs.getD i 0):Nat):Int)-((c:Nat):Int))-(((ys.getD i 0):Nat):Int))
abbrev Hf(xs:List Nat)(i c:Nat):Value:=.int .i64 ((((xs.getD i 0):Nat):Int)-(c:Int))
abbrev Wg(xs ys:List Nat)(i c:Nat):Value:=.int .i64 (((((xs.getD i 0):Nat):Int)-(c:Int))-(((ys.getD i 0):Nat):Int))
abbrev Rh(i:Nat):Value:=pp 5 i
abbrev z_3ac_7(os:List Nat)(v:Nat):AObj:=.cells (ns .i64 (os++[v])) 3 (some 1) false
abbrev z_3ac_8(i:Nat):Value:=pp 6 i
end
noncomputable def rm_h_f(o1 o2:Option Nat)(e1 e2:Nat)(xs ys:List Nat)(na nb:Nat)(os:List Nat)(k c i:Nat)(jc:List Value)(j:List Value):Frame:=(Fr 91 [(sl 5 na e1),(sl 6 nb e2),uu,uu,nS,(sl 8 k 0),(nI c),(nI i),(J jc 0),(J jc 1),(J jc 2),(J jc 3),(J jc 4),(J jc 5),(J jc 6),(J jc 7),(J jc 8),(J jc 9),(J jc 10),(J jc 11),(J jc 12),(J jc 13),(J jc 14),(J jc 15),(J jc 16),(J jc 17),(J jc 18),(J jc 19),(J jc 20),(J jc 21),(J jc 22),(J jc 23),(J jc 24),(J jc 25),(J jc 26),(J j 0),(J jc 27),(J j 1),(J j 2),uu,uu] [.code (cd Tryz.f91 [1,1,1,0,1,0,0]),.inLoop (cd Tryz.f91 [1,1,1,0,1,0,0]),.inBlock 0,.code (cd Tryz.f91 [1,1,1,1])])
noncomputable def Vd(o1 o2:Option Nat)(e1 e2:Nat)(xs ys:List Nat)(na nb:Nat)(os:List Nat)(k c i:Nat)(jc:List Value):List (Nat×AObj):=[(5,(cI xs o1)),(6,(cI ys o2)),(8,(cI os (some 1)))]
noncomputable def Xe(o1 o2:Option Nat)(e1 e2:Nat)(xs ys:List Nat)(na nb:Nat)(os:List Nat)(k c i:Nat)(jc:List Value)(j:List Value):AS:=⟨rm_h_f o1 o2 e1 e2 xs ys na nb os k c i jc j,[],Ac 11 (Vd o1 o2 e1 e2 xs ys na nb os k c i jc)⟩
theorem rm_0tn{s0:AS}(hs0:s0.h.next=7)(o1 o2:Option Nat)(e1 e2:Nat)(xs ys:List Nat)(na nb:Nat)(hna:na≤xs.length)(hnb:nb≤ys.length)(hlx:F.Lim xs)(hly:F.Lim ys)(hma:na<1099511627776)(hmb:nb<1099511627776)(v:Nat)(ha:0<na)(hb:0<nb)(ha2:xs.getD 0 0<10000)(hb2:ys.getD 0 0<10000)(hv:v+ys.getD 0 0=xs.getD 0 0)(hv2:v<10000)(hr:GT s0 (Ca 91 #[(sl 5 na e1),(sl 6 nb e2)] 7 [(5,(cI xs o1)),(6,(cI ys o2))])):GT s0 (Xe o1 o2 e1 e2 xs ys na nb ([v]) 1 0 1 ([(nI v),(lI 0),(sl 5 na e1),(nI na),bT,(lI 0),(lI 1),(sl 5 na e1),(lI 0),(pt 5),(nI (xs.getD 0 0)),(lI 0),(Rg xs),(lI 0),(sl 6 nb e2),(nI nb),bT,(Rg xs),(sl 6 nb e2),(lI 0),(pt 6),(nI (ys.getD 0 0)),(nI v),(nI v),bF,undef,undef,(nI v)]) [nS,(sl 7 1 1),(sl 8 1 0)]):=by
 have h1:=hr.trans (sR (sc:=[(25,.op (.rwB true)),(9,.op (.idx 0)),(0,.op (.ld (nI (xs.getD 0 0)))),(1,.op (.rwI ((((xs.getD 0 0):Nat):Int)-(0:Int)))),(8,.op (.rwB true)),(6,.op (.idx 0)),(0,.op (.ld (nI (ys.getD 0 0)))),(0,.op (.rwI (v:Int))),(10,.op (.rwB false)),(17,.stay)]) (fr1:=(Fr 91 [(sl 5 na e1),(sl 6 nb e2),uu,uu,nS,(sl 8 1 0),(lI 0),(lI 1),(nI v),(lI 0),(sl 5 na e1),(nI na),bT,(lI 0),(lI 1),(sl 5 na e1),(lI 0),(pt 5),(nI (xs.getD 0 0)),(lI 0),(Rg xs),(lI 0),(sl 6 nb e2),(nI nb),bT,(Rg xs),(sl 6 nb e2),(lI 0),(pt 6),(nI (ys.getD 0 0)),(nI v),(nI v),bF,uu,uu,nS,(nI v),(sl 7 1 1),(sl 8 1 0),uu,uu] [.code (cd Tryz.f91 [1,1,1,0,1,0,0]),.inLoop (cd Tryz.f91 [1,1,1,0,1,0,0]),.inBlock 0,.code (cd Tryz.f91 [1,1,1,1])])) (next:=9) (l:=[(5,(cI xs o1)),(6,(cI ys o2)),(8,(.cells [(nI v)] 3 (some 1) false))]) kr (aI (dT (p:=(0:Int)<(na:Int))) (aI (ix (0:Int) (na:Int) 0 1 0) (aI (Aq (k:=.i64) (xs:=xs) (i:=0)) (aI (Am (a:=((((xs.getD 0 0):Nat):Int)-(0:Int))) (r:=((((xs.getD 0 0):Nat):Int)-(0:Int)))) (aI (dT (p:=(0:Int)<(nb:Int))) (aI (ix (0:Int) (nb:Int) 0 1 0) (aI (Aq (k:=.i64) (xs:=ys) (i:=0)) (aI (Am (a:=(((((xs.getD 0 0):Nat):Int)-(0:Int))-(((ys.getD 0 0):Nat):Int))) (r:=(v:Int))) (aI (dF (p:=(v:Int)<(0:Int))) tt))))))))))
 exact Di (b:=7) (k:=0) h1 kr rfl rfl rfl kr (by rw[hs0];decide) (by rw[hs0];decide) de de (by rfl) (by simp only[Vd,List.map_cons,List.map_nil,Ep,Ah _ _ (Af _ _)]) kr
theorem rm_0tm{s0:AS}(hs0:s0.h.next=7)(o1 o2:Option Nat)(e1 e2:Nat)(xs ys:List Nat)(na nb:Nat)(hna:na≤xs.length)(hnb:nb≤ys.length)(hlx:F.Lim xs)(hly:F.Lim ys)(hma:na<1099511627776)(hmb:nb<1099511627776)(v:Nat)(ha:0<na)(hb:0<nb)(ha2:xs.getD 0 0<10000)(hb2:ys.getD 0 0<10000)(hv:v+ys.getD 0 0=xs.getD 0 0+10000)(hv2:v<10000)(hr:GT s0 (Ca 91 #[(sl 5 na e1),(sl 6 nb e2)] 7 [(5,(cI xs o1)),(6,(cI ys o2))])):GT s0 (Xe o1 o2 e1 e2 xs ys na nb ([v]) 1 1 1 ([(nI v),(lI 0),(sl 5 na e1),(nI na),bT,(lI 0),(lI 1),(sl 5 na e1),(lI 0),(pt 5),(nI (xs.getD 0 0)),(lI 0),(Rg xs),(lI 0),(sl 6 nb e2),(nI nb),bT,(Rg xs),(sl 6 nb e2),(lI 0),(pt 6),(nI (ys.getD 0 0)),(Vz xs ys),(Vz xs ys),bT,(Vz xs ys),(nI v),(nI v)]) [nS,(sl 7 1 1),(sl 8 1 0)]):=by
 have h1:=hr.trans (sR (sc:=[(25,.op (.rwB true)),(9,.op (.idx 0)),(0,.op (.ld (nI (xs.getD 0 0)))),(1,.op (.rwI ((((xs.getD 0 0):Nat):Int)-(0:Int)))),(8,.op (.rwB true)),(6,.op (.idx 0)),(0,.op (.ld (nI (ys.getD 0 0)))),(0,.op (.rwI (((((xs.getD 0 0):Nat):Int)-(0:Int))-(((ys.getD 0 0):Nat):Int)))),(10,.op (.rwB true)),(4,.op (.rwI (v:Int))),(17,.stay)]) (fr1:=(Fr 91 [(sl 5 na e1),(sl 6 nb e2),uu,uu,nS,(sl 8 1 0),(lI 1),(lI 1),(nI v),(lI 0),(sl 5 na e1),(nI na),bT,(lI 0),(lI 1),(sl 5 na e1),(lI 0),(pt 5),(nI (xs.getD 0 0)),(lI 0),(Rg xs),(lI 0),(sl 6 nb e2),(nI nb),bT,(Rg xs),(sl 6 nb e2),(lI 0),(pt 6),(nI (ys.getD 0 0)),(Vz xs ys),(Vz xs ys),bT,(Vz xs ys),(nI v),nS,(nI v),(sl 7 1 1),(sl 8 1 0),uu,uu] [.code (cd Tryz.f91 [1,1,1,0,1,0,0]),.inLoop (cd Tryz.f91 [1,1,1,0,1,0,0]),.inBlock 0,.code (cd Tryz.f91 [1,1,1,1])])) (next:=9) (l:=[(5,(cI xs o1)),(6,(cI ys o2)),(8,(.cells [(nI v)] 3 (some 1) false))]) kr (aI (dT (p:=(0:Int)<(na:Int))) (aI (ix (0:Int) (na:Int) 0 1 0) (aI (Aq (k:=.i64) (xs:=xs) (i:=0)) (aI (Am (a:=((((xs.getD 0 0):Nat):Int)-(0:Int))) (r:=((((xs.getD 0 0):Nat):Int)-(0:Int)))) (aI (dT (p:=(0:Int)<(nb:Int))) (aI (ix (0:Int) (nb:Int) 0 1 0) (aI (Aq (k:=.i64) (xs:=ys) (i:=0)) (aI (Am (a:=(((((xs.getD 0 0):Nat):Int)-(0:Int))-(((ys.getD 0 0):Nat):Int))) (r:=(((((xs.getD 0 0):Nat):Int)-(0:Int))-(((ys.getD 0 0):Nat):Int)))) (aI (dT (p:=(((((xs.getD 0 0):Nat):Int)-(0:Int))-(((ys.getD 0 0):Nat):Int))<(0:Int))) (aI (Am (a:=((((((xs.getD 0 0):Nat):Int)-(0:Int))-(((ys.getD 0 0):Nat):Int))+(10000:Int))) (r:=(v:Int))) tt)))))))))))
 exact Di (b:=7) (k:=0) h1 kr rfl rfl rfl kr (by rw[hs0];decide) (by rw[hs0];decide) de de (by rfl) (by simp only[Vd,List.map_cons,List.map_nil,Ep,Ah _ _ (Af _ _)]) kr
theorem rm_0fn{s0:AS}(hs0:s0.h.next=7)(o1 o2:Option Nat)(e1 e2:Nat)(xs ys:List Nat)(na nb:Nat)(hna:na≤xs.length)(hnb:nb≤ys.length)(hlx:F.Lim xs)(hly:F.Lim ys)(hma:na<1099511627776)(hmb:nb<1099511627776)(v:Nat)(ha:0<na)(hb:nb=0)(ha2:xs.getD 0 0<10000)(hb2:ys.getD 0 0<10000)(hv:v=xs.getD 0 0)(hv2:v<10000)(hr:GT s0 (Ca 91 #[(sl 5 na e1),(sl 6 nb e2)] 7 [(5,(cI xs o1)),(6,(cI ys o2))])):GT s0 (Xe o1 o2 e1 e2 xs ys na nb ([v]) 1 0 1 ([(nI v),(lI 0),(sl 5 na e1),(nI na),bT,(lI 0),(lI 1),(sl 5 na e1),(lI 0),(pt 5),(nI (xs.getD 0 0)),(lI 0),(nI v),(lI 0),(sl 6 nb e2),(nI nb),bF,undef,undef,undef,undef,undef,undef,(nI v),bF,undef,undef,(nI v)]) [nS,(sl 7 1 1),(sl 8 1 0)]):=by
 have h1:=hr.trans (sR (sc:=[(25,.op (.rwB true)),(9,.op (.idx 0)),(0,.op (.ld (nI (xs.getD 0 0)))),(1,.op (.rwI (v:Int))),(8,.op (.rwB false)),(11,.op (.rwB false)),(17,.stay)]) (fr1:=(Fr 91 ([(sl 5 na e1),(sl 6 nb e2),uu,uu,nS,(sl 8 1 0),(lI 0),(lI 1),(nI v),(lI 0),(sl 5 na e1),(nI na),bT,(lI 0),(lI 1),(sl 5 na e1),(lI 0),(pt 5),(nI (xs.getD 0 0)),(lI 0),(nI v),(lI 0),(sl 6 nb e2),(nI nb),bF]++(uj 6 [(nI v),bF,uu,uu,nS,(nI v),(sl 7 1 1),(sl 8 1 0),uu,uu])) [.code (cd Tryz.f91 [1,1,1,0,1,0,0]),.inLoop (cd Tryz.f91 [1,1,1,0,1,0,0]),.inBlock 0,.code (cd Tryz.f91 [1,1,1,1])])) (next:=9) (l:=[(5,(cI xs o1)),(6,(cI ys o2)),(8,(.cells [(nI v)] 3 (some 1) false))]) kr (aI (dT (p:=(0:Int)<(na:Int))) (aI (ix (0:Int) (na:Int) 0 1 0) (aI (Aq (k:=.i64) (xs:=xs) (i:=0)) (aI (Am (a:=((((xs.getD 0 0):Nat):Int)-(0:Int))) (r:=(v:Int))) (aI (dF (p:=(0:Int)<(nb:Int))) (aI (dF (p:=(v:Int)<(0:Int))) tt)))))))
 exact Di (b:=7) (k:=0) h1 kr rfl rfl rfl kr (by rw[hs0];decide) (by rw[hs0];decide) de de (by rfl) (by simp only[Vd,List.map_cons,List.map_nil,Ep,Ah _ _ (Af _ _)]) kr
theorem rm_1tn{s0:AS}(hs0:s0.h.next=7)(o1 o2:Option Nat)(e1 e2:Nat)(xs ys:List Nat)(na nb:Nat)(os:List Nat)(k c i:Nat)(jc j:List Value)(hna:na≤xs.length)(hnb:nb≤ys.length)(hlx:F.Lim xs)(hly:F.Lim ys)(hma:na<1099511627776)(hmb:nb<1099511627776)(v:Nat)(hjc:Cm (Ar 7 2) jc)(ha:i<na)(hb:i<nb)(ha2:xs.getD i 0<10000)(hb2:ys.getD i 0<10000)(hc:c≤1)(hv:v+ys.getD i 0+c=xs.getD i 0)(hv2:v<10000)(hk:os.length=k)(hi:k=i)(him:i<2199023255552)(hr:GT s0 (Xe o1 o2 e1 e2 xs ys na nb os k c i jc j)):GT s0 (Xe o1 o2 e1 e2 xs ys na nb (os++[v]) (k+1) 0 (i+1) ([(nI v),(nI i),(sl 5 na e1),(nI na),bT,(nI i),(nI (i+1)),(sl 5 na e1),(nI i),(Rh i),(nI (xs.getD i 0)),(nI c),(Hf xs i c),(nI i),(sl 6 nb e2),(nI nb),bT,(Hf xs i c),(sl 6 nb e2),(nI i),(z_3ac_8 i),(nI (ys.getD i 0)),(nI v),(nI v),bF,(J jc 25),(J jc 26),(nI v)]) [(sl 10 k 0),(sl 7 1 1),(sl 8 (k+1) 0)]):=by
 have h1:=hr.trans (sR (sc:=[(6,.op (.rwB true)),(9,.op (.idx i)),(0,.op (.ld (nI (xs.getD i 0)))),(1,.op (.rwI ((((xs.getD i 0):Nat):Int)-(c:Int)))),(8,.op (.rwB true)),(6,.op (.idx i)),(0,.op (.ld (nI (ys.getD i 0)))),(0,.op (.rwI (v:Int))),(10,.op (.rwB false)),(7,.op (.appG (k+1) (ns .i64 (os++[v])))),(5,.op (.rwI (((i+1):Nat):Int))),(3,.stay)]) (fr1:=(Fr 91 [(sl 5 na e1),(sl 6 nb e2),uu,uu,nS,(sl 12 (k+1) 0),(lI 0),(nI (i+1)),(nI v),(nI i),(sl 5 na e1),(nI na),bT,(nI i),(nI (i+1)),(sl 5 na e1),(nI i),(Rh i),(nI (xs.getD i 0)),(nI c),(Hf xs i c),(nI i),(sl 6 nb e2),(nI nb),bT,(Hf xs i c),(sl 6 nb e2),(nI i),(z_3ac_8 i),(nI (ys.getD i 0)),(nI v),(nI v),bF,(J jc 25),(J jc 26),(sl 8 k 0),(nI v),(sl 11 1 1),(sl 12 (k+1) 0),uu,uu] [.code (cd Tryz.f91 [1,1,1,0,1,0,0]),.inLoop (cd Tryz.f91 [1,1,1,0,1,0,0]),.inBlock 0,.code (cd Tryz.f91 [1,1,1,1])])) (next:=13) (l:=[(5,(cI xs o1)),(6,(cI ys o2)),(12,(z_3ac_7 os v))]) kr (aI (dT (p:=(i:Int)<(na:Int))) (aI (ix (i:Int) (na:Int) 0 1 i) (aI (Aq (k:=.i64) (xs:=xs) (i:=i)) (aI (Am (a:=((((xs.getD i 0):Nat):Int)-(c:Int))) (r:=((((xs.getD i 0):Nat):Int)-(c:Int)))) (aI (dT (p:=(i:Int)<(nb:Int))) (aI (ix (i:Int) (nb:Int) 0 1 i) (aI (Aq (k:=.i64) (xs:=ys) (i:=i)) (aI (Am (a:=(((((xs.getD i 0):Nat):Int)-(c:Int))-(((ys.getD i 0):Nat):Int))) (r:=(v:Int))) (aI (dF (p:=(v:Int)<(0:Int))) (aI (show k+1=(k+1)∧(k+1)*8≤140737488355328∧(k+1)≤9223372036854775807∧((ns .i64 os):List Value).length=k*1∧((ns .i64 os):List Value)++[(nI v)]=(ns .i64 (os++[v])) from⟨by omega,by omega,by omega,by rw[Bh,Nat.mul_one];omega,Nd _ _ _⟩) (aI (Am (a:=((i:Int)+(1:Int))) (r:=(((i+1):Nat):Int))) tt))))))))))))
 rw[←Ap (Ar 7 2) hjc 25]at h1
 rw[←Ap (Ar 7 2) hjc 26]at h1
 exact Di (b:=7) (k:=2) h1 kr rfl rfl rfl kr (by rw[hs0];decide) (by rw[hs0];decide) de de (by rfl) (by simp only[Vd,List.map_cons,List.map_nil,Ep,Ah _ _ (Af _ _)]) kr
theorem rm_1tm{s0:AS}(hs0:s0.h.next=7)(o1 o2:Option Nat)(e1 e2:Nat)(xs ys:List Nat)(na nb:Nat)(os:List Nat)(k c i:Nat)(jc j:List Value)(hna:na≤xs.length)(hnb:nb≤ys.length)(hlx:F.Lim xs)(hly:F.Lim ys)(hma:na<1099511627776)(hmb:nb<1099511627776)(v:Nat)(hjc:Cm (Ar 7 2) jc)(ha:i<na)(hb:i<nb)(ha2:xs.getD i 0<10000)(hb2:ys.getD i 0<10000)(hc:c≤1)(hv:v+ys.getD i 0+c=xs.getD i 0+10000)(hv2:v<10000)(hk:os.length=k)(hi:k=i)(him:i<2199023255552)(hr:GT s0 (Xe o1 o2 e1 e2 xs ys na nb os k c i jc j)):GT s0 (Xe o1 o2 e1 e2 xs ys na nb (os++[v]) (k+1) 1 (i+1) ([(nI v),(nI i),(sl 5 na e1),(nI na),bT,(nI i),(nI (i+1)),(sl 5 na e1),(nI i),(Rh i),(nI (xs.getD i 0)),(nI c),(Hf xs i c),(nI i),(sl 6 nb e2),(nI nb),bT,(Hf xs i c),(sl 6 nb e2),(nI i),(z_3ac_8 i),(nI (ys.getD i 0)),(Wg xs ys i c),(Wg xs ys i c),bT,(Wg xs ys i c),(nI v),(nI v)]) [(sl 10 k 0),(sl 7 1 1),(sl 8 (k+1) 0)]):=by
 have h1:=hr.trans (sR (sc:=[(6,.op (.rwB true)),(9,.op (.idx i)),(0,.op (.ld (nI (xs.getD i 0)))),(1,.op (.rwI ((((xs.getD i 0):Nat):Int)-(c:Int)))),(8,.op (.rwB true)),(6,.op (.idx i)),(0,.op (.ld (nI (ys.getD i 0)))),(0,.op (.rwI (((((xs.getD i 0):Nat):Int)-(c:Int))-(((ys.getD i 0):Nat):Int)))),(10,.op (.rwB true)),(4,.op (.rwI (v:Int))),(7,.op (.appG (k+1) (ns .i64 (os++[v])))),(5,.op (.rwI (((i+1):Nat):Int))),(3,.stay)]) (fr1:=(Fr 91 [(sl 5 na e1),(sl 6 nb e2),uu,uu,nS,(sl 12 (k+1) 0),(lI 1),(nI (i+1)),(nI v),(nI i),(sl 5 na e1),(nI na),bT,(nI i),(nI (i+1)),(sl 5 na e1),(nI i),(Rh i),(nI (xs.getD i 0)),(nI c),(Hf xs i c),(nI i),(sl 6 nb e2),(nI nb),bT,(Hf xs i c),(sl 6 nb e2),(nI i),(z_3ac_8 i),(nI (ys.getD i 0)),(Wg xs ys i c),(Wg xs ys i c),bT,(Wg xs ys i c),(nI v),(sl 8 k 0),(nI v),(sl 11 1 1),(sl 12 (k+1) 0),uu,uu] [.code (cd Tryz.f91 [1,1,1,0,1,0,0]),.inLoop (cd Tryz.f91 [1,1,1,0,1,0,0]),.inBlock 0,.code (cd Tryz.f91 [1,1,1,1])])) (next:=13) (l:=[(5,(cI xs o1)),(6,(cI ys o2)),(12,(z_3ac_7 os v))]) kr (aI (dT (p:=(i:Int)<(na:Int))) (aI (ix (i:Int) (na:Int) 0 1 i) (aI (Aq (k:=.i64) (xs:=xs) (i:=i)) (aI (Am (a:=((((xs.getD i 0):Nat):Int)-(c:Int))) (r:=((((xs.getD i 0):Nat):Int)-(c:Int)))) (aI (dT (p:=(i:Int)<(nb:Int))) (aI (ix (i:Int) (nb:Int) 0 1 i) (aI (Aq (k:=.i64) (xs:=ys) (i:=i)) (aI (Am (a:=(((((xs.getD i 0):Nat):Int)-(c:Int))-(((ys.getD i 0):Nat):Int))) (r:=(((((xs.getD i 0):Nat):Int)-(c:Int))-(((ys.getD i 0):Nat):Int)))) (aI (dT (p:=(((((xs.getD i 0):Nat):Int)-(c:Int))-(((ys.getD i 0):Nat):Int))<(0:Int))) (aI (Am (a:=((((((xs.getD i 0):Nat):Int)-(c:Int))-(((ys.getD i 0):Nat):Int))+(10000:Int))) (r:=(v:Int))) (aI (show k+1=(k+1)∧(k+1)*8≤140737488355328∧(k+1)≤9223372036854775807∧((ns .i64 os):List Value).length=k*1∧((ns .i64 os):List Value)++[(nI v)]=(ns .i64 (os++[v])) from⟨by omega,by omega,by omega,by rw[Bh,Nat.mul_one];omega,Nd _ _ _⟩) (aI (Am (a:=((i:Int)+(1:Int))) (r:=(((i+1):Nat):Int))) tt)))))))))))))
 exact Di (b:=7) (k:=2) h1 kr rfl rfl rfl kr (by rw[hs0];decide) (by rw[hs0];decide) de de (by rfl) (by simp only[Vd,List.map_cons,List.map_nil,Ep,Ah _ _ (Af _ _)]) kr
theorem rm_1fn{s0:AS}(hs0:s0.h.next=7)(o1 o2:Option Nat)(e1 e2:Nat)(xs ys:List Nat)(na nb:Nat)(os:List Nat)(k c i:Nat)(jc j:List Value)(hna:na≤xs.length)(hnb:nb≤ys.length)(hlx:F.Lim xs)(hly:F.Lim ys)(hma:na<1099511627776)(hmb:nb<1099511627776)(v:Nat)(hjc:Cm (Ar 7 2) jc)(ha:i<na)(hb:nb≤i)(ha2:xs.getD i 0<10000)(hb2:ys.getD i 0<10000)(hc:c≤1)(hv:v+c=xs.getD i 0)(hv2:v<10000)(hk:os.length=k)(hi:k=i)(him:i<2199023255552)(hr:GT s0 (Xe o1 o2 e1 e2 xs ys na nb os k c i jc j)):GT s0 (Xe o1 o2 e1 e2 xs ys na nb (os++[v]) (k+1) 0 (i+1) ([(nI v),(nI i),(sl 5 na e1),(nI na),bT,(nI i),(nI (i+1)),(sl 5 na e1),(nI i),(Rh i),(nI (xs.getD i 0)),(nI c),(nI v),(nI i),(sl 6 nb e2),(nI nb),bF,(J jc 17),(J jc 18),(J jc 19),(J jc 20),(J jc 21),(J jc 22),(nI v),bF,(J jc 25),(J jc 26),(nI v)]) [(sl 10 k 0),(sl 7 1 1),(sl 8 (k+1) 0)]):=by
 have h1:=hr.trans (sR (sc:=[(6,.op (.rwB true)),(9,.op (.idx i)),(0,.op (.ld (nI (xs.getD i 0)))),(1,.op (.rwI (v:Int))),(8,.op (.rwB false)),(11,.op (.rwB false)),(7,.op (.appG (k+1) (ns .i64 (os++[v])))),(5,.op (.rwI (((i+1):Nat):Int))),(3,.stay)]) (fr1:=(Fr 91 [(sl 5 na e1),(sl 6 nb e2),uu,uu,nS,(sl 12 (k+1) 0),(lI 0),(nI (i+1)),(nI v),(nI i),(sl 5 na e1),(nI na),bT,(nI i),(nI (i+1)),(sl 5 na e1),(nI i),(Rh i),(nI (xs.getD i 0)),(nI c),(nI v),(nI i),(sl 6 nb e2),(nI nb),bF,(J jc 17),(J jc 18),(J jc 19),(J jc 20),(J jc 21),(J jc 22),(nI v),bF,(J jc 25),(J jc 26),(sl 8 k 0),(nI v),(sl 11 1 1),(sl 12 (k+1) 0),uu,uu] [.code (cd Tryz.f91 [1,1,1,0,1,0,0]),.inLoop (cd Tryz.f91 [1,1,1,0,1,0,0]),.inBlock 0,.code (cd Tryz.f91 [1,1,1,1])])) (next:=13) (l:=[(5,(cI xs o1)),(6,(cI ys o2)),(12,(z_3ac_7 os v))]) kr (aI (dT (p:=(i:Int)<(na:Int))) (aI (ix (i:Int) (na:Int) 0 1 i) (aI (Aq (k:=.i64) (xs:=xs) (i:=i)) (aI (Am (a:=((((xs.getD i 0):Nat):Int)-(c:Int))) (r:=(v:Int))) (aI (dF (p:=(i:Int)<(nb:Int))) (aI (dF (p:=(v:Int)<(0:Int))) (aI (show k+1=(k+1)∧(k+1)*8≤140737488355328∧(k+1)≤9223372036854775807∧((ns .i64 os):List Value).length=k*1∧((ns .i64 os):List Value)++[(nI v)]=(ns .i64 (os++[v])) from⟨by omega,by omega,by omega,by rw[Bh,Nat.mul_one];omega,Nd _ _ _⟩) (aI (Am (a:=((i:Int)+(1:Int))) (r:=(((i+1):Nat):Int))) tt)))))))))
 rw[←Ap (Ar 7 2) hjc 17]at h1
 rw[←Ap (Ar 7 2) hjc 18]at h1
 rw[←Ap (Ar 7 2) hjc 19]at h1
 rw[←Ap (Ar 7 2) hjc 20]at h1
 rw[←Ap (Ar 7 2) hjc 21]at h1
 rw[←Ap (Ar 7 2) hjc 22]at h1
 rw[←Ap (Ar 7 2) hjc 25]at h1
 rw[←Ap (Ar 7 2) hjc 26]at h1
 exact Di (b:=7) (k:=2) h1 kr rfl rfl rfl kr (by rw[hs0];decide) (by rw[hs0];decide) de de (by rfl) (by simp only[Vd,List.map_cons,List.map_nil,Ep,Ah _ _ (Af _ _)]) kr
theorem rm_1fm{s0:AS}(hs0:s0.h.next=7)(o1 o2:Option Nat)(e1 e2:Nat)(xs ys:List Nat)(na nb:Nat)(os:List Nat)(k c i:Nat)(jc j:List Value)(hna:na≤xs.length)(hnb:nb≤ys.length)(hlx:F.Lim xs)(hly:F.Lim ys)(hma:na<1099511627776)(hmb:nb<1099511627776)(v:Nat)(hjc:Cm (Ar 7 2) jc)(ha:i<na)(hb:nb≤i)(ha2:xs.getD i 0<10000)(hb2:ys.getD i 0<10000)(hc:c≤1)(hv:v+c=xs.getD i 0+10000)(hv2:v<10000)(hk:os.length=k)(hi:k=i)(him:i<2199023255552)(hr:GT s0 (Xe o1 o2 e1 e2 xs ys na nb os k c i jc j)):GT s0 (Xe o1 o2 e1 e2 xs ys na nb (os++[v]) (k+1) 1 (i+1) ([(nI v),(nI i),(sl 5 na e1),(nI na),bT,(nI i),(nI (i+1)),(sl 5 na e1),(nI i),(Rh i),(nI (xs.getD i 0)),(nI c),(Hf xs i c),(nI i),(sl 6 nb e2),(nI nb),bF,(J jc 17),(J jc 18),(J jc 19),(J jc 20),(J jc 21),(J jc 22),(Hf xs i c),bT,(Hf xs i c),(nI v),(nI v)]) [(sl 10 k 0),(sl 7 1 1),(sl 8 (k+1) 0)]):=by
 have h1:=hr.trans (sR (sc:=[(6,.op (.rwB true)),(9,.op (.idx i)),(0,.op (.ld (nI (xs.getD i 0)))),(1,.op (.rwI ((((xs.getD i 0):Nat):Int)-(c:Int)))),(8,.op (.rwB false)),(11,.op (.rwB true)),(4,.op (.rwI (v:Int))),(7,.op (.appG (k+1) (ns .i64 (os++[v])))),(5,.op (.rwI (((i+1):Nat):Int))),(3,.stay)]) (fr1:=(Fr 91 [(sl 5 na e1),(sl 6 nb e2),uu,uu,nS,(sl 12 (k+1) 0),(lI 1),(nI (i+1)),(nI v),(nI i),(sl 5 na e1),(nI na),bT,(nI i),(nI (i+1)),(sl 5 na e1),(nI i),(Rh i),(nI (xs.getD i 0)),(nI c),(Hf xs i c),(nI i),(sl 6 nb e2),(nI nb),bF,(J jc 17),(J jc 18),(J jc 19),(J jc 20),(J jc 21),(J jc 22),(Hf xs i c),bT,(Hf xs i c),(nI v),(sl 8 k 0),(nI v),(sl 11 1 1),(sl 12 (k+1) 0),uu,uu] [.code (cd Tryz.f91 [1,1,1,0,1,0,0]),.inLoop (cd Tryz.f91 [1,1,1,0,1,0,0]),.inBlock 0,.code (cd Tryz.f91 [1,1,1,1])])) (next:=13) (l:=[(5,(cI xs o1)),(6,(cI ys o2)),(12,(z_3ac_7 os v))]) kr (aI (dT (p:=(i:Int)<(na:Int))) (aI (ix (i:Int) (na:Int) 0 1 i) (aI (Aq (k:=.i64) (xs:=xs) (i:=i)) (aI (Am (a:=((((xs.getD i 0):Nat):Int)-(c:Int))) (r:=((((xs.getD i 0):Nat):Int)-(c:Int)))) (aI (dF (p:=(i:Int)<(nb:Int))) (aI (dT (p:=((((xs.getD i 0):Nat):Int)-(c:Int))<(0:Int))) (aI (Am (a:=(((((xs.getD i 0):Nat):Int)-(c:Int))+(10000:Int))) (r:=(v:Int))) (aI (show k+1=(k+1)∧(k+1)*8≤140737488355328∧(k+1)≤9223372036854775807∧((ns .i64 os):List Value).length=k*1∧((ns .i64 os):List Value)++[(nI v)]=(ns .i64 (os++[v])) from⟨by omega,by omega,by omega,by rw[Bh,Nat.mul_one];omega,Nd _ _ _⟩) (aI (Am (a:=((i:Int)+(1:Int))) (r:=(((i+1):Nat):Int))) tt))))))))))
 rw[←Ap (Ar 7 2) hjc 17]at h1
 rw[←Ap (Ar 7 2) hjc 18]at h1
 rw[←Ap (Ar 7 2) hjc 19]at h1
 rw[←Ap (Ar 7 2) hjc 20]at h1
 rw[←Ap (Ar 7 2) hjc 21]at h1
 rw[←Ap (Ar 7 2) hjc 22]at h1
 exact Di (b:=7) (k:=2) h1 kr rfl rfl rfl kr (by rw[hs0];decide) (by rw[hs0];decide) de de (by rfl) (by simp only[Vd,List.map_cons,List.map_nil,Ep,Ah _ _ (Af _ _)]) kr
theorem rm_o(o1 o2:Option Nat)(e1 e2:Nat)(xs ys:List Nat)(na nb:Nat)(os:List Nat)(k c i:Nat)(jc j:List Value)(ha:na≤i)(hk:k≤os.length)(hkm:k<1099511627776)(hr:GT (Ca 91 #[(sl 5 na e1),(sl 6 nb e2)] 7 [(5,(cI xs o1)),(6,(cI ys o2))]) (Xe o1 o2 e1 e2 xs ys na nb os k c i jc j)):CT 91 #[(sl 5 na e1),(sl 6 nb e2)] (Ac 7 [(5,(cI xs o1)),(6,(cI ys o2))]) (sl 8 (F.top os k) 0) (Ac 11 [(5,(cI xs o1)),(6,(cI ys o2)),(8,(cI os (some 1)))]):=
 sF (sc:=[(6,.op (.rwB false)),(6,.call [8] (sl 8 (F.top os k) 0) [(8,some (cI os (some 1)))] []),(3,.stay)]) kr (aI (dF (p:=(i:Int)<(na:Int))) (aI (rt_c 11 8 os k om om om) tt)) hr
theorem rm_loop{o1 o2:Option Nat}{e1 e2:Nat}{xs ys:List Nat}{na nb:Nat}(hna:na≤xs.length)(hnb:nb≤ys.length)(hlx:F.Lim xs)(hly:F.Lim ys)(hma:na<1099511627776)(hmb:nb<1099511627776): ∀(n:Nat) (os:List Nat) (c i:Nat) (jc j:List Value),na-i=n→os.length=i→c≤1→i≤na→F.Lim os→F.val os+F.val (ys.take nb)+10000^i*F.val ((xs.take na).drop i)=F.val (xs.take na)+10000^i*F.val ((ys.take nb).drop i)+c*10000^i→Cm (Ar 7 2) jc→GT (Ca 91 #[(sl 5 na e1),(sl 6 nb e2)] 7 [(5,(cI xs o1)),(6,(cI ys o2))]) (Xe o1 o2 e1 e2 xs ys na nb os i c i jc j)→
  ∃os' c' jc' j',os'.length=na∧c'≤1∧F.Lim os'∧F.val os'+F.val (ys.take nb)+10000^na*F.val ((xs.take na).drop na)=F.val (xs.take na)+10000^na*F.val ((ys.take nb).drop na)+c'*10000^na∧GT (Ca 91 #[(sl 5 na e1),(sl 6 nb e2)] 7 [(5,(cI xs o1)),(6,(cI ys o2))]) (Xe o1 o2 e1 e2 xs ys na nb os' na c' na jc' j'):=by
 intro n
 induction n with
 |zero=>
  intro os c i jc j hn hl hc hi hos hinv hjc hr
  obtain rfl:i=na:=by omega
  exact⟨os,c,jc,j,hl,hc,hos,hinv,hr⟩
 |succ n ih=>
  intro os c i jc j hn hl hc him hos hinv hjc hr
  have hi:i<na:=by omega
  have hx:=hlx.get i
  have hy:=hly.get i
  by_cases hb:i<nb
  ·by_cases hg:ys.getD i 0+c≤xs.getD i 0
   ·obtain⟨v,hv⟩: ∃v,v=xs.getD i 0-(ys.getD i 0+c):=⟨_,rfl⟩
    have r:=rm_1tn (s0:=(Ca 91 #[(sl 5 na e1),(sl 6 nb e2)] 7 [(5,(cI xs o1)),(6,(cI ys o2))])) rfl o1 o2 e1 e2 xs ys na nb os i c i jc j hna hnb hlx hly hma hmb v hjc hi om hx hy hc om om hl rfl om hr
    have q:=F.diff_round (X:=xs.take na) (Y:=ys.take nb) (v:=v) (d:=0) hl (by rw[F.getD_take hi,F.getD_take hb];omega) hinv
    exact ih _ _ _ _ _ om (by rw[List.length_append,hl];rfl) om om (hos.append fun x hx=>by rw[List.mem_singleton]at hx;rw[hx];omega) q (by unfold Cm;simp only[Qr,Ap _ hjc];rfl) r
   ·obtain⟨v,hv⟩: ∃v,v=xs.getD i 0+10000-(ys.getD i 0+c):=⟨_,rfl⟩
    have r:=rm_1tm (s0:=(Ca 91 #[(sl 5 na e1),(sl 6 nb e2)] 7 [(5,(cI xs o1)),(6,(cI ys o2))])) rfl o1 o2 e1 e2 xs ys na nb os i c i jc j hna hnb hlx hly hma hmb v hjc hi om hx hy hc om om hl rfl om hr
    have q:=F.diff_round (X:=xs.take na) (Y:=ys.take nb) (v:=v) (d:=1) hl (by rw[F.getD_take hi,F.getD_take hb];omega) hinv
    exact ih _ _ _ _ _ om (by rw[List.length_append,hl];rfl) om om (hos.append fun x hx=>by rw[List.mem_singleton]at hx;rw[hx];omega) q (by unfold Cm;simp only[Qr,Ap _ hjc];rfl) r
  ·by_cases hg:c≤xs.getD i 0
   ·obtain⟨v,hv⟩: ∃v,v=xs.getD i 0-c:=⟨_,rfl⟩
    have r:=rm_1fn (s0:=(Ca 91 #[(sl 5 na e1),(sl 6 nb e2)] 7 [(5,(cI xs o1)),(6,(cI ys o2))])) rfl o1 o2 e1 e2 xs ys na nb os i c i jc j hna hnb hlx hly hma hmb v hjc hi om hx hy hc om om hl rfl om hr
    have q:=F.diff_round (X:=xs.take na) (Y:=ys.take nb) (v:=v) (d:=0) hl (by rw[F.getD_take hi,F.getD_le (l:=ys.take nb) (by rw[List.length_take];omega)];omega) hinv
    exact ih _ _ _ _ _ om (by rw[List.length_append,hl];rfl) om om (hos.append fun x hx=>by rw[List.mem_singleton]at hx;rw[hx];omega) q (by unfold Cm;simp only[Qr,Ap _ hjc];rfl) r
   ·obtain⟨v,hv⟩: ∃v,v=xs.getD i 0+10000-c:=⟨_,rfl⟩
    have r:=rm_1fm (s0:=(Ca 91 #[(sl 5 na e1),(sl 6 nb e2)] 7 [(5,(cI xs o1)),(6,(cI ys o2))])) rfl o1 o2 e1 e2 xs ys na nb os i c i jc j hna hnb hlx hly hma hmb v hjc hi om hx hy hc om om hl rfl om hr
    have q:=F.diff_round (X:=xs.take na) (Y:=ys.take nb) (v:=v) (d:=1) hl (by rw[F.getD_take hi,F.getD_le (l:=ys.take nb) (by rw[List.length_take];omega)];omega) hinv
    exact ih _ _ _ _ _ om (by rw[List.length_append,hl];rfl) om om (hos.append fun x hx=>by rw[List.mem_singleton]at hx;rw[hx];omega) q (by unfold Cm;simp only[Qr,Ap _ hjc];rfl) r
theorem rmg_c(o1 o2:Option Nat)(e1 e2:Nat)(xs ys:List Nat)(na nb:Nat)(hna:na≤xs.length)(hnb:nb≤ys.length)(hlx:F.Lim xs)(hly:F.Lim ys)(hma:na<1099511627776)(hmb:nb<1099511627776)(h0:0<na)(hba:nb≤na)(hle:F.val (ys.take nb)≤F.val (xs.take na)):
  ∃os t,F.Lim os∧t=F.top os os.length∧os.length=na∧F.val (os.take t)+F.val (ys.take nb)=F.val (xs.take na)∧ ∀(n0 b1 b2:Nat),5≤b1→b1<n0→5≤b2→b2<n0→b1≠b2→
   FT 91 #[sl b1 na e1,sl b2 nb e2] n0 [(b1,.cells (ns .i64 xs) 3 o1 false),(b2,.cells (ns .i64 ys) 3 o2 false)] (sl n0 t 0) [(b1,some (cI xs o1)),(b2,some (cI ys o2))] [.cells (ns .i64 os) 3 (some 1) false]:=by
 have hx:=hlx.get 0
 have hy:=hly.get 0
 obtain⟨os,c,jc,j,h1,h2,h3,h4,hr⟩: ∃os' c' jc' j',os'.length=na∧c'≤1∧F.Lim os'∧F.val os'+F.val (ys.take nb)+10000^na*F.val ((xs.take na).drop na)=F.val (xs.take na)+10000^na*F.val ((ys.take nb).drop na)+c'*10000^na∧GT (Ca 91 #[(sl 5 na e1),(sl 6 nb e2)] 7 [(5,(cI xs o1)),(6,(cI ys o2))]) (Xe o1 o2 e1 e2 xs ys na nb os' na c' na jc' j'):=by
  by_cases hb:0<nb
  ·by_cases hg:ys.getD 0 0≤xs.getD 0 0
   ·obtain⟨v,hv⟩: ∃v,v=xs.getD 0 0-ys.getD 0 0:=⟨_,rfl⟩
    have r:=rm_0tn (s0:=(Ca 91 #[(sl 5 na e1),(sl 6 nb e2)] 7 [(5,(cI xs o1)),(6,(cI ys o2))])) rfl o1 o2 e1 e2 xs ys na nb hna hnb hlx hly hma hmb v h0 om hx hy om om (Gets.refl _)
    have q:=F.diff_round (os:=[]) (i:=0) (c:=0) (Z:=F.val (ys.take nb)) (T:=F.val (xs.take na)) (X:=xs.take na) (Y:=ys.take nb) (v:=v) (d:=0) rfl (by rw[F.getD_take h0,F.getD_take hb];omega) (by simp[F.val,Nat.add_comm])
    exact rm_loop hna hnb hlx hly hma hmb _ [v] 0 1 _ _ rfl rfl om om (fun x hx=>by rw[List.mem_singleton]at hx;rw[hx];omega) q (by rfl) r
   ·obtain⟨v,hv⟩: ∃v,v=xs.getD 0 0+10000-ys.getD 0 0:=⟨_,rfl⟩
    have r:=rm_0tm (s0:=(Ca 91 #[(sl 5 na e1),(sl 6 nb e2)] 7 [(5,(cI xs o1)),(6,(cI ys o2))])) rfl o1 o2 e1 e2 xs ys na nb hna hnb hlx hly hma hmb v h0 om hx hy om om (Gets.refl _)
    have q:=F.diff_round (os:=[]) (i:=0) (c:=0) (Z:=F.val (ys.take nb)) (T:=F.val (xs.take na)) (X:=xs.take na) (Y:=ys.take nb) (v:=v) (d:=1) rfl (by rw[F.getD_take h0,F.getD_take hb];omega) (by simp[F.val,Nat.add_comm])
    exact rm_loop hna hnb hlx hly hma hmb _ [v] 1 1 _ _ rfl rfl om om (fun x hx=>by rw[List.mem_singleton]at hx;rw[hx];omega) q (by rfl) r
  ·obtain⟨v,hv⟩: ∃v,v=xs.getD 0 0:=⟨_,rfl⟩
   have r:=rm_0fn (s0:=(Ca 91 #[(sl 5 na e1),(sl 6 nb e2)] 7 [(5,(cI xs o1)),(6,(cI ys o2))])) rfl o1 o2 e1 e2 xs ys na nb hna hnb hlx hly hma hmb v h0 om hx hy om om (Gets.refl _)
   have q:=F.diff_round (os:=[]) (i:=0) (c:=0) (Z:=F.val (ys.take nb)) (T:=F.val (xs.take na)) (X:=xs.take na) (Y:=ys.take nb) (v:=v) (d:=0) rfl (by rw[F.getD_take h0,F.getD_le (l:=ys.take nb) (by rw[List.length_take];omega)];omega) (by simp[F.val,Nat.add_comm])
   exact rm_loop hna hnb hlx hly hma hmb _ [v] 0 1 _ _ rfl rfl om om (fun x hx=>by rw[List.mem_singleton]at hx;rw[hx];omega) q (by rfl) r
 have S:=rm_o o1 o2 e1 e2 xs ys na nb os na c na jc j (Nat.le_refl _) om hma hr
 have hlt:=F.val_lt h3
 rw[h1]at hlt
 rw[List.drop_eq_nil_of_le (by rw[List.length_take];omega),List.drop_eq_nil_of_le (by rw[List.length_take];omega)]at h4
 have hc0:c=0:=by
  rcases Nat.eq_zero_or_pos c with h|h
  ·exact h
  ·obtain rfl:c=1:=by omega
   simp[F.val]at h4
   omega
 subst hc0
 refine⟨os,F.top os os.length,h3,rfl,h1,?_,fun n0 b1 b2 g1 g2 g3 g4 g5=> ?_⟩
 ·rw[F.top_val,List.take_length]
  simpa [F.val] using h4
 ·rw[h1]
  exact ff [b1,b2] [.cells (ns .i64 xs) 3 o1 false,.cells (ns .i64 ys) 3 o2 false] [.cells (ns .i64 xs) 3 o1 false,.cells (ns .i64 ys) 3 o2 false] [8] [.cells (ns .i64 os) 3 (some 1) false] n0 S (hnd:=by simp[g5])
theorem rm_c(xs ys:List Nat)(na nb:Nat):type_of% (@rmg_c (some 1) (some 1) 0 0 xs ys na nb):= @rmg_c (some 1) (some 1) 0 0 xs ys na nb
end Go.Proofs.YtjbflfbhfnkmlaaGreatDoor
