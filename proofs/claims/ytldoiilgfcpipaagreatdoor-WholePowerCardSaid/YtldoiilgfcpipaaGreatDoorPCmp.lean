import Derived.Test.YtldoiilgfcpipaaGreatDoorPWf
import Derived.Test.YtldoiilgfcpipaaGreatDoorPCnt
import Derived.Test.YtldoiilgfcpipaaGreatDoorLE
import Derived.Test.YtldoiilgfcpipaaGreatDoorPText
import Derived.Test.YtldoiilgfcpipaaGreatDoorPTopBit
import Derived.Test.YtldoiilgfcpipaaGreatDoorK
import Derived.Test.YtldoiilgfcpipaaGreatDoorLF
set_option linter.unusedVariables false
set_option linter.unusedSimpArgs false
set_option maxRecDepth 100000
namespace Go.Proofs.YtldoiilgfcpipaaGreatDoor
open Go Go.AE Seg
noncomputable section
abbrev Lk(xs ys:List Nat):List (Nat×AObj):=[(5,(cU xs)),(6,(cU ys))]
end
theorem cmp_lt(xs ys:List Nat)(n c k e:Nat)(hn:n<1099511627776)(hkm:k<1099511627776)(hlt:n<k):CT 152 #[(sl 5 n c),(sl 6 k e)] (Ag 7 (Lk xs ys)) (.int .i64 (.negSucc 0)) (Ag 7 (Lk xs ys)):=
 sF (sc:=[(11,.op (.rwB true)),(25,.op (.rwB false)),(18,.op (.rwB false)),(25,.op (.rwB true)),(11,.stay)]) kr (aI (nT (a:=(n:Int)) (b:=(k:Int))) (aI (nF (a:=(n:Int)) (b:=(n:Int))) (aI (nF (a:=(k:Int)) (b:=(k:Int))) (aI (dT (p:=(n:Int)<(k:Int))) tt)))) (Gets.refl _)
theorem cmp_gt(xs ys:List Nat)(n c k e:Nat)(hn:n<1099511627776)(hkm:k<1099511627776)(hlt:k<n):CT 152 #[(sl 5 n c),(sl 6 k e)] (Ag 7 (Lk xs ys)) (lI 1) (Ag 7 (Lk xs ys)):=
 sF (sc:=[(11,.op (.rwB true)),(25,.op (.rwB false)),(18,.op (.rwB false)),(25,.op (.rwB false)),(8,.op (.rwB true)),(11,.stay)]) kr (aI (nT (a:=(n:Int)) (b:=(k:Int))) (aI (nF (a:=(n:Int)) (b:=(n:Int))) (aI (nF (a:=(k:Int)) (b:=(k:Int))) (aI (dF (p:=(n:Int)<(k:Int))) (aI (dT (p:=(n:Int)>(k:Int))) tt))))) (Gets.refl _)
noncomputable def cmp_h_f(xs ys:List Nat)(n c k e:Nat)(i:Int)(j:List Value):Frame:=(Fr 152 ([(sl 5 n c),(sl 6 k e),uu,uu,(J j 0),(.int .i64 i)]++(jj j 1 4 ([bF,uu,uu,uu,uu,uu]++(jj j 5 25 [])))) [.code (cd Tryz.f152 [1,1,0,1,0,0]),.inLoop (cd Tryz.f152 [1,1,0,1,0,0]),.inBlock 0,.code (cd Tryz.f152 [1,1,1])])
noncomputable def cmp_h_o(xs ys:List Nat)(n c k e:Nat)(i:Int):List (Nat×AObj):=(Lk xs ys)
noncomputable def cmp_h(xs ys:List Nat)(n c k e:Nat)(i:Int)(j:List Value):AS:=⟨cmp_h_f xs ys n c k e i j,[],Ag 7 (cmp_h_o xs ys n c k e i)⟩
theorem cmp_in(xs ys:List Nat)(n c k e:Nat)(hn:n<1099511627776)(hkm:k<1099511627776)(hnk:n=k):GT (Cg 152 #[(sl 5 n c),(sl 6 k e)] 7 (Lk xs ys)) (cmp_h xs ys n c k e ((n:Int)-1) [(lI 0),(sl 5 n c),(nI n),(sl 6 k e),(nI k),(sl 5 n c),(nI n),(.int .i64 ((n:Int)-1)),undef,undef,undef,undef,undef,undef,undef,undef,undef,undef,undef,undef,undef,undef,undef,undef,undef,undef,undef,undef,undef,undef]):=
 sR (sc:=[(11,.op (.rwB false)),(8,.op (.rwI ((n:Int)-1))),(4,.stay)]) kr (aI (nF (a:=(n:Int)) (b:=(k:Int))) (aI (Ao (a:=((n:Int)-(1:Int))) (r:=((n:Int)-1))) tt))
theorem cmp_r(xs ys:List Nat)(n c k e:Nat)(i:Nat)(a b:Nat)(j:List Value)(hi:i<n)(hnk:n=k)(hc:n≤xs.length)(hk:k≤ys.length)(hn:n<1099511627776)(hx:(ns .u32 xs)[i]? =some (nW a))(hy:(ns .u32 ys)[i]? =some (nW b))(hab:a=b):GT (cmp_h xs ys n c k e (i:Int) j) (cmp_h xs ys n c k e ((i:Int)-1) (jj j 0 8 ([(nI i),bT,(nI i),(.int .i64 ((i:Int)-1)),(sl 5 n c),(nI i),(pp 5 i),(nW a),(sl 6 k e),(nI i),(pp 6 i),(nW b),bF]++(jj j 21 9 [])))):=
 sR (sc:=[(4,.op (.rwB true)),(6,.drw [(2,.idx i),(3,.ld (nW a)),(6,.idx i),(7,.ld (nW b)),(8,.rwB false)]),(5,.op (.rwI ((i:Int)-1))),(3,.stay)]) kr (aI (dT (p:=(i:Int)≥(0:Int))) (aI (aI tt (aI tt (aI (ix (i:Int) (n:Int) 0 1 i) (aI hx (aI tt (aI tt (aI (ix (i:Int) (k:Int) 0 1 i) (aI hy (aI (nF (a:=(a:Int)) (b:=(b:Int))) tt))))))))) (aI (Ao (a:=((i:Int)-(1:Int))) (r:=((i:Int)-1))) tt)))
theorem cmp_o(xs ys:List Nat)(n c k e:Nat)(i:Nat)(a b:Nat)(j:List Value)(hi:i<n)(hnk:n=k)(hc:n≤xs.length)(hk:k≤ys.length)(hn:n<1099511627776)(hx:(ns .u32 xs)[i]? =some (nW a))(hy:(ns .u32 ys)[i]? =some (nW b))(hab:a≠b)(hr:GT (Cg 152 #[(sl 5 n c),(sl 6 k e)] 7 (Lk xs ys)) (cmp_h xs ys n c k e (i:Int) j)):CT 152 #[(sl 5 n c),(sl 6 k e)] (Ag 7 (Lk xs ys)) (.int .i64 (Hg a b)) (Ag 7 (Lk xs ys)):=
 sF (sc:=[(4,.op (.rwB true)),(6,.drw [(2,.idx i),(3,.ld (nW a)),(6,.idx i),(7,.ld (nW b)),(8,.rwB true)]),(2,.drwM [(2,.idx i),(3,.ld (nW a)),(6,.idx i),(7,.ld (nW b))] [⟨8,[],(.int .i64 (Hg a b)),[],[]⟩]),(1,.stay)]) kr (aI (dT (p:=(i:Int)≥(0:Int))) (aI (aI tt (aI tt (aI (ix (i:Int) (n:Int) 0 1 i) (aI hx (aI tt (aI tt (aI (ix (i:Int) (k:Int) 0 1 i) (aI hy (aI (nT (a:=(a:Int)) (b:=(b:Int))) tt))))))))) (aI (aI tt (aI tt (aI (ix (i:Int) (n:Int) 0 1 i) (aI hx (aI tt (aI tt (aI (ix (i:Int) (k:Int) 0 1 i) (aI hy (aI (cmpu_c 7 a b om) (aI tt tt)))))))))) tt))) hr
theorem cmp_e(xs ys:List Nat)(n c k e:Nat)(i:Int)(j:List Value)(hi:i<0)(hr:GT (Cg 152 #[(sl 5 n c),(sl 6 k e)] 7 (Lk xs ys)) (cmp_h xs ys n c k e i j)):CT 152 #[(sl 5 n c),(sl 6 k e)] (Ag 7 (Lk xs ys)) (lI 0) (Ag 7 (Lk xs ys)):=
 sF (sc:=[(4,.op (.rwB false)),(8,.stay)]) kr (aI (dF (p:=i≥(0:Int))) tt) hr
theorem cmp_loop{n c e:Nat}{xs ys:List Nat}(hlx:Lim xs)(hly:Lim ys)(hc:n≤xs.length)(hk:n≤ys.length)(hn:n<1099511627776): ∀(i:Nat) (j:List Value),i≤n→Hg (val (xs.take n)) (val (ys.take n))=Hg (val (xs.take i)) (val (ys.take i))→
  GT (Cg 152 #[(sl 5 n c),(sl 6 n e)] 7 [(5,(cU xs)),(6,(cU ys))]) (cmp_h xs ys n c n e ((i:Int)-1) j)→CT 152 #[(sl 5 n c),(sl 6 n e)] (Ag 7 [(5,(cU xs)),(6,(cU ys))]) (.int .i64 (Hg (val (xs.take n)) (val (ys.take n)))) (Ag 7 [(5,(cU xs)),(6,(cU ys))]):=by
 intro i
 induction i with
 |zero=>
  intro j _ ht hr
  have:=cmp_e xs ys n c n e _ j om hr
  rw[ht]
  exact this
 |succ i ih=>
  intro j hi ht hr
  rw[show ((i+1:Nat):Int)-1=(i:Int) by omega]at hr
  by_cases ha:xs.getD i 0=ys.getD i 0
  ·have r:=cmp_r xs ys n c n e i (xs.getD i 0) (ys.getD i 0) j om rfl hc hk hn (Ar) (Ar) ha
   exact ih _ om (by rw[ht,val_take_succ,val_take_succ,ha];exact cmpN_add _ _ _) (hr.trans r)
  ·have:=cmp_o xs ys n c n e i (xs.getD i 0) (ys.getD i 0) j om rfl hc hk hn (Ar) (Ar) ha hr
   rw[ht,val_take_succ,val_take_succ,cmpN_top (by have:=val_lt (hlx.take i);rw[List.length_take,Nat.min_eq_left om]at this;exact this) (by have:=val_lt (hly.take i);rw[List.length_take,Nat.min_eq_left om]at this;exact this) ha]
   exact this
theorem cmp_c(n0 bx byy:Nat)(xs ys:List Nat)(n c k e:Nat)(hb:5≤bx∧bx<n0∧5≤byy∧byy<n0∧bx≠byy)(hlx:Lim xs)(hly:Lim ys)(hc:n≤xs.length)(hk:k≤ys.length)(hn:n<1099511627776)(hkm:k<1099511627776)
  (hx:0<n→xs.getD (n-1) 0≠0) (hy:0<k→ys.getD (k-1) 0≠0):
  FT 152 #[sl bx n c,sl byy k e] n0 [(bx,cU xs),(byy,cU ys)] (.int .i64 (Hg (val (xs.take n)) (val (ys.take k))))
    [(bx,some (cU xs)),(byy,some (cU ys))] []:=by
 have S:CT 152 #[(sl 5 n c),(sl 6 k e)] (Ag 7 [(5,(cU xs)),(6,(cU ys))]) (.int .i64 (Hg (val (xs.take n)) (val (ys.take k)))) (Ag 7 [(5,(cU xs)),(6,(cU ys))]):=by
  by_cases hnk:n=k
  ·subst hnk
   refine cmp_loop hlx hly hc hk hn n _ (Nat.le_refl _) rfl (cmp_in xs ys n c n e hn hkm rfl)
  ·by_cases hlt:n<k
   ·rw[Rx (val_lt_of_len hlx hc hlt hy)]
    exact cmp_lt xs ys n c k e hn hkm hlt
   ·rw[Mc (val_lt_of_len hly hk om hx)]
    exact cmp_gt xs ys n c k e hn hkm om
 refine ff [bx,byy] [cU xs,cU ys] [cU xs,cU ys] [] [] n0 S (hnd:= ?_) (hb:= ?_) (fo:= ?_) (fp:= ?_)
 ·simp[hb.2.2.2.2]
 ·simp;omega
 ·simp[Bb,Ab]
 ·simp[Bb,Ab]
noncomputable section
abbrev Ep(xs ys:List Nat):List (Nat×Option AObj):=[(5,some (cU xs)),(6,some (cU ys))]
abbrev Uo(xs ys zs:List Nat):List (Nat×AObj):=[(5,(cU xs)),(6,(cU ys)),(10,(cU zs))]
end
theorem np_ff(xs ys:List Nat)(n c k e:Nat)(zs:List Nat)(t:Nat)(hc1:(FT 151 #[(sl 5 n c),(sl 6 k e)] 10 [(5,(cU xs)),(6,(cU ys))] (sl 10 t t) (Ep xs ys) [(cU zs)])):CT 114 #[(.agg #[bF,(sl 5 n c)]),(.agg #[bF,(sl 6 k e)])] (Ag 7 [(5,(cU xs)),(6,(cU ys))]) (.agg #[bF,(sl 10 t t)]) (Ag 11 (Uo xs ys zs)):=
 sF (sc:=[(17,.drwM [] [⟨6,[5,6],(sl 10 t t),(Ep xs ys),[(cU zs)]⟩,⟨7,[10],(.agg #[bF,(sl 10 t t)]),[(10,some (cU zs))],[]⟩]),(1,.stay)]) kr (aI (aI tt (aI tt (aI tt (aI tt (aI tt (aI tt (aI hc1 (aI (Ta 11 10 zs t t om) (aI tt tt))))))))) tt) (Gets.refl _)
theorem np_tt(xs ys:List Nat)(n c k e:Nat)(zs:List Nat)(t:Nat)(ht:0<t)(hc1:(FT 151 #[(sl 5 n c),(sl 6 k e)] 10 [(5,(cU xs)),(6,(cU ys))] (sl 10 t t) (Ep xs ys) [(cU zs)])):CT 114 #[(.agg #[bT,(sl 5 n c)]),(.agg #[bT,(sl 6 k e)])] (Ag 7 [(5,(cU xs)),(6,(cU ys))]) (.agg #[bT,(sl 10 t t)]) (Ag 11 (Uo xs ys zs)):=
 sF (sc:=[(17,.drwM [] [⟨6,[5,6],(sl 10 t t),(Ep xs ys),[(cU zs)]⟩,⟨7,[10],(.agg #[bT,(sl 10 t t)]),[(10,some (cU zs))],[]⟩]),(1,.stay)]) kr (aI (aI tt (aI tt (aI tt (aI tt (aI tt (aI tt (aI hc1 (aI (Td 11 10 zs t t om ht) (aI tt tt))))))))) tt) (Gets.refl _)
theorem np_ftl(xs ys:List Nat)(n c k e:Nat)(q:Int)(hq:q<0)(hc1:(FT 152 #[(sl 5 n c),(sl 6 k e)] 10 [(5,(cU xs)),(6,(cU ys))] (.int .i64 q) (Ep xs ys) []))(zs:List Nat)(t:Nat)(ht:0<t)(hc3:(FT 153 #[(sl 6 k e),(sl 5 n c)] 10 [(6,(cU ys)),(5,(cU xs))] (sl 10 t t) [(6,some (cU ys)),(5,some (cU xs))] [(cU zs)])):CT 114 #[(.agg #[bF,(sl 5 n c)]),(.agg #[bT,(sl 6 k e)])] (Ag 7 [(5,(cU xs)),(6,(cU ys))]) (.agg #[bT,(sl 10 t t)]) (Ag 11 (Uo xs ys zs)):=
 sF (sc:=[(24,.call [5,6] (.int .i64 q) (Ep xs ys) []),(0,.op (.rwB true)),(9,.drwM [] [⟨6,[6,5],(sl 10 t t),[(6,some (cU ys)),(5,some (cU xs))],[(cU zs)]⟩,⟨7,[10],(.agg #[bT,(sl 10 t t)]),[(10,some (cU zs))],[]⟩]),(1,.stay)]) kr (aI hc1 (aI (dT (p:=q<(0:Int))) (aI (aI tt (aI tt (aI tt (aI tt (aI tt (aI tt (aI hc3 (aI (Td 11 10 zs t t om ht) (aI tt tt))))))))) tt))) (Gets.refl _)
theorem np_ftg(xs ys:List Nat)(n c k e:Nat)(q:Int)(hq: ¬q<0)(hc1:(FT 152 #[(sl 5 n c),(sl 6 k e)] 10 [(5,(cU xs)),(6,(cU ys))] (.int .i64 q) (Ep xs ys) []))(zs:List Nat)(t:Nat)(hc3:(FT 153 #[(sl 5 n c),(sl 6 k e)] 10 [(5,(cU xs)),(6,(cU ys))] (sl 10 t t) (Ep xs ys) [(cU zs)])):CT 114 #[(.agg #[bF,(sl 5 n c)]),(.agg #[bT,(sl 6 k e)])] (Ag 7 [(5,(cU xs)),(6,(cU ys))]) (.agg #[bF,(sl 10 t t)]) (Ag 11 (Uo xs ys zs)):=
 sF (sc:=[(24,.call [5,6] (.int .i64 q) (Ep xs ys) []),(0,.op (.rwB false)),(4,.drwM [] [⟨6,[5,6],(sl 10 t t),(Ep xs ys),[(cU zs)]⟩,⟨7,[10],(.agg #[bF,(sl 10 t t)]),[(10,some (cU zs))],[]⟩]),(1,.stay)]) kr (aI hc1 (aI (dF (p:=q<(0:Int))) (aI (aI tt (aI tt (aI tt (aI tt (aI tt (aI tt (aI hc3 (aI (Ta 11 10 zs t t om) (aI tt tt))))))))) tt))) (Gets.refl _)
theorem np_tfl(xs ys:List Nat)(n c k e:Nat)(q:Int)(hq:q<0)(hc1:(FT 152 #[(sl 5 n c),(sl 6 k e)] 10 [(5,(cU xs)),(6,(cU ys))] (.int .i64 q) (Ep xs ys) []))(zs:List Nat)(t:Nat)(hc3:(FT 153 #[(sl 6 k e),(sl 5 n c)] 10 [(6,(cU ys)),(5,(cU xs))] (sl 10 t t) [(6,some (cU ys)),(5,some (cU xs))] [(cU zs)])):CT 114 #[(.agg #[bT,(sl 5 n c)]),(.agg #[bF,(sl 6 k e)])] (Ag 7 [(5,(cU xs)),(6,(cU ys))]) (.agg #[bF,(sl 10 t t)]) (Ag 11 (Uo xs ys zs)):=
 sF (sc:=[(24,.call [5,6] (.int .i64 q) (Ep xs ys) []),(0,.op (.rwB true)),(9,.drwM [] [⟨6,[6,5],(sl 10 t t),[(6,some (cU ys)),(5,some (cU xs))],[(cU zs)]⟩,⟨7,[10],(.agg #[bF,(sl 10 t t)]),[(10,some (cU zs))],[]⟩]),(1,.stay)]) kr (aI hc1 (aI (dT (p:=q<(0:Int))) (aI (aI tt (aI tt (aI tt (aI tt (aI tt (aI tt (aI hc3 (aI (Ta 11 10 zs t t om) (aI tt tt))))))))) tt))) (Gets.refl _)
theorem np_tfg(xs ys:List Nat)(n c k e:Nat)(q:Int)(hq: ¬q<0)(hc1:(FT 152 #[(sl 5 n c),(sl 6 k e)] 10 [(5,(cU xs)),(6,(cU ys))] (.int .i64 q) (Ep xs ys) []))(zs:List Nat)(t:Nat)(ht:0<t)(hc3:(FT 153 #[(sl 5 n c),(sl 6 k e)] 10 [(5,(cU xs)),(6,(cU ys))] (sl 10 t t) (Ep xs ys) [(cU zs)])):CT 114 #[(.agg #[bT,(sl 5 n c)]),(.agg #[bF,(sl 6 k e)])] (Ag 7 [(5,(cU xs)),(6,(cU ys))]) (.agg #[bT,(sl 10 t t)]) (Ag 11 (Uo xs ys zs)):=
 sF (sc:=[(24,.call [5,6] (.int .i64 q) (Ep xs ys) []),(0,.op (.rwB false)),(4,.drwM [] [⟨6,[5,6],(sl 10 t t),(Ep xs ys),[(cU zs)]⟩,⟨7,[10],(.agg #[bT,(sl 10 t t)]),[(10,some (cU zs))],[]⟩]),(1,.stay)]) kr (aI hc1 (aI (dF (p:=q<(0:Int))) (aI (aI tt (aI tt (aI tt (aI tt (aI tt (aI tt (aI hc3 (aI (Td 11 10 zs t t om ht) (aI tt tt))))))))) tt))) (Gets.refl _)
theorem np_tfe(xs ys:List Nat)(n c k e:Nat)(q:Int)(hq: ¬q<0)(hc1:(FT 152 #[(sl 5 n c),(sl 6 k e)] 10 [(5,(cU xs)),(6,(cU ys))] (.int .i64 q) (Ep xs ys) []))(zs:List Nat)(t:Nat)(ht:t=0)(hc3:(FT 153 #[(sl 5 n c),(sl 6 k e)] 10 [(5,(cU xs)),(6,(cU ys))] (sl 10 t t) (Ep xs ys) [(cU zs)])):CT 114 #[(.agg #[bT,(sl 5 n c)]),(.agg #[bF,(sl 6 k e)])] (Ag 7 [(5,(cU xs)),(6,(cU ys))]) (.agg #[bF,(sl 10 t t)]) (Ag 11 (Uo xs ys zs)):=
 sF (sc:=[(24,.call [5,6] (.int .i64 q) (Ep xs ys) []),(0,.op (.rwB false)),(4,.drwM [] [⟨6,[5,6],(sl 10 t t),(Ep xs ys),[(cU zs)]⟩,⟨7,[10],(.agg #[bF,(sl 10 t t)]),[(10,some (cU zs))],[]⟩]),(1,.stay)]) kr (aI hc1 (aI (dF (p:=q<(0:Int))) (aI (aI tt (aI tt (aI tt (aI tt (aI tt (aI tt (aI hc3 (aI (sg_zc 11 10 zs t t om ht) (aI tt tt))))))))) tt))) (Gets.refl _)
theorem np_c(n0 bx byy:Nat)(xs ys:List Nat)(n c k e:Nat)(sx sy:Bool)(hb:5≤bx∧bx<n0∧5≤byy∧byy<n0∧bx≠byy)(hlx:Lim xs)(hly:Lim ys)(hc:n≤xs.length)(hk:k≤ys.length)(hn:n<1099511627776)(hkm:k<1099511627776)
  (hx:0<n→xs.getD (n-1) 0≠0) (hy:0<k→ys.getD (k-1) 0≠0) (hsx:sx=true→0<n) (hsy:sy=true→0<k):
  ∃sg zs t,Lim zs∧t≤zs.length∧t≤max n k+1∧(0<t→zs.getD (t-1) 0≠0)∧(sg=true→0<t)∧iv sg (val (zs.take t))=iv sx (val (xs.take n))+iv sy (val (ys.take k))∧
   FT 114 #[.agg #[.bool sx,sl bx n c],.agg #[.bool sy,sl byy k e]] n0 [(bx,cU xs),(byy,cU ys)] (.agg #[.bool sg,sl n0 t t])
    [(bx,some (cU xs)),(byy,some (cU ys))] [cU zs]:=by
 cases sx with
 |false=>cases sy with
  |false=>
   obtain⟨zs,t,h1,h2,h3,h4,h5,h6⟩:=plus_c 10 5 6 xs ys n c k e om hlx hly hc hk hn hkm
   exact⟨false,zs,t,h1,h2,by omega,h4,(by intro q;cases q),by simp only[Ef,Eu];omega,ff [bx,byy] [cU xs,cU ys] [cU xs,cU ys] [10] [cU zs] n0 (np_ff xs ys n c k e zs t h6) (hnd:=by simp[hb.2.2.2.2])⟩
  |true=>
   have hq:=cmp_c 10 5 6 xs ys n c k e om hlx hly hc hk hn hkm hx hy
   have hpy:=Lx (hsy rfl) hy
   by_cases hlt:val (xs.take n)<val (ys.take k)
   ·have hle:val (xs.take n)≤val (ys.take k):=by omega
    obtain⟨zs,t,h1,h2,h3,h4,h5,h6⟩:=minus_c 10 6 5 ys xs k e n c om hly hlx hk hc hkm (Mw hly hk hx hle) hle
    have ht:0<t:=len_pos (zs:=zs) om
    exact⟨true,zs,t,h1,h2,by omega,h4,(fun _=>ht),by simp only[Ef,Eu];omega,ff [bx,byy] [cU xs,cU ys] [cU xs,cU ys] [10] [cU zs] n0 (np_ftl xs ys n c k e _ (Kh.2 hlt) hq zs t ht h6) (hnd:=by simp[hb.2.2.2.2])⟩
   ·have hle:val (ys.take k)≤val (xs.take n):=by omega
    obtain⟨zs,t,h1,h2,h3,h4,h5,h6⟩:=minus_c 10 5 6 xs ys n c k e om hlx hly hc hk hn (Mw hlx hc hy hle) hle
    exact⟨false,zs,t,h1,h2,by omega,h4,(by intro q;cases q),by simp only[Ef,Eu];omega,ff [bx,byy] [cU xs,cU ys] [cU xs,cU ys] [10] [cU zs] n0 (np_ftg xs ys n c k e _ (fun h=>hlt (Kh.1 h)) hq zs t h6) (hnd:=by simp[hb.2.2.2.2])⟩
 |true=>cases sy with
  |true=>
   have hpx:=Lx (hsx rfl) hx
   obtain⟨zs,t,h1,h2,h3,h4,h5,h6⟩:=plus_c 10 5 6 xs ys n c k e om hlx hly hc hk hn hkm
   have ht:0<t:=len_pos (zs:=zs) om
   exact⟨true,zs,t,h1,h2,by omega,h4,(fun _=>ht),by simp only[Ef,Eu];omega,ff [bx,byy] [cU xs,cU ys] [cU xs,cU ys] [10] [cU zs] n0 (np_tt xs ys n c k e zs t ht h6) (hnd:=by simp[hb.2.2.2.2])⟩
  |false=>
   have hq:=cmp_c 10 5 6 xs ys n c k e om hlx hly hc hk hn hkm hx hy
   have hpx:=Lx (hsx rfl) hx
   by_cases hlt:val (xs.take n)<val (ys.take k)
   ·have hle:val (xs.take n)≤val (ys.take k):=by omega
    obtain⟨zs,t,h1,h2,h3,h4,h5,h6⟩:=minus_c 10 6 5 ys xs k e n c om hly hlx hk hc hkm (Mw hly hk hx hle) hle
    exact⟨false,zs,t,h1,h2,by omega,h4,(by intro q;cases q),by simp only[Ef,Eu];omega,ff [bx,byy] [cU xs,cU ys] [cU xs,cU ys] [10] [cU zs] n0 (np_tfl xs ys n c k e _ (Kh.2 hlt) hq zs t h6) (hnd:=by simp[hb.2.2.2.2])⟩
   ·have hle:val (ys.take k)≤val (xs.take n):=by omega
    obtain⟨zs,t,h1,h2,h3,h4,h5,h6⟩:=minus_c 10 5 6 xs ys n c k e om hlx hly hc hk hn (Mw hlx hc hy hle) hle
    rcases Nat.eq_zero_or_pos t with ht|ht
    ·have h0:val (zs.take t)=0:=by rw[ht];rfl
     exact⟨false,zs,t,h1,h2,by omega,h4,(by intro q;cases q),by simp only[Ef,Eu];omega,ff [bx,byy] [cU xs,cU ys] [cU xs,cU ys] [10] [cU zs] n0 (np_tfe xs ys n c k e _ (fun h=>hlt (Kh.1 h)) hq zs t ht h6) (hnd:=by simp[hb.2.2.2.2])⟩
    ·exact⟨true,zs,t,h1,h2,by omega,h4,(fun _=>ht),by simp only[Ef,Eu];omega,ff [bx,byy] [cU xs,cU ys] [cU xs,cU ys] [10] [cU zs] n0 (np_tfg xs ys n c k e _ (fun h=>hlt (Kh.1 h)) hq zs t ht h6) (hnd:=by simp[hb.2.2.2.2])⟩
theorem Zm(n0:Nat)(a:Int)(hG:5≤n0)(hs:(Ae a.natAbs).length≤18):FT 145 #[.string (Ad a)] n0 [] (lI 2) [] []:=by
 rcases Gz a with⟨m,rfl,hm⟩|⟨m,h0,rfl,hm⟩
 ·rw[Df]
  rw[hm]at hs
  rcases Nat.eq_zero_or_pos m with q|q
  ·exact kizsc n0 _ hG (Bx m) (Be m) (by rw[q,Gi]) (by rw[Af];exact hs)
  ·exact kipsc n0 _ hG (Bx m) (Be m) (Lu m q) (by rw[Af];exact hs)
 ·rw[Hp h0]
  rw[hm]at hs
  exact kimsc n0 _ hG (Bx m) (Be m) (Lu m h0) (by rw[Af];exact hs)
theorem nu_i(n0:Nat)(a:Int)(hG:5≤n0)(hL:Gr a.natAbs≤400):
  ∃sg zs t,Lim zs∧t≤zs.length∧(t≤45∧t≤((Ae a.natAbs).length+8)/9)∧(0<t→zs.getD (t-1) 0≠0)∧(sg=true→0<t)∧iv sg (val (zs.take t))=a∧
   FT 111 #[.string (Ad a)] n0 [] (.agg #[.bool sg,sl n0 t t]) [] [cU zs]:=by
 have hL2:=Ej hL de
 rcases Gz a with⟨m,rfl,hm⟩|⟨m,h0,rfl,hm⟩
 ·rw[Df]
  rw[hm]at hL2
  obtain⟨zs,t,h1,h2,h3,h4,h5,h6⟩:=nu_pc n0 _ hG (Bx m) (Be m) om
  rw[Gb]at h5
  exact⟨false,zs,t,h1,h2,by rw[hm];omega,h4,(by intro q;cases q),by rw[Ef,h5],h6⟩
 ·rw[Hp h0]
  rw[hm]at hL2
  obtain⟨zs,t,h1,h2,h3,h4,h5,h6⟩:=nu_mc n0 _ hG (Bx m) (by rw[Gb];exact h0) om
  rw[Gb]at h5
  exact⟨true,zs,t,h1,h2,by rw[hm];omega,h4,fun _=>len_pos (zs:=zs) om,by rw[Eu,h5],h6⟩
theorem nt_i(n0 b:Nat)(sg:Bool)(xs:List Nat)(n c:Nat)(hb:5≤b∧b<n0)(hlx:Lim xs)(hc:n≤xs.length)(hm:n<1099511627776)(hx:0<n→xs.getD (n-1) 0≠0)(hsg:sg=true→0<n)(hd:Gr (iv sg (val (xs.take n))).natAbs≤400):
  FT 112 #[.agg #[.bool sg,sl b n c]] n0 [(1,gob1),(b,cU xs)] (.string (Ad (iv sg (val (xs.take n)))))
   [(1,some gob1),(b,some (cU xs))] []:=by
 cases sg with
 |false=>
  rw[Ef]at hd ⊢
  rw[Df]
  exact nt_pc n0 b xs n c hb hlx hc hm hx (by simpa using hd)
 |true=>
  rw[Eu]at hd ⊢
  rw[Hp (Lx (hsg rfl) hx)]
  exact nt_mc n0 b xs n c hb hlx hc hm hx (by simpa using hd)
theorem wp_pe(a:Int)(n:Nat)(hn:n<64)(hod:n%2≠1)(hka: ∀n0,5≤n0→FT 145 #[.string (Ad a)] n0 [] (lI 2) [] [])(xs:List Nat)(k:Nat)(hc1:FT 111 #[(.string (Ad a))] 9 [] (.agg #[bF,(sl 9 k k)]) [] [(cU xs)])(zs:List Nat)(t:Nat)(hc3:FT 140 #[(sl 9 k k),(nI n),(lI 400)] 11 [(9,(cU xs))] (sl 11 t t) [(9,some (cU xs))] [(cU zs)])(tt0:ByteArray)(hc5:FT 112 #[(.agg #[bF,(sl 11 t t)])] 12 [(1,gob1),(11,(cU zs))] (.string tt0) [(1,some gob1),(11,some (cU zs))] []):CT 48 #[(.string (Ad a)),(nI n)] (Ag 5 [(1,gob1)]) (.tuple #[(.string tt0),(lI 0)]) (Ag 12 [(1,gob1)]):=
 sF (sc:=[(78,.call [] (lI 2) [] []),(53,.op (.rwB false)),(2,.op (.rwB false)),(7,.call [] (.agg #[bF,(sl 9 k k)]) [] [(cU xs)]),(6,.op (.rwI (((n%2):Nat):Int))),(0,.op (.rwB false)),(12,.call [9] (sl 11 t t) [(9,some (cU xs))] [(cU zs)]),(0,.call [11] (.agg #[bF,(sl 11 t t)]) [(11,some (cU zs))] []),(0,.call [1,11] (.string tt0) [(1,some gob1),(11,some (cU zs))] []),(34,.stay)]) kr (aI (hka 9 om) (aI (dF (p:=(n:Int)<(0:Int))) (aI (dF (p:=(n:Int)>(1000:Int))) (aI hc1 (aI (show (Int.tmod (n:Int) (2:Int))=(((n%2):Nat):Int) from (by rw[Int.tmod_eq_emod_of_nonneg om]<;>omega)) (aI (eF (a:=(((n%2):Nat):Int)) (b:=(1:Int))) (aI hc3 (aI (Ta 12 11 zs t t om) (aI hc5 tt))))))))) (Gets.refl _)
theorem wp_po(a:Int)(n:Nat)(hn:n<64)(hod:n%2=1)(hka: ∀n0,5≤n0→FT 145 #[.string (Ad a)] n0 [] (lI 2) [] [])(xs:List Nat)(k:Nat)(hc1:FT 111 #[(.string (Ad a))] 9 [] (.agg #[bF,(sl 9 k k)]) [] [(cU xs)])(zs:List Nat)(t:Nat)(hc3:FT 140 #[(sl 9 k k),(nI n),(lI 400)] 11 [(9,(cU xs))] (sl 11 t t) [(9,some (cU xs))] [(cU zs)])(tt0:ByteArray)(hc5:FT 112 #[(.agg #[bF,(sl 11 t t)])] 12 [(1,gob1),(11,(cU zs))] (.string tt0) [(1,some gob1),(11,some (cU zs))] []):CT 48 #[(.string (Ad a)),(nI n)] (Ag 5 [(1,gob1)]) (.tuple #[(.string tt0),(lI 0)]) (Ag 12 [(1,gob1)]):=
 sF (sc:=[(78,.call [] (lI 2) [] []),(53,.op (.rwB false)),(2,.op (.rwB false)),(7,.call [] (.agg #[bF,(sl 9 k k)]) [] [(cU xs)]),(6,.op (.rwI (((n%2):Nat):Int))),(0,.op (.rwB true)),(12,.call [9] (sl 11 t t) [(9,some (cU xs))] [(cU zs)]),(0,.call [11] (.agg #[bF,(sl 11 t t)]) [(11,some (cU zs))] []),(0,.call [1,11] (.string tt0) [(1,some gob1),(11,some (cU zs))] []),(34,.stay)]) kr (aI (hka 9 om) (aI (dF (p:=(n:Int)<(0:Int))) (aI (dF (p:=(n:Int)>(1000:Int))) (aI hc1 (aI (show (Int.tmod (n:Int) (2:Int))=(((n%2):Nat):Int) from (by rw[Int.tmod_eq_emod_of_nonneg om]<;>omega)) (aI (eT (a:=(((n%2):Nat):Int)) (b:=(1:Int))) (aI hc3 (aI (Ta 12 11 zs t t om) (aI hc5 tt))))))))) (Gets.refl _)
theorem wp_me(a:Int)(n:Nat)(hn:n<64)(hod:n%2≠1)(hka: ∀n0,5≤n0→FT 145 #[.string (Ad a)] n0 [] (lI 2) [] [])(xs:List Nat)(k:Nat)(hc1:FT 111 #[(.string (Ad a))] 9 [] (.agg #[bT,(sl 9 k k)]) [] [(cU xs)])(zs:List Nat)(t:Nat)(hc3:FT 140 #[(sl 9 k k),(nI n),(lI 400)] 11 [(9,(cU xs))] (sl 11 t t) [(9,some (cU xs))] [(cU zs)])(tt0:ByteArray)(hc5:FT 112 #[(.agg #[bF,(sl 11 t t)])] 12 [(1,gob1),(11,(cU zs))] (.string tt0) [(1,some gob1),(11,some (cU zs))] []):CT 48 #[(.string (Ad a)),(nI n)] (Ag 5 [(1,gob1)]) (.tuple #[(.string tt0),(lI 0)]) (Ag 12 [(1,gob1)]):=
 sF (sc:=[(78,.call [] (lI 2) [] []),(53,.op (.rwB false)),(2,.op (.rwB false)),(7,.call [] (.agg #[bT,(sl 9 k k)]) [] [(cU xs)]),(6,.op (.rwI (((n%2):Nat):Int))),(0,.op (.rwB false)),(12,.call [9] (sl 11 t t) [(9,some (cU xs))] [(cU zs)]),(0,.call [11] (.agg #[bF,(sl 11 t t)]) [(11,some (cU zs))] []),(0,.call [1,11] (.string tt0) [(1,some gob1),(11,some (cU zs))] []),(34,.stay)]) kr (aI (hka 9 om) (aI (dF (p:=(n:Int)<(0:Int))) (aI (dF (p:=(n:Int)>(1000:Int))) (aI hc1 (aI (show (Int.tmod (n:Int) (2:Int))=(((n%2):Nat):Int) from (by rw[Int.tmod_eq_emod_of_nonneg om]<;>omega)) (aI (eF (a:=(((n%2):Nat):Int)) (b:=(1:Int))) (aI hc3 (aI (Ta 12 11 zs t t om) (aI hc5 tt))))))))) (Gets.refl _)
theorem wp_mo(a:Int)(n:Nat)(hn:n<64)(hod:n%2=1)(hka: ∀n0,5≤n0→FT 145 #[.string (Ad a)] n0 [] (lI 2) [] [])(xs:List Nat)(k:Nat)(hc1:FT 111 #[(.string (Ad a))] 9 [] (.agg #[bT,(sl 9 k k)]) [] [(cU xs)])(zs:List Nat)(t:Nat)(ht:0<t)(hc3:FT 140 #[(sl 9 k k),(nI n),(lI 400)] 11 [(9,(cU xs))] (sl 11 t t) [(9,some (cU xs))] [(cU zs)])(tt0:ByteArray)(hc5:FT 112 #[(.agg #[bT,(sl 11 t t)])] 12 [(1,gob1),(11,(cU zs))] (.string tt0) [(1,some gob1),(11,some (cU zs))] []):CT 48 #[(.string (Ad a)),(nI n)] (Ag 5 [(1,gob1)]) (.tuple #[(.string tt0),(lI 0)]) (Ag 12 [(1,gob1)]):=
 sF (sc:=[(78,.call [] (lI 2) [] []),(53,.op (.rwB false)),(2,.op (.rwB false)),(7,.call [] (.agg #[bT,(sl 9 k k)]) [] [(cU xs)]),(6,.op (.rwI (((n%2):Nat):Int))),(0,.op (.rwB true)),(12,.call [9] (sl 11 t t) [(9,some (cU xs))] [(cU zs)]),(0,.call [11] (.agg #[bT,(sl 11 t t)]) [(11,some (cU zs))] []),(0,.call [1,11] (.string tt0) [(1,some gob1),(11,some (cU zs))] []),(34,.stay)]) kr (aI (hka 9 om) (aI (dF (p:=(n:Int)<(0:Int))) (aI (dF (p:=(n:Int)>(1000:Int))) (aI hc1 (aI (show (Int.tmod (n:Int) (2:Int))=(((n%2):Nat):Int) from (by rw[Int.tmod_eq_emod_of_nonneg om]<;>omega)) (aI (eT (a:=(((n%2):Nat):Int)) (b:=(1:Int))) (aI hc3 (aI (Td 12 11 zs t t om ht) (aI hc5 tt))))))))) (Gets.refl _)
theorem neg_pw(x:Int): ∀n:Nat,(-x)^n=if n%2=1 then -(x^n) else x^n
 |0=>by simp
 |n+1=>by
  rw[Int.pow_succ,Int.pow_succ,neg_pw x n]
  by_cases h:n%2=1
  ·rw[if_pos h,if_neg om,Int.neg_mul_neg]
  ·rw[if_neg h,if_pos om,Int.mul_neg]
theorem iv_pow_p{x n:Nat}{a:Int}(h:iv false x=a):iv false (x^n)=a^n:=by
 rw[←h,Ef,Ef,Int.natCast_pow]
theorem iv_pow_e{x n:Nat}{a:Int}(ho:n%2≠1)(h:iv true x=a):iv false (x^n)=a^n:=by
 rw[←h,Eu,Ef,neg_pw,if_neg ho,Int.natCast_pow]
theorem iv_pow_o{x n:Nat}{a:Int}(ho:n%2=1)(h:iv true x=a):iv true (x^n)=a^n:=by
 rw[←h,Eu,Eu,neg_pw,if_pos ho,Int.natCast_pow]
theorem Pow_i(n0 n:Nat)(a:Int)(hG:5≤n0)(ha:(Ae a.natAbs).length≤18)(hn:n<64)(h1:a.natAbs^(n/2)<10^207)(h2:a.natAbs^n<10^400):
  FT 48 #[.string (Ad a),.int .i64 ((n:Nat):Int)] n0 [(1,gob1)] (.tuple #[.string (Ad (a^n)),.int .i64 (.ofNat 0)]) [(1,some gob1)] []:=by
 have hN:=Es 400 _ h2
 have key: ∃nx,CT 48 #[.string (Ad a),.int .i64 ((n:Nat):Int)] (Ag 5 [(1,gob1)]) (.tuple #[.string (Ad (a^n)),.int .i64 (.ofNat 0)]) (Ag nx [(1,gob1)]):=by
  have ha4:Gr a.natAbs≤400:=by have:=Es 18 _ (Da ha);omega
  obtain⟨sx,xs,k,e1,e2,e3,e4,e5,e6,e7⟩:=nu_i 9 a om ha4
  have hv:val (xs.take k)=a.natAbs:=by
   rw[←e6]
   cases sx
   ·rw[Ef,Int.natAbs_natCast]
   ·rw[Eu,Int.natAbs_neg,Int.natAbs_natCast]
  obtain⟨zs,t,t1,t2,t3,t4,t5,T⟩:=pwg_c 11 9 xs k k n 400 om e1 e2 om hn de de (by rw[hv];exact h1) (by rw[hv];exact h2)
  rw[←hv]at hN
  cases sx
  ·by_cases ho:n%2=1
   ·have T2:=nt_i 12 11 false zs t t om t1 t2 om t4 (by intro h;cases h) (by rw[Ef,Int.natAbs_natCast,t5];exact hN)
    rw[show iv false (val (zs.take t))=a^n by rw[t5];exact iv_pow_p e6]at T2
    exact⟨_,wp_po a n hn ho (fun n0 h=>Zm n0 a h ha) xs k e7 zs t T _ T2⟩
   ·have T2:=nt_i 12 11 false zs t t om t1 t2 om t4 (by intro h;cases h) (by rw[Ef,Int.natAbs_natCast,t5];exact hN)
    rw[show iv false (val (zs.take t))=a^n by rw[t5];exact iv_pow_p e6]at T2
    exact⟨_,wp_pe a n hn ho (fun n0 h=>Zm n0 a h ha) xs k e7 zs t T _ T2⟩
  ·by_cases ho:n%2=1
   ·have hk:=e5 rfl
    have hx:0<val (xs.take k):=Lx hk e4
    have ht:0<t:=by
     rcases Nat.eq_zero_or_pos t with h|h
     ·rw[h,List.take_zero]at t5
      have:=Nat.pow_pos (n:=n) hx
      rw[←t5]at this
      exact absurd this de
     ·exact h
    have T2:=nt_i 12 11 true zs t t om t1 t2 om t4 (by intro h;exact ht) (by rw[Eu,Int.natAbs_neg,Int.natAbs_natCast,t5];exact hN)
    rw[show iv true (val (zs.take t))=a^n by rw[t5];exact iv_pow_o ho e6]at T2
    exact⟨_,wp_mo a n hn ho (fun n0 h=>Zm n0 a h ha) xs k e7 zs t ht T _ T2⟩
   ·have T2:=nt_i 12 11 false zs t t om t1 t2 om t4 (by intro h;cases h) (by rw[Ef,Int.natAbs_natCast,t5];exact hN)
    rw[show iv false (val (zs.take t))=a^n by rw[t5];exact iv_pow_e ho e6]at T2
    exact⟨_,wp_me a n hn ho (fun n0 h=>Zm n0 a h ha) xs k e7 zs t T _ T2⟩
 obtain⟨nx,S⟩:=key
 exact Sz [(1,gob1)] [] [] [] [] [] n0 S (by decide+kernel) (by rfl) rfl (by rfl) rfl sm sm hG rfl rfl rfl sm sm rfl rfl rfl
noncomputable section
abbrev z_85a_0(i p q n c f:Nat)(zs:List Nat):List Value:=[(nI i),(nU (p+q)),bT,(nI i),(sl 5 n c),(nI i),(pp 5 i),(nW (zs.getD i 0)),(nU (zs.getD i 0)),(nU f),(nU p),(nU q),(nU (p+q)),(nU (p+q)),(nU ((p+q)/1000000000)),(sl 5 n c),(nI i),(nU (p+q)),(nU ((p+q)%1000000000)),(nW ((p+q)%1000000000)),(pp 5 i),(nI (i+1))]
end
noncomputable def sc_h_f(zs:List Nat)(n c f l q i:Nat)(j:List Value):Frame:=(Fr 169 ([(sl 5 n c),(nU f),(nU l),uu,uu,uu,(nU q),(J j 0),(J j 1),(nU l),(sl 5 n c),(nI n),(nI i)]++(jj j 2 20 [uu])) [.code (cd Tryz.f169 [1,1,0,1,0,0]),.inLoop (cd Tryz.f169 [1,1,0,1,0,0]),.inBlock 0,.code (cd Tryz.f169 [1,1,1])])
noncomputable def sc_h_o(zs:List Nat)(n c f l q i:Nat):List (Nat×AObj):=[(5,(cU zs))]
noncomputable def sc_h(zs:List Nat)(n c f l q i:Nat)(j:List Value):AS:=⟨sc_h_f zs n c f l q i j,[],Ag 6 (sc_h_o zs n c f l q i)⟩
theorem sc_in(xs:List Nat)(n c f l:Nat):GT (Cg 169 #[(sl 5 n c),(nU f),(nU l)] 6 [(5,(cU xs))]) (sc_h xs n c f l l 0 [undef,undef,undef,undef,undef,undef,undef,undef,undef,undef,undef,undef,undef,undef,undef,undef,undef,undef,undef,undef,undef,undef]):=
 sR (sc:=[(18,.stay)]) kr tt
theorem sc_r(zs:List Nat)(n c f l q i p:Nat)(j:List Value)(hi:i<n)(hm:n<1099511627776)(hc:n≤zs.length)(ha:zs.getD i 0<1000000000)(hp:p=zs.getD i 0*f)(hp2:p≤999999999000000000)(hq:q≤1000000000):GT (sc_h zs n c f l q i j) (sc_h (zs.set i ((p+q)%1000000000)) n c f l ((p+q)/1000000000) (i+1) (z_85a_0 i p q n c f zs)):=
 sR (sc:=[(2,.op (.rwB true)),(15,.op (.idx i)),(0,.op (.ld (nW (zs.getD i 0)))),(0,.op (.rwI (((zs.getD i 0):Nat):Int))),(1,.op (.rwI (p:Int))),(1,.op (.rwI (((p+q):Nat):Int))),(5,.op (.rwI ((((p+q)/1000000000):Nat):Int))),(6,.op (.rwI ((((p+q)%1000000000):Nat):Int))),(0,.op (.rwI ((((p+q)%1000000000):Nat):Int))),(0,.op (.idx i)),(0,.op (.st (ns .u32 (zs.set i ((p+q)%1000000000))))),(3,.op (.rwI (((i+1):Nat):Int))),(3,.stay)]) kr (aI (dT (p:=(i:Int)<(n:Int))) (aI (ix (i:Int) (n:Int) 0 1 i) (aI (Ar (k:=.u32) (xs:=zs) (i:=i)) (aI (Gc (a:=(((zs.getD i 0):Nat):Int)) (r:=(((zs.getD i 0):Nat):Int))) (aI (show IntKind.wrap .u64 ((((zs.getD i 0):Nat):Int)*(f:Int))=(p:Int) from (by subst hp;rw[Dc om om]<;>omega)) (aI (Gc (a:=((p:Int)+(q:Int))) (r:=(((p+q):Nat):Int))) (aI (show IntKind.wrap .u64 (Int.tdiv (((p+q):Nat):Int) (1000000000:Int))=((((p+q)/1000000000):Nat):Int) from (by rw[Int.tdiv_eq_ediv_of_nonneg om,Dc om om]<;>omega)) (aI (show (Int.tmod (((p+q):Nat):Int) (1000000000:Int))=((((p+q)%1000000000):Nat):Int) from (by rw[Int.tmod_eq_emod_of_nonneg om]<;>omega)) (aI (Bt (a:=((((p+q)%1000000000):Nat):Int)) (r:=((((p+q)%1000000000):Nat):Int))) (aI (ix (i:Int) (n:Int) 0 1 i) (aI (show i+1≤(ns .u32 zs).length∧Bs (ns .u32 zs) i [(nW ((p+q)%1000000000))]=(ns .u32 (zs.set i ((p+q)%1000000000))) from (Dp)) (aI (Ao (a:=((i:Int)+(1:Int))) (r:=(((i+1):Nat):Int))) tt))))))))))))
theorem sc_o(xs zs:List Nat)(n c f l q i:Nat)(j:List Value)(hi:n≤i)(hr:GT (Cg 169 #[(sl 5 n c),(nU f),(nU l)] 6 [(5,(cU xs))]) (sc_h zs n c f l q i j)):CT 169 #[(sl 5 n c),(nU f),(nU l)] (Ag 6 [(5,(cU xs))]) (nU q) (Ag 6 [(5,(cU zs))]):=
 sF (sc:=[(2,.op (.rwB false)),(10,.stay)]) kr (aI (dF (p:=(i:Int)<(n:Int))) tt) hr
theorem sc_all{s0:AS}{n c f l T:Nat}(hf:f≤1000000000)(hm:n<1099511627776): ∀(m i:Nat) (zs:List Nat) (q:Nat) (j:List Value),m=n-i→i≤n→zs.length=n→Lim zs→q≤1000000000→
  val (zs.take i)+q*1000000000^i+f*(1000000000^i*val (zs.drop i))=T→GT s0 (sc_h zs n c f l q i j)→
  ∃zs' q' j',zs'.length=n∧Lim zs'∧val zs'+q'*1000000000^n=T∧GT s0 (sc_h zs' n c f l q' n j'):=by
 intro m
 induction m with
 |zero=>
  intro i zs q j hm2 hi hz hl hq hv hr
  have:i=n:=by omega
  subst this
  rw[List.take_of_length_le om,List.drop_eq_nil_of_le om,show val []=0 from rfl,Nat.mul_zero,Nat.mul_zero,Nat.add_zero]at hv
  exact⟨zs,q,j,hz,hl,hv,hr⟩
 |succ m ih=>
  intro i zs q j hm2 hi hz hl hq hv hr
  have ha:=hl.get i
  have hp2:zs.getD i 0*f≤999999999000000000:=Nat.mul_le_mul (show zs.getD i 0≤999999999 by omega) hf
  have r:=sc_r zs n c f l q i _ j om hm om ha rfl hp2 hq
  have hv':=scale_round (show i<zs.length by omega) hv
  refine ih (i+1) _ _ _ om om (by rw[List.length_set];exact hz) (hl.set (Nat.mod_lt _ de)) ?_ hv' (hr.trans r)
  generalize zs.getD i 0*f=p at*
  omega
theorem sc_c(n0 b:Nat)(xs:List Nat)(n c f l:Nat)(hb:5≤b∧b<n0)(hlx:Lim xs)(hx:xs.length=n)(hm:n<1099511627776)(hf:f≤1000000000)(hl:l≤1000000000):
  ∃zs q,zs.length=n∧Lim zs∧val zs+q*1000000000^n=f*val xs+l∧
   FT 169 #[sl b n c,.int .u64 (f:Nat),.int .u64 (l:Nat)] n0 [(b,cU xs)] (nU q) [(b,some (cU zs))] []:=by
 obtain⟨zs,q,j,h1,h2,h3,h4⟩:=sc_all (T:=f*val xs+l) hf hm n 0 xs l _ rfl (Nat.zero_le _) hx hlx hl (by rw[List.take_zero,List.drop_zero,Nat.pow_zero,Nat.one_mul,Nat.mul_one,show val []=0 from rfl];omega) (sc_in xs n c f l)
 exact⟨zs,q,h1,h2,h3,ff [b] [cU xs] [cU zs] [] [] n0 (sc_o xs zs n c f l q n j (Nat.le_refl _) h4)⟩
noncomputable section
abbrev z_1bb_0(r i n c d v:Nat)(zs:List Nat):List Value:=[(nU ((r*1000000000)+(zs.getD i 0))),(nI i),bT,(nI i),(.int .i64 ((i:Int)-1)),(nU r),(nU (r*1000000000)),(sl 5 n c),(nI i),(pp 5 i),(nW (zs.getD i 0)),(nU (zs.getD i 0)),(nU ((r*1000000000)+(zs.getD i 0))),(sl 5 n c),(nI i),(nU ((r*1000000000)+(zs.getD i 0))),(nU d),(nU v),(nW v),(pp 5 i),(nU ((r*1000000000)+(zs.getD i 0))),(nU d),(nU (((r*1000000000)+(zs.getD i 0))%d))]
end
noncomputable def sh_h_f(zs:List Nat)(n c d r:Nat)(i:Int)(j:List Value):Frame:=(Fr 155 ([(sl 5 n c),(nU d),uu,uu,(nU r),(.int .i64 i),(J j 0),(sl 5 n c),(nI n),(.int .i64 ((n:Int)-1))]++(jj j 1 22 [uu])) [.code (cd Tryz.f155 [1,0,1,0,0]),.inLoop (cd Tryz.f155 [1,0,1,0,0]),.inBlock 0,.code (cd Tryz.f155 [1,1])])
noncomputable def sh_h_o(zs:List Nat)(n c d r:Nat)(i:Int):List (Nat×AObj):=[(5,(cU zs))]
noncomputable def sh_h(zs:List Nat)(n c d r:Nat)(i:Int)(j:List Value):AS:=⟨sh_h_f zs n c d r i j,[],Ag 6 (sh_h_o zs n c d r i)⟩
theorem sh_in(xs:List Nat)(n c d:Nat)(hm:n<1099511627776):GT (Cg 155 #[(sl 5 n c),(nU d)] 6 [(5,(cU xs))]) (sh_h xs n c d 0 ((n:Int)-1) [undef,undef,undef,undef,undef,undef,undef,undef,undef,undef,undef,undef,undef,undef,undef,undef,undef,undef,undef,undef,undef,undef,undef]):=
 sR (sc:=[(9,.op (.rwI ((n:Int)-1))),(4,.stay)]) kr (aI (Ao (a:=((n:Int)-(1:Int))) (r:=((n:Int)-1))) tt)
theorem sh_r(zs:List Nat)(n c d r i v:Nat)(j:List Value)(hi:i<n)(hm:n<1099511627776)(hc:n≤zs.length)(ha:zs.getD i 0<1000000000)(hr:r<d)(hd0:0<d)(hd:d≤1000000000)(hv:v=(r*1000000000+zs.getD i 0)/d)(hq:v<1000000000):GT (sh_h zs n c d r i j) (sh_h (zs.set i v) n c d (((r*1000000000)+(zs.getD i 0))%d) ((i:Int)-1) (z_1bb_0 r i n c d v zs)):=
 sR (sc:=[(4,.op (.rwB true)),(8,.op (.rwI (((r*1000000000):Nat):Int))),(2,.op (.idx i)),(0,.op (.ld (nW (zs.getD i 0)))),(0,.op (.rwI (((zs.getD i 0):Nat):Int))),(0,.op (.rwI ((((r*1000000000)+(zs.getD i 0)):Nat):Int))),(8,.op (.div (v:Int))),(0,.op (.rwI (v:Int))),(0,.op (.idx i)),(0,.op (.st (ns .u32 (zs.set i v)))),(4,.op (.div (((((r*1000000000)+(zs.getD i 0))%d):Nat):Int))),(5,.op (.rwI ((i:Int)-1))),(3,.stay)]) kr (aI (dT (p:=(i:Int)≥(0:Int))) (aI (Gc (a:=((r:Int)*(1000000000:Int))) (r:=(((r*1000000000):Nat):Int))) (aI (ix (i:Int) (n:Int) 0 1 i) (aI (Ar (k:=.u32) (xs:=zs) (i:=i)) (aI (Gc (a:=(((zs.getD i 0):Nat):Int)) (r:=(((zs.getD i 0):Nat):Int))) (aI (Gc (a:=((((r*1000000000):Nat):Int)+(((zs.getD i 0):Nat):Int))) (r:=((((r*1000000000)+(zs.getD i 0)):Nat):Int))) (aI (show (d:Int)≠0∧IntKind.wrap .u64 (Int.tdiv ((((r*1000000000)+(zs.getD i 0)):Nat):Int) (d:Int))=(v:Int) from⟨by omega,by rw[Int.tdiv_eq_ediv_of_nonneg om,show ∀a b:Nat,(a:Int)/(b:Int)=((a/b:Nat):Int) from fun _ _=>rfl,←hv,Dc om om]⟩) (aI (Bt (a:=(v:Int)) (r:=(v:Int))) (aI (ix (i:Int) (n:Int) 0 1 i) (aI (show i+1≤(ns .u32 zs).length∧Bs (ns .u32 zs) i [(nW v)]=(ns .u32 (zs.set i v)) from (Dp)) (aI (show (d:Int)≠0∧(Int.tmod ((((r*1000000000)+(zs.getD i 0)):Nat):Int) (d:Int))=(((((r*1000000000)+(zs.getD i 0))%d):Nat):Int) from⟨by omega,by rw[Int.tmod_eq_emod_of_nonneg om];rfl⟩) (aI (Ao (a:=((i:Int)-(1:Int))) (r:=((i:Int)-1))) tt))))))))))))
theorem sh_o(xs zs:List Nat)(n c d r:Nat)(i:Int)(j:List Value)(hi:i<0)(hr:GT (Cg 155 #[(sl 5 n c),(nU d)] 6 [(5,(cU xs))]) (sh_h zs n c d r i j)):CT 155 #[(sl 5 n c),(nU d)] (Ag 6 [(5,(cU xs))]) (nU r) (Ag 6 [(5,(cU zs))]):=
 sF (sc:=[(4,.op (.rwB false)),(9,.stay)]) kr (aI (dF (p:=i≥(0:Int))) tt) hr
theorem sh_all{s0:AS}{n c d T:Nat}(hd0:0<d)(hd:d≤1000000000)(hm:n<1099511627776): ∀(i:Nat) (zs:List Nat) (r:Nat) (j:List Value),i≤n→zs.length=n→Lim zs→r<d→
  val (zs.take i)+1000000000^i*r+d*(1000000000^i*val (zs.drop i))=T→GT s0 (sh_h zs n c d r ((i:Int)-1) j)→
  ∃zs' r' i' j',zs'.length=n∧Lim zs'∧r'<d∧d*val zs'+r'=T∧i'<0∧GT s0 (sh_h zs' n c d r' i' j'):=by
 intro i
 induction i with
 |zero=>
  intro zs r j hi hz hl hrd hv hr
  refine⟨zs,r,_,j,hz,hl,hrd,?_,?_,hr⟩
  ·rw[List.take_zero,List.drop_zero,Nat.pow_zero,Nat.one_mul,Nat.one_mul,show val []=0 from rfl]at hv
   omega
  ·omega
 |succ i ih=>
  intro zs r j hi hz hl hrd hv hr
  rw[show ((i+1:Nat):Int)-1=(i:Int) by omega]at hr
  have ha:=hl.get i
  have hlt:r*1000000000+zs.getD i 0<d*1000000000:=by omega
  have hq:(r*1000000000+zs.getD i 0)/d<1000000000:=Nat.div_lt_of_lt_mul hlt
  have q:=sh_r zs n c d r i _ j om hm om ha hrd hd0 hd rfl hq
  have hv':=shrink_round (show i<zs.length by omega) hv
  exact ih _ _ _ om (by rw[List.length_set];exact hz) (hl.set hq) (Nat.mod_lt _ hd0) hv' (hr.trans q)
theorem sh_c(n0 b:Nat)(xs:List Nat)(n c d:Nat)(hb:5≤b∧b<n0)(hlx:Lim xs)(hx:xs.length=n)(hm:n<1099511627776)(hd0:0<d)(hd:d≤1000000000):
  ∃zs r,zs.length=n∧Lim zs∧r<d∧d*val zs+r=val xs∧
   FT 155 #[sl b n c,.int .u64 (d:Nat)] n0 [(b,cU xs)] (nU r) [(b,some (cU zs))] []:=by
 obtain⟨zs,r,i,j,h1,h2,h3,h4,h5,h6⟩:=sh_all (T:=val xs) hd0 hd hm n xs 0 _ (Nat.le_refl _) hx hlx hd0 (by rw[List.take_of_length_le om,List.drop_eq_nil_of_le om,show val []=0 from rfl];simp) (sh_in xs n c d hm)
 exact⟨zs,r,h1,h2,h3,h4,ff [b] [cU xs] [cU zs] [] [] n0 (sh_o xs zs n c d r i j h5 h6)⟩
noncomputable section
abbrev z_3f2_0(i o q n c:Nat)(ys zs:List Nat):List Value:=[(nI i),(nW (ys.getD i 0)),(nW (((zs.getD (o+i) 0)+(ys.getD i 0))+q)),bT,(nI i),(pp 6 i),(nW (ys.getD i 0)),(sw 5 o n c),(nI i),(pp 5 (o+i)),(nW (zs.getD (o+i) 0)),(nW (ys.getD i 0)),(nW ((zs.getD (o+i) 0)+(ys.getD i 0))),(nW q),(nW (((zs.getD (o+i) 0)+(ys.getD i 0))+q)),(nW (((zs.getD (o+i) 0)+(ys.getD i 0))+q)),(nW ((((zs.getD (o+i) 0)+(ys.getD i 0))+q)/1000000000)),(sw 5 o n c),(nI i),(nW (((zs.getD (o+i) 0)+(ys.getD i 0))+q)),(nW ((((zs.getD (o+i) 0)+(ys.getD i 0))+q)%1000000000)),(pp 5 (o+i)),(nI (i+1))]
end
noncomputable def gb_h_f(zs ys:List Nat)(o n c k e q i:Nat)(j:List Value):Frame:=(Fr 195 ([(sw 5 o n c),(sl 6 k e),uu,uu,(nW q)]++(jj j 0 3 ([(sl 6 k e),(nI k),(nI i)]++(jj j 3 20 [])))) [.code (cd Tryz.f195 [1,1,0,0]),.inLoop (cd Tryz.f195 [1,1,0,0]),.inBlock 0])
noncomputable def gb_h_o(zs ys:List Nat)(o n c k e q i:Nat):List (Nat×AObj):=[(5,(cU zs)),(6,(cU ys))]
noncomputable def gb_h(zs ys:List Nat)(o n c k e q i:Nat)(j:List Value):AS:=⟨gb_h_f zs ys o n c k e q i j,[],Ag 7 (gb_h_o zs ys o n c k e q i)⟩
theorem gb_in(xs ys:List Nat)(o n c k e:Nat):GT (Cg 195 #[(sw 5 o n c),(sl 6 k e)] 7 [(5,(cU xs)),(6,(cU ys))]) (gb_h xs ys o n c k e 0 0 [undef,undef,undef,undef,undef,undef,undef,undef,undef,undef,undef,undef,undef,undef,undef,undef,undef,undef,undef,undef,undef,undef,undef]):=
 sR (sc:=[(12,.stay)]) kr tt
theorem gb_r(zs ys:List Nat)(o n c k e q i:Nat)(j:List Value)(hi:i<k)(hkn:k≤n)(hm:k<1099511627776)(hc:o+n≤zs.length)(hy:k≤ys.length)(ha:zs.getD (o+i) 0<1000000000)(hb:ys.getD i 0<1000000000)(hq:q≤1):GT (gb_h zs ys o n c k e q i j) (gb_h (zs.set (o+i) ((((zs.getD (o+i) 0)+(ys.getD i 0))+q)%1000000000)) ys o n c k e ((((zs.getD (o+i) 0)+(ys.getD i 0))+q)/1000000000) (i+1) (z_3f2_0 i o q n c ys zs)):=
 sR (sc:=[(2,.op (.rwB true)),(9,.op (.idx i)),(0,.op (.ld (nW (ys.getD i 0)))),(7,.op (.idx (o+i))),(0,.op (.ld (nW (zs.getD (o+i) 0)))),(1,.op (.rwI ((((zs.getD (o+i) 0)+(ys.getD i 0)):Nat):Int))),(1,.op (.rwI (((((zs.getD (o+i) 0)+(ys.getD i 0))+q):Nat):Int))),(5,.op (.rwI ((((((zs.getD (o+i) 0)+(ys.getD i 0))+q)/1000000000):Nat):Int))),(6,.op (.rwI ((((((zs.getD (o+i) 0)+(ys.getD i 0))+q)%1000000000):Nat):Int))),(0,.op (.idx (o+i))),(0,.op (.st (ns .u32 (zs.set (o+i) ((((zs.getD (o+i) 0)+(ys.getD i 0))+q)%1000000000))))),(3,.op (.rwI (((i+1):Nat):Int))),(3,.stay)]) kr (aI (dT (p:=(i:Int)<(k:Int))) (aI (ix (i:Int) (k:Int) 0 1 i) (aI (Ar (k:=.u32) (xs:=ys) (i:=i)) (aI (ix (i:Int) (n:Int) o 1 (o+i)) (aI (Ar (k:=.u32) (xs:=zs) (i:=(o+i))) (aI (Bt (a:=((((zs.getD (o+i) 0):Nat):Int)+(((ys.getD i 0):Nat):Int))) (r:=((((zs.getD (o+i) 0)+(ys.getD i 0)):Nat):Int))) (aI (Bt (a:=(((((zs.getD (o+i) 0)+(ys.getD i 0)):Nat):Int)+(q:Int))) (r:=(((((zs.getD (o+i) 0)+(ys.getD i 0))+q):Nat):Int))) (aI (show IntKind.wrap .u32 (Int.tdiv (((((zs.getD (o+i) 0)+(ys.getD i 0))+q):Nat):Int) (1000000000:Int))=((((((zs.getD (o+i) 0)+(ys.getD i 0))+q)/1000000000):Nat):Int) from (by rw[Int.tdiv_eq_ediv_of_nonneg om,Bq om om]<;>omega)) (aI (show (Int.tmod (((((zs.getD (o+i) 0)+(ys.getD i 0))+q):Nat):Int) (1000000000:Int))=((((((zs.getD (o+i) 0)+(ys.getD i 0))+q)%1000000000):Nat):Int) from (by rw[Int.tmod_eq_emod_of_nonneg om]<;>omega)) (aI (ix (i:Int) (n:Int) o 1 (o+i)) (aI (show (o+i)+1≤(ns .u32 zs).length∧Bs (ns .u32 zs) (o+i) [(nW ((((zs.getD (o+i) 0)+(ys.getD i 0))+q)%1000000000))]=(ns .u32 (zs.set (o+i) ((((zs.getD (o+i) 0)+(ys.getD i 0))+q)%1000000000))) from (Dp)) (aI (Ao (a:=((i:Int)+(1:Int))) (r:=(((i+1):Nat):Int))) tt))))))))))))
theorem gb_o(xs zs ys:List Nat)(o n c k e q i:Nat)(j:List Value)(hi:k≤i)(hr:GT (Cg 195 #[(sw 5 o n c),(sl 6 k e)] 7 [(5,(cU xs)),(6,(cU ys))]) (gb_h zs ys o n c k e q i j)):CT 195 #[(sw 5 o n c),(sl 6 k e)] (Ag 7 [(5,(cU xs)),(6,(cU ys))]) undef (Ag 7 [(5,(cU zs)),(6,(cU ys))]):=
 sF (sc:=[(2,.op (.rwB false)),(5,.stay)]) kr (aI (dF (p:=(i:Int)<(k:Int))) tt) hr
theorem gb_all{s0:AS}{ys:List Nat}{o n c k e R0:Nat}(hly:Lim ys)(hy:k≤ys.length)(hkn:k≤n)(hm:k<1099511627776): ∀(m i:Nat) (zs:List Nat) (q:Nat) (j:List Value),m=k-i→i≤k→o+n≤zs.length→Lim zs→q≤1→
  val zs+q*1000000000^(o+i)=R0+val (ys.take i)*1000000000^o→GT s0 (gb_h zs ys o n c k e q i j)→
  ∃zs' q' j',zs'.length=zs.length∧Lim zs'∧q'≤1∧(∀l,o+k≤l→zs'.getD l 0=zs.getD l 0)∧val zs'+q'*1000000000^(o+k)=R0+val (ys.take k)*1000000000^o∧GT s0 (gb_h zs' ys o n c k e q' k j'):=by
 intro m
 induction m with
 |zero=>
  intro i zs q j hm2 hi hz hl hq hv hr
  have:i=k:=by omega
  subst this
  exact⟨zs,q,j,rfl,hl,hq,fun _ _=>rfl,hv,hr⟩
 |succ m ih=>
  intro i zs q j hm2 hi hz hl hq hv hr
  have ha:=hl.get (o+i)
  have hb:=hly.get i
  have r:=gb_r zs ys o n c k e q i j om hkn hm hz hy ha hb hq
  have hv':=give_round (show o+i<zs.length by omega) hv
  obtain⟨zs',q',j',h1,h2,h3,h4,h5,h6⟩:=ih (i+1) _ _ _ om om (by rw[List.length_set];exact hz) (hl.set (Nat.mod_lt _ de)) om hv' (hr.trans r)
  refine⟨zs',q',j',by rw[h1,List.length_set],h2,h3,fun l hl'=> ?_,h5,h6⟩
  rw[h4 l hl',getD_set om,if_neg om]
theorem gb_c(n0 bx byy:Nat)(xs ys:List Nat)(o n c k e:Nat)(hb:5≤bx∧bx<n0∧5≤byy∧byy<n0∧bx≠byy)(hlx:Lim xs)(hly:Lim ys)(hc:o+n≤xs.length)(hy:k≤ys.length)(hkn:k≤n)(hm:k<1099511627776):
  ∃zs q,zs.length=xs.length∧Lim zs∧q≤1∧(∀l,o+k≤l→zs.getD l 0=xs.getD l 0)∧val zs+q*1000000000^(o+k)=val xs+val (ys.take k)*1000000000^o∧
   FT 195 #[sw bx o n c,sl byy k e] n0 [(bx,cU xs),(byy,cU ys)] (.tuple #[]) [(bx,some (cU zs)),(byy,some (cU ys))] []:=by
 obtain⟨zs,q,j,h1,h2,h3,h4,h5,h6⟩:=gb_all (R0:=val xs) hly hy hkn hm k 0 xs 0 _ rfl (Nat.zero_le _) hc hlx om (by rw[List.take_zero,show val []=0 from rfl,Nat.zero_mul,Nat.zero_mul]) (gb_in xs ys o n c k e)
 exact⟨zs,q,h1,h2,h3,h4,h5,ff [bx,byy] [cU xs,cU ys] [cU zs,cU ys] [] [] n0 (gb_o xs zs ys o n c k e q k j (Nat.le_refl _) h6) (hnd:=by simp[hb.2.2.2.2])⟩
end Go.Proofs.YtldoiilgfcpipaaGreatDoor
