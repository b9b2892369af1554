import Derived.Test.YtldoiilgfcpipaaGreatDoorK
import Derived.Test.YtldoiilgfcpipaaGreatDoorPCnt
import Derived.Test.YtldoiilgfcpipaaGreatDoorLE
set_option linter.unusedVariables false
set_option linter.unusedSimpArgs false
set_option maxRecDepth 100000
namespace Go.Proofs.YtldoiilgfcpipaaGreatDoor
open Go Go.AE Seg
theorem dg_z(xs:List Nat)(n c:Nat)(hn:n=0):CT 148 #[(sl 5 n c)] (mkH 6 [(5,(cU xs))]) (lI 0) (mkH 6 [(5,(cU xs))]):=
 sF (sc:=[(9,.op (.rwB true)),(7,.stay)]) (by kernel_rfl) (aI (eT (a:=(n:Int)) (b:=(0:Int))) tt) (Gets.refl _)
noncomputable def dg_h_f(xs:List Nat)(n c u t:Nat)(j:List Value):Frame:=⟨148,List.toArray [(sl 5 n c),uu,(lI 0),(nI u),(nW t),(J j 0),(J j 1),bF,(J j 2),(J j 3),(J j 4),(J j 5),(J j 6),(J j 7),(J j 8),(J j 9),(J j 10),(J j 11),(J j 12),(J j 13),(J j 14),(J j 15),(J j 16),(J j 17),uu],[.code (cd Tryz.f148 [1,1,1,0,1,0,0]),.inLoop (cd Tryz.f148 [1,1,1,0,1,0,0]),.inBlock 0,.code (cd Tryz.f148 [1,1,1,1])],[],.run,.normal,none⟩
noncomputable def dg_h_o(xs:List Nat)(n c u t:Nat):List (Nat×AObj):=[(5,(cU xs))]
noncomputable def dg_h(xs:List Nat)(n c u t:Nat)(j:List Value):AS:=⟨dg_h_f xs n c u t j,[],mkH 6 (dg_h_o xs n c u t)⟩
theorem dg_in(xs:List Nat)(n c a:Nat)(hn:0<n)(hc:n≤xs.length)(hm:n<1099511627776)(hx:(ns .u32 xs)[n-1]? =some (nW a)):GT ⟨Frame.enter Tryz.prog 148 #[(sl 5 n c)] .normal,[],mkH 6 [(5,(cU xs))]⟩ (dg_h xs n c ((n-1)*9) a [(sl 5 n c),(nI n),(sl 5 n c),(nI n),(nI (n-1)),(nI ((n-1)*9)),(sl 5 n c),(sl 5 n c),(nI n),(nI (n-1)),(.pointer (some ⟨5,(n-1),none⟩)),(nW a),undef,undef,undef,undef,undef,undef]):=
 sR (sc:=[(9,.op (.rwB false)),(7,.op (.rwI (((n-1):Nat):Int))),(0,.op (.rwI ((((n-1)*9):Nat):Int))),(8,.op (.rwI (((n-1):Nat):Int))),(0,.op (.idx (n-1))),(0,.op (.ld (nW a))),(4,.stay)]) (by kernel_rfl) (aI (eF (a:=(n:Int)) (b:=(0:Int))) (aI (wI64 (a:=((n:Int)-(1:Int))) (r:=(((n-1):Nat):Int))) (aI (wI64 (a:=((((n-1):Nat):Int)*(9:Int))) (r:=((((n-1)*9):Nat):Int))) (aI (wI64 (a:=((n:Int)-(1:Int))) (r:=(((n-1):Nat):Int))) (aI (ix (((n-1):Nat):Int) (n:Int) 0 1 (n-1)) (aI hx tt))))))
theorem dg_r(xs:List Nat)(n c u t:Nat)(j:List Value)(ht:0<t)(ht2:t<1000000000)(hu:u<70368744177664):GT (dg_h xs n c u t j) (dg_h xs n c (u+1) (t/10) [(J j 0),(J j 1),(J j 2),(J j 3),(J j 4),(J j 5),(J j 6),(J j 7),(J j 8),(J j 9),(J j 10),(J j 11),(nW t),bT,(nW t),(nW (t/10)),(nI u),(nI (u+1))]):=
 sR (sc:=[(4,.op (.rwB true)),(7,.op (.rwI (((u+1):Nat):Int))),(5,.op (.rwI (((t/10):Nat):Int))),(3,.stay)]) (by kernel_rfl) (aI (dT (p:=(t:Int)>(0:Int))) (aI (wI64 (a:=((u:Int)+(1:Int))) (r:=(((u+1):Nat):Int))) (aI (show IntKind.wrap .u32 (Int.tdiv (t:Int) (10:Int))=(((t/10):Nat):Int) from (by rw[Int.tdiv_eq_ediv_of_nonneg (by omega),wrap_u32 (by omega) (by omega)]<;>omega)) tt)))
theorem dg_o(xs:List Nat)(n c u t:Nat)(j:List Value)(ht:t=0)(hr:GT ⟨Frame.enter Tryz.prog 148 #[(sl 5 n c)] .normal,[],mkH 6 [(5,(cU xs))]⟩ (dg_h xs n c u t j)):CT 148 #[(sl 5 n c)] (mkH 6 [(5,(cU xs))]) (nI u) (mkH 6 [(5,(cU xs))]):=
 sF (sc:=[(4,.op (.rwB false)),(9,.stay)]) (by kernel_rfl) (aI (dF (p:=(t:Int)>(0:Int))) tt) hr
theorem dg_loop{xs:List Nat}{n c:Nat}: ∀(m t u:Nat) (j:List Value),t≤m→t<1000000000→u+ndig t<70368744177664→GT ⟨Frame.enter Tryz.prog 148 #[(sl 5 n c)] .normal,[],mkH 6 [(5,(cU xs))]⟩ (dg_h xs n c u t j)→
  CT 148 #[(sl 5 n c)] (mkH 6 [(5,(cU xs))]) (nI (u+ndig t)) (mkH 6 [(5,(cU xs))]):=by
 intro m
 induction m with
 |zero=>
  intro t u j hm ht hu hr
  have h0:t=0:=by omega
  subst h0
  rw[ndig_zero,Nat.add_zero]
  exact dg_o xs n c u 0 j rfl hr
 |succ m ih=>
  intro t u j hm ht hu hr
  rcases Nat.eq_zero_or_pos t with h0|h0
  ·subst h0
   rw[ndig_zero,Nat.add_zero]
   exact dg_o xs n c u 0 j rfl hr
  ·rw[ndig_pos h0]at hu ⊢
   have r:=dg_r xs n c u t j h0 ht (by omega)
   have:=ih (t/10) (u+1) _ (by omega) (by omega) (by omega) (hr.trans r)
   rw[show u+(ndig (t/10)+1)=u+1+ndig (t/10) by omega]
   exact this
theorem dg_c(n0 b:Nat)(xs:List Nat)(n c:Nat)(hb:5≤b∧b<n0)(hl:Lim xs)(hc:n≤xs.length)(hm:n<1099511627776):
  FT 148 #[sl b n c] n0 [(b,cU xs)] (nI (digN xs n)) [(b,some (cU xs))] []:=by
 have S:CT 148 #[(sl 5 n c)] (mkH 6 [(5,(cU xs))]) (nI (digN xs n)) (mkH 6 [(5,(cU xs))]):=by
  unfold digN
  by_cases hn:n=0
  ·rw[if_pos hn]
   exact dg_z xs n c hn
  ·rw[if_neg hn]
   have hlt:=hl.get (n-1)
   have h9:=ndig_le hlt
   exact dg_loop _ _ _ _ (Nat.le_refl _) hlt (by omega) (dg_in xs n c (xs.getD (n-1) 0) (by omega) hc hm (ns_get))
 exact fsp_flat [b] [cU xs] [cU xs] [] [] n0 S rfl rfl rfl (by simp) (by simp;omega) (by omega) (by simp[flat,ns_closed]) (by simp[flat,ns_closed]) rfl (by simp) (by simp) rfl rfl rfl
noncomputable section
abbrev z_dd4_0(p u:Nat):Value:=.slice (some ⟨p+2,0,none⟩) u u
end
noncomputable def pwh_f(p:Nat)(xs zs:List Nat)(k e n mo b t:Nat)(j:List Value):Frame:=⟨140,List.toArray [(sl 5 k e),(nI n),(nI mo),uu,uu,uu,(.slice none 0 0),(sl p t t),(nI b),(J j 0),(J j 1),(J j 2),(J j 3),(J j 4),(J j 5),(J j 6),(J j 7),(J j 8),(J j 9),(J j 10),(J j 11),(J j 12),(J j 13),(J j 14),(J j 15),(J j 16),(J j 17),(J j 18),(J j 19),(J j 20),(J j 21),(J j 22),(J j 23),(J j 24),uu],[.code (cd Tryz.f140 [1,1,0,1,0,0]),.inLoop (cd Tryz.f140 [1,1,0,1,0,0]),.inBlock 0,.code (cd Tryz.f140 [1,1,1])],[],.run,.normal,none⟩
noncomputable def pwh_o(p:Nat)(xs zs:List Nat)(k e n mo b t:Nat):List (Nat×AObj):=[(5,(cU xs)),(p,(cU zs))]
noncomputable def pwh(p:Nat)(xs zs:List Nat)(k e n mo b t:Nat)(j:List Value):AS:=⟨pwh_f p xs zs k e n mo b t j,[],mkH (p+1) (pwh_o p xs zs k e n mo b t)⟩
theorem pw_in(xs:List Nat)(k e n mo:Nat)(hn:n<549755813888)(hmo2:mo<549755813888)(b:Nat)(hc1:(FT 178 #[(nI n)] 7 [] (nI b) [] [])):GT ⟨Frame.enter Tryz.prog 140 #[(sl 5 k e),(nI n),(nI mo)] .normal,[],mkH 6 [(5,(cU xs))]⟩ (pwh 6 xs ([1]) k e n mo b 1 [(sl 6 1 1),(nI n),(nI b),undef,undef,undef,undef,undef,undef,undef,undef,undef,undef,undef,undef,undef,undef,undef,undef,undef,undef,undef,undef,undef,undef]):=
 sR (sc:=[(13,.call [] (nI b) [] []),(4,.stay)]) (by kernel_rfl) (aI hc1 tt)
def PP(p:Nat):Prop:=p=6∨p=8∨p=10∨p=12∨p=14∨p=16
theorem pp_ge{p:Nat}(h:PP p):6≤p:=by unfold PP at h;omega
def PO(p:Nat):Prop:=PP p∨p=18
theorem pw_o(p:Nat)(hp:PO p)(xs zs:List Nat)(k e n mo b t:Nat)(j:List Value)(hb:b=0)(hr:GT ⟨Frame.enter Tryz.prog 140 #[(sl 5 k e),(nI n),(nI mo)] .normal,[],mkH 6 [(5,(cU xs))]⟩ (pwh p xs zs k e n mo b t j)):CT 140 #[(sl 5 k e),(nI n),(nI mo)] (mkH 6 [(5,(cU xs))]) (sl p t t) (mkH (p+1) [(5,(cU xs)),(p,(cU zs))]):=by
 refine sF (sc:=[(4,.op (.rwB false)),(9,.stay)]) ?_ (aI (show decide ((b:Int)>(0:Int))=false from (by rw[decide_eq_false_iff_not];omega)) tt) hr
 rcases hp with (rfl|rfl|rfl|rfl|rfl|rfl)|rfl<;>kernel_rfl
theorem pw_rn(p:Nat)(hp:PP p)(xs zs:List Nat)(k e n mo b t:Nat)(j:List Value)(hn:n<549755813888)(hmo2:mo<549755813888)(hb:0<b)(hb2:b<549755813888)(hbit:n&&&b≠0)(ws:List Nat)(u:Nat)(hlw:Lim ws)(hcw:u≤ws.length)(hu:u<1000)(hmo:digN ws u≤mo)(hc1:(FT 179 #[(.slice (some ⟨p+1,0,none⟩) 3 3)] (p+2) [(p+1,(.cells [(sl p t t),(sl p t t),(sl 5 k e)] 75 none false)),(p,(cU zs)),(5,(cU xs))] (z_dd4_0 p u) [(p+1,some (.cells [(sl p t t),(sl p t t),(sl 5 k e)] 75 none false)),(p,some (cU zs)),(5,some (cU xs))] [(cU ws)])):GT (pwh p xs zs k e n mo b t j) (pwh (p+2) xs ws k e n mo (b/2) u [(J j 0),(J j 1),(J j 2),(nI b),bT,(nI b),(nI (b/2)),(nI n),(nI b),(nI (n&&&b)),bT,(sl p t t),(sl p t t),(sl 5 k e),(.slice (some ⟨p+1,0,none⟩) 3 3),(z_dd4_0 p u),(J j 16),(J j 17),(J j 18),(J j 19),(z_dd4_0 p u),(nI (digN ws u)),(nI mo),bF,(J j 24)]):=by
 refine sR (sc:=[(4,.op (.rwB true)),(10,.op (.rwI (((n&&&b):Nat):Int))),(0,.op (.rwB true)),(7,.call [(p+1),p,5] (z_dd4_0 p u) [(p+1,some (.cells [(sl p t t),(sl p t t),(sl 5 k e)] 75 none false)),(p,some (cU zs)),(5,some (cU xs))] [(cU ws)]),(5,.call [(p+2)] (nI (digN ws u)) [(p+2,some (cU ws))] []),(1,.op (.rwB false)),(6,.op (.rwI (((b/2):Nat):Int))),(3,.stay)]) ?_ (aI (show decide ((b:Int)>(0:Int))=true from (by rw[decide_eq_true_eq];omega)) (aI (show IntKind.wrap .i64 (((BitVec.ofInt 64 (n:Int)&&&BitVec.ofInt 64 (b:Int)).toNat:Nat):Int)=(((n&&&b):Nat):Int) from (wrap_and (by omega) (by omega))) (aI (show ((((n&&&b):Nat):Int) !=(0:Int))=true from (and_nz hbit)) (aI hc1 (aI (dg_c (p+3) (p+2) ws u u (by have:=pp_ge hp;omega) hlw hcw (by omega)) (aI (show decide ((((digN ws u):Nat):Int)>(mo:Int))=false from (by rw[decide_eq_false_iff_not];omega)) (aI (show IntKind.wrap .i64 (Int.tdiv (b:Int) (2:Int))=(((b/2):Nat):Int) from (half_wrap (by omega))) tt)))))))
 rcases hp with rfl|rfl|rfl|rfl|rfl|rfl<;>kernel_rfl
theorem pw_rz(p:Nat)(hp:PP p)(xs zs:List Nat)(k e n mo b t:Nat)(j:List Value)(hn:n<549755813888)(hmo2:mo<549755813888)(hb:0<b)(hb2:b<549755813888)(hbit:n&&&b=0)(ws:List Nat)(u:Nat)(hlw:Lim ws)(hcw:u≤ws.length)(hu:u<1000)(hmo:digN ws u≤mo)(hc1:(FT 179 #[(.slice (some ⟨p+1,0,none⟩) 2 2)] (p+2) [(p+1,(.cells [(sl p t t),(sl p t t)] 75 none false)),(p,(cU zs))] (z_dd4_0 p u) [(p+1,some (.cells [(sl p t t),(sl p t t)] 75 none false)),(p,some (cU zs))] [(cU ws)])):GT (pwh p xs zs k e n mo b t j) (pwh (p+2) xs ws k e n mo (b/2) u [(J j 0),(J j 1),(J j 2),(nI b),bT,(nI b),(nI (b/2)),(nI n),(nI b),(nI (n&&&b)),bF,(J j 11),(J j 12),(J j 13),(J j 14),(J j 15),(sl p t t),(sl p t t),(.slice (some ⟨p+1,0,none⟩) 2 2),(z_dd4_0 p u),(z_dd4_0 p u),(nI (digN ws u)),(nI mo),bF,(J j 24)]):=by
 refine sR (sc:=[(4,.op (.rwB true)),(10,.op (.rwI (((n&&&b):Nat):Int))),(0,.op (.rwB false)),(6,.call [(p+1),p] (z_dd4_0 p u) [(p+1,some (.cells [(sl p t t),(sl p t t)] 75 none false)),(p,some (cU zs))] [(cU ws)]),(5,.call [(p+2)] (nI (digN ws u)) [(p+2,some (cU ws))] []),(1,.op (.rwB false)),(6,.op (.rwI (((b/2):Nat):Int))),(3,.stay)]) ?_ (aI (show decide ((b:Int)>(0:Int))=true from (by rw[decide_eq_true_eq];omega)) (aI (show IntKind.wrap .i64 (((BitVec.ofInt 64 (n:Int)&&&BitVec.ofInt 64 (b:Int)).toNat:Nat):Int)=(((n&&&b):Nat):Int) from (wrap_and (by omega) (by omega))) (aI (show ((((n&&&b):Nat):Int) !=(0:Int))=false from (and_z hbit)) (aI hc1 (aI (dg_c (p+3) (p+2) ws u u (by have:=pp_ge hp;omega) hlw hcw (by omega)) (aI (show decide ((((digN ws u):Nat):Int)>(mo:Int))=false from (by rw[decide_eq_false_iff_not];omega)) (aI (show IntKind.wrap .i64 (Int.tdiv (b:Int) (2:Int))=(((b/2):Nat):Int) from (half_wrap (by omega))) tt)))))))
 rcases hp with rfl|rfl|rfl|rfl|rfl|rfl<;>kernel_rfl
def PW(n0 bx:Nat)(xs:List Nat)(k e n mo:Nat):Prop:= ∃zs t,Lim zs∧t≤zs.length∧t<24∧(0<t→zs.getD (t-1) 0≠0)∧val (zs.take t)=val (xs.take k)^n∧
 FT 140 #[sl bx k e,.int .i64 ((n:Nat):Int),.int .i64 ((mo:Nat):Int)] n0 [(bx,cU xs)] (sl n0 t t) [(bx,some (cU xs))] [cU zs]
theorem pw_fs{n0 bx p k e n mo t:Nat}{xs zs:List Nat}(hp:PO p)(hbx:5≤bx∧bx<n0)(S:CT 140 #[(sl 5 k e),(nI n),(nI mo)] (mkH 6 [(5,(cU xs))]) (sl p t t) (mkH (p+1) [(5,cU xs),(p,cU zs)])):
  FT 140 #[sl bx k e,.int .i64 ((n:Nat):Int),.int .i64 ((mo:Nat):Int)] n0 [(bx,cU xs)] (sl n0 t t) [(bx,some (cU xs))] [cU zs]:=by
 have F:=fsp_flat (args':= #[sl bx k e,.int .i64 ((n:Nat):Int),.int .i64 ((mo:Nat):Int)]) (v':=sl n0 t t) [bx] [cU xs] [cU xs] [p] [cU zs] n0 S
 rcases hp with (rfl|rfl|rfl|rfl|rfl|rfl)|rfl<;>exact F rfl rfl rfl (by simp) (by simp;omega) (by omega) (by simp[flat,ns_closed]) (by simp[flat,ns_closed]) (by simp[flat,ns_closed,AObj.ro]) (by simp) (by simp) rfl rfl rfl
theorem pe{n0 bx:Nat}{xs:List Nat}{k e' n mo:Nat}(hbx:5≤bx∧bx<n0)(hlx:Lim xs)(hk:k≤xs.length)(hk2:k<24)(hn:n<549755813888)(hmo:207≤mo)(hmo2:mo<549755813888)(hx:val (xs.take k)^n<10^207):
  ∀(m p:Nat) (zs:List Nat) (t b:Nat) (j:List Value),p+2*m=18→6≤p→Lim zs→t≤zs.length→t<24→(0<t→zs.getD (t-1) 0≠0)→(b=0∧val (zs.take t)=val (xs.take k)^n∨ ∃q,b=2^q∧q<m∧b≤n∧val (zs.take t)=val (xs.take k)^(n/2^(q+1)))→
   GT ⟨Frame.enter Tryz.prog 140 #[(sl 5 k e'),(nI n),(nI mo)] .normal,[],mkH 6 [(5,(cU xs))]⟩ (pwh p xs zs k e' n mo b t j)→PW n0 bx xs k e' n mo:=by
 intro m
 induction m with
 |zero=>
  intro p zs t b j hp _ hl hc ht h0 hb hr
  rcases hb with⟨hb0,hv⟩|⟨q,_,hq,_⟩
  ·exact⟨zs,t,hl,hc,ht,h0,hv,pw_fs (by unfold PO;omega) hbx (pw_o p (by unfold PO;omega) xs zs k e' n mo b t j hb0 hr)⟩
  ·omega
 |succ m ih=>
  intro p zs t b j hp hp6 hl hc ht h0 hb hr
  have hP0:PP p:=by unfold PP;omega
  rcases hb with⟨hb0,hv⟩|⟨q,hq,hqm,hbn,hv⟩
  ·exact⟨zs,t,hl,hc,ht,h0,hv,pw_fs (.inl hP0) hbx (pw_o p (.inl hP0) xs zs k e' n mo b t j hb0 hr)⟩
  ·have hb1:0<b:=by rw[hq];exact Nat.pow_pos (by decide)
   have hb2:b<549755813888:=by omega
   have hP:=pow_bits (v:=val (xs.take k)) (n:=n) (i:=q) hv
   rw[←hq]at hP
   have hm: ∀w,w=val (xs.take k)^(n/b)→ndig w≤207:=fun w hw=>by rw[hw];exact pow_fits hx (Nat.div_le_self ..)
   have hnext:b/2=0∧val (xs.take k)^(n/b)=val (xs.take k)^n∨ ∃q',b/2=2^q'∧q'<m∧b/2≤n∧val (xs.take k)^(n/b)=val (xs.take k)^(n/2^(q'+1)):=by
    cases q with
    |zero=>exact .inl ⟨by rw[hq],by rw[hq,Nat.pow_zero,Nat.div_one]⟩
    |succ q'=>exact .inr ⟨q',by rw[hq,Nat.pow_succ];omega,by omega,by omega,by rw[hq]⟩
   by_cases hbit:n&&&b=0
   ·obtain⟨ws,u,g1,g2,g3,g4,g5,g6⟩:=m2_c (p+2) (p+1) p zs t t ht (by omega) hl hc
    have e:=hP.2 hbit
    rw[←g5]at e
    have hu:=few_limbs g1 g2 g4 (hm _ e)
    exact ih (p+2) ws u (b/2) _ (by omega) (by omega) g1 g2 hu g4 (by rw[e];exact hnext) (hr.trans (pw_rz p hP0 xs zs k e' n mo b t j hn hmo2 hb1 hb2 hbit ws u g1 g2 (by omega) (by rw[digN_eq g1 g2 g4];exact Nat.le_trans (hm _ e) hmo) g6))
   ·obtain⟨ws,u,g1,g2,g3,g4,g5,g6⟩:=m3_c (p+2) (p+1) p 5 zs xs t t k e' ht hk2 (by omega) hl hc hlx hk
    have e:=hP.1 hbit
    rw[←g5]at e
    have hu:=few_limbs g1 g2 g4 (hm _ e)
    exact ih (p+2) ws u (b/2) _ (by omega) (by omega) g1 g2 hu g4 (by rw[e];exact hnext) (hr.trans (pw_rn p hP0 xs zs k e' n mo b t j hn hmo2 hb1 hb2 hbit ws u g1 g2 (by omega) (by rw[digN_eq g1 g2 g4];exact Nat.le_trans (hm _ e) hmo) g6))
theorem pw_c(n0 bx:Nat)(xs:List Nat)(k e' n mo:Nat)(hbx:5≤bx∧bx<n0)(hlx:Lim xs)(hk:k≤xs.length)(hk2:k<24)(hn:n<64)(hmo:207≤mo)(hmo2:mo<549755813888)(hx:val (xs.take k)^n<10^207):PW n0 bx xs k e' n mo:=by
 obtain⟨b,h1,T⟩:=tb_c 7 n (by omega) (by omega)
 refine pe hbx hlx hk hk2 (by omega) hmo hmo2 hx 6 6 [1] 1 b _ rfl (Nat.le_refl _) (by intro z hz;simp at hz;omega) (by decide) (by decide) (by decide) ?_ (pw_in xs k e' n mo (by omega) hmo2 b T)
 have h11:val (List.take 1 [1])=1:=by decide
 rcases h1 with⟨h2,h3⟩|⟨q,h2,h3,h4⟩
 ·exact .inl ⟨h2,by rw[h11,h3,Nat.pow_zero]⟩
 ·refine .inr ⟨q,h2,?_,h3,?_⟩
  ·rcases Nat.lt_or_ge q 6 with h|h
   ·omega
   ·have:2^6≤2^q:=Nat.pow_le_pow_right (by decide) h
    omega
  ·rw[h11,Nat.div_eq_of_lt (by rw[Nat.pow_succ,←h2];omega),Nat.pow_zero]
noncomputable def tt_h_f(n p i:Nat)(j:List Value):Frame:=⟨203,List.toArray [(nI n),uu,(lU 0),(nU p),(nI n),(nI i),(J j 0),(J j 1),(J j 2),(J j 3),uu],[.code (cd Tryz.f203 [1,1,0,1,0,0]),.inLoop (cd Tryz.f203 [1,1,0,1,0,0]),.inBlock 0,.code (cd Tryz.f203 [1,1,1])],[],.run,.normal,none⟩
noncomputable def tt_h_o(n p i:Nat):List (Nat×AObj):=[]
noncomputable def tt_h(n p i:Nat)(j:List Value):AS:=⟨tt_h_f n p i j,[],mkH 5 (tt_h_o n p i)⟩
theorem tt_in(n:Nat):GT ⟨Frame.enter Tryz.prog 203 #[(nI n)] .normal,[],mkH 5 []⟩ (tt_h n 1 0 [undef,undef,undef,undef]):=
 sR (sc:=[(16,.stay)]) (by kernel_rfl) tt
theorem tt_r(n p i:Nat)(j:List Value)(hn:n<1000)(hp:p≤1000000000000000000)(hi:i<n):GT (tt_h n p i j) (tt_h n (p*10) (i+1) [bT,(nU p),(nU (p*10)),(nI (i+1))]):=
 sR (sc:=[(2,.op (.rwB true)),(8,.op (.rwI (((p*10):Nat):Int))),(4,.op (.rwI (((i+1):Nat):Int))),(3,.stay)]) (by kernel_rfl) (aI (dT (p:=(i:Int)<(n:Int))) (aI (wU64 (a:=((p:Int)*(10:Int))) (r:=(((p*10):Nat):Int))) (aI (wI64 (a:=((i:Int)+(1:Int))) (r:=(((i+1):Nat):Int))) tt)))
theorem tt_o(n p i:Nat)(j:List Value)(hn:n<1000)(hp:p≤1000000000000000000)(hi:n≤i)(hr:GT ⟨Frame.enter Tryz.prog 203 #[(nI n)] .normal,[],mkH 5 []⟩ (tt_h n p i j)):CT 203 #[(nI n)] (mkH 5 []) (nU p) (mkH 5 []):=
 sF (sc:=[(2,.op (.rwB false)),(10,.stay)]) (by kernel_rfl) (aI (dF (p:=(i:Int)<(n:Int))) tt) hr
theorem tt_loop{n:Nat}(hn:n≤18): ∀(k i:Nat) (j:List Value),k=n-i→i≤n→GT ⟨Frame.enter Tryz.prog 203 #[(nI n)] .normal,[],mkH 5 []⟩ (tt_h n (10^i) i j)→CT 203 #[(nI n)] (mkH 5 []) (nU (10^n)) (mkH 5 []):=by
 intro k
 induction k with
 |zero=>
  intro i j hk hi hr
  have:i=n:=by omega
  subst this
  exact tt_o i (10^i) i j (by omega) (Nat.pow_le_pow_right (by decide) hn) (Nat.le_refl _) hr
 |succ k ih=>
  intro i j hk hi hr
  have h:=hr.trans (tt_r n (10^i) i j (by omega) (Nat.pow_le_pow_right (by decide) (by omega:i≤18)) (by omega))
  rw[←Nat.pow_succ]at h
  exact ih _ _ (by omega) (by omega) h
theorem tt_c(n0 n:Nat)(hG:5≤n0)(hn:n≤18):FT 203 #[(nI n)] n0 [] (nU (10^n)) [] []:=
 fsp_flat [] [] [] [] [] n0 (tt_loop hn _ 0 _ rfl (Nat.zero_le _) (tt_in n)) rfl rfl rfl (by simp) (by simp) (by omega) rfl rfl rfl (by simp) (by simp) rfl rfl rfl
noncomputable section
abbrev z_85a_0(i p q n c f:Nat)(zs:List Nat):List Value:=[(nI i),(nU (p+q)),bT,(nI i),(sl 5 n c),(nI i),(.pointer (some ⟨5,i,none⟩)),(nW (zs.getD i 0)),(nU (zs.getD i 0)),(nU f),(nU p),(nU q),(nU (p+q)),(nU (p+q)),(nU ((p+q)/1000000000)),(sl 5 n c),(nI i),(nU (p+q)),(nU ((p+q)%1000000000)),(nW ((p+q)%1000000000)),(.pointer (some ⟨5,i,none⟩)),(nI (i+1))]
end
noncomputable def sc_h_f(zs:List Nat)(n c f l q i:Nat)(j:List Value):Frame:=⟨169,List.toArray [(sl 5 n c),(nU f),(nU l),uu,uu,uu,(nU q),(J j 0),(J j 1),(nU l),(sl 5 n c),(nI n),(nI i),(J j 2),(J j 3),(J j 4),(J j 5),(J j 6),(J j 7),(J j 8),(J j 9),(J j 10),(J j 11),(J j 12),(J j 13),(J j 14),(J j 15),(J j 16),(J j 17),(J j 18),(J j 19),(J j 20),(J j 21),uu],[.code (cd Tryz.f169 [1,1,0,1,0,0]),.inLoop (cd Tryz.f169 [1,1,0,1,0,0]),.inBlock 0,.code (cd Tryz.f169 [1,1,1])],[],.run,.normal,none⟩
noncomputable def sc_h_o(zs:List Nat)(n c f l q i:Nat):List (Nat×AObj):=[(5,(cU zs))]
noncomputable def sc_h(zs:List Nat)(n c f l q i:Nat)(j:List Value):AS:=⟨sc_h_f zs n c f l q i j,[],mkH 6 (sc_h_o zs n c f l q i)⟩
theorem sc_in(xs:List Nat)(n c f l:Nat):GT ⟨Frame.enter Tryz.prog 169 #[(sl 5 n c),(nU f),(nU l)] .normal,[],mkH 6 [(5,(cU xs))]⟩ (sc_h xs n c f l l 0 [undef,undef,undef,undef,undef,undef,undef,undef,undef,undef,undef,undef,undef,undef,undef,undef,undef,undef,undef,undef,undef,undef]):=
 sR (sc:=[(18,.stay)]) (by kernel_rfl) tt
theorem sc_r(zs:List Nat)(n c f l q i p:Nat)(j:List Value)(hi:i<n)(hm:n<1099511627776)(hc:n≤zs.length)(ha:zs.getD i 0<1000000000)(hp:p=zs.getD i 0*f)(hp2:p≤999999999000000000)(hq:q≤1000000000):GT (sc_h zs n c f l q i j) (sc_h (zs.set i ((p+q)%1000000000)) n c f l ((p+q)/1000000000) (i+1) (z_85a_0 i p q n c f zs)):=
 sR (sc:=[(2,.op (.rwB true)),(15,.op (.idx i)),(0,.op (.ld (nW (zs.getD i 0)))),(0,.op (.rwI (((zs.getD i 0):Nat):Int))),(1,.op (.rwI (p:Int))),(1,.op (.rwI (((p+q):Nat):Int))),(5,.op (.rwI ((((p+q)/1000000000):Nat):Int))),(6,.op (.rwI ((((p+q)%1000000000):Nat):Int))),(0,.op (.rwI ((((p+q)%1000000000):Nat):Int))),(0,.op (.idx i)),(0,.op (.st (ns .u32 (zs.set i ((p+q)%1000000000))))),(3,.op (.rwI (((i+1):Nat):Int))),(3,.stay)]) (by kernel_rfl) (aI (dT (p:=(i:Int)<(n:Int))) (aI (ix (i:Int) (n:Int) 0 1 i) (aI (ns_get (k:=.u32) (xs:=zs) (i:=i)) (aI (wU64 (a:=(((zs.getD i 0):Nat):Int)) (r:=(((zs.getD i 0):Nat):Int))) (aI (show IntKind.wrap .u64 ((((zs.getD i 0):Nat):Int)*(f:Int))=(p:Int) from (by subst hp;rw[wrap_u64 (by omega) (by omega)]<;>omega)) (aI (wU64 (a:=((p:Int)+(q:Int))) (r:=(((p+q):Nat):Int))) (aI (show IntKind.wrap .u64 (Int.tdiv (((p+q):Nat):Int) (1000000000:Int))=((((p+q)/1000000000):Nat):Int) from (by rw[Int.tdiv_eq_ediv_of_nonneg (by omega),wrap_u64 (by omega) (by omega)]<;>omega)) (aI (show (Int.tmod (((p+q):Nat):Int) (1000000000:Int))=((((p+q)%1000000000):Nat):Int) from (by rw[Int.tmod_eq_emod_of_nonneg (by omega)]<;>omega)) (aI (wU32 (a:=((((p+q)%1000000000):Nat):Int)) (r:=((((p+q)%1000000000):Nat):Int))) (aI (ix (i:Int) (n:Int) 0 1 i) (aI (show i+1≤(ns .u32 zs).length∧lspl (ns .u32 zs) i [(nW ((p+q)%1000000000))]=(ns .u32 (zs.set i ((p+q)%1000000000))) from (ns_set)) (aI (wI64 (a:=((i:Int)+(1:Int))) (r:=(((i+1):Nat):Int))) tt))))))))))))
theorem sc_o(xs zs:List Nat)(n c f l q i:Nat)(j:List Value)(hi:n≤i)(hr:GT ⟨Frame.enter Tryz.prog 169 #[(sl 5 n c),(nU f),(nU l)] .normal,[],mkH 6 [(5,(cU xs))]⟩ (sc_h zs n c f l q i j)):CT 169 #[(sl 5 n c),(nU f),(nU l)] (mkH 6 [(5,(cU xs))]) (nU q) (mkH 6 [(5,(cU zs))]):=
 sF (sc:=[(2,.op (.rwB false)),(10,.stay)]) (by kernel_rfl) (aI (dF (p:=(i:Int)<(n:Int))) tt) hr
theorem sc_all{s0:AS}{n c f l T:Nat}(hf:f≤1000000000)(hm:n<1099511627776): ∀(m i:Nat) (zs:List Nat) (q:Nat) (j:List Value),m=n-i→i≤n→zs.length=n→Lim zs→q≤1000000000→
  val (zs.take i)+q*1000000000^i+f*(1000000000^i*val (zs.drop i))=T→GT s0 (sc_h zs n c f l q i j)→
  ∃zs' q' j',zs'.length=n∧Lim zs'∧val zs'+q'*1000000000^n=T∧GT s0 (sc_h zs' n c f l q' n j'):=by
 intro m
 induction m with
 |zero=>
  intro i zs q j hm2 hi hz hl hq hv hr
  have:i=n:=by omega
  subst this
  rw[List.take_of_length_le (by omega),List.drop_eq_nil_of_le (by omega),show val []=0 from rfl,Nat.mul_zero,Nat.mul_zero,Nat.add_zero]at hv
  exact⟨zs,q,j,hz,hl,hv,hr⟩
 |succ m ih=>
  intro i zs q j hm2 hi hz hl hq hv hr
  have ha:=hl.get i
  have hp2:zs.getD i 0*f≤999999999000000000:=Nat.mul_le_mul (show zs.getD i 0≤999999999 by omega) hf
  have r:=sc_r zs n c f l q i _ j (by omega) hm (by omega) ha rfl hp2 hq
  have hv':=scale_round (show i<zs.length by omega) hv
  refine ih (i+1) _ _ _ (by omega) (by omega) (by rw[List.length_set];exact hz) (hl.set (Nat.mod_lt _ (by decide))) ?_ hv' (hr.trans r)
  generalize zs.getD i 0*f=p at*
  omega
theorem sc_c(n0 b:Nat)(xs:List Nat)(n c f l:Nat)(hb:5≤b∧b<n0)(hlx:Lim xs)(hx:xs.length=n)(hm:n<1099511627776)(hf:f≤1000000000)(hl:l≤1000000000):
  ∃zs q,zs.length=n∧Lim zs∧val zs+q*1000000000^n=f*val xs+l∧
   FT 169 #[sl b n c,.int .u64 (f:Nat),.int .u64 (l:Nat)] n0 [(b,cU xs)] (nU q) [(b,some (cU zs))] []:=by
 obtain⟨zs,q,j,h1,h2,h3,h4⟩:=sc_all (T:=f*val xs+l) hf hm n 0 xs l _ rfl (Nat.zero_le _) hx hlx hl (by rw[List.take_zero,List.drop_zero,Nat.pow_zero,Nat.one_mul,Nat.mul_one,show val []=0 from rfl];omega) (sc_in xs n c f l)
 exact⟨zs,q,h1,h2,h3,fsp_flat [b] [cU xs] [cU zs] [] [] n0 (sc_o xs zs n c f l q n j (Nat.le_refl _) h4) rfl rfl rfl (by simp) (by simp;omega) (by omega) (by simp[flat,ns_closed]) (by simp[flat,ns_closed]) rfl (by simp) (by simp) rfl rfl rfl⟩
theorem pt_o(z c d:Nat)(hz:z<549755813888)(hc:c=z/9+1)(hd:d+1=c)(hlr:(List.replicate c 0).length=c)(zs:List Nat)(q:Nat)(hc1:FT 169 #[(sl 5 c c),(nU (10^(z%9))),(lU 0)] 6 [(5,(.cells (ns .u32 ((List.replicate c 0).set d 1)) 121 none false))] (nU q) [(5,some (cU zs))] []):CT 181 #[(nI z)] (mkH 5 []) (sl 5 c c) (mkH 6 [(5,(cU zs))]):=
 sF (sc:=[(7,.op (.rwI (((z/9):Nat):Int))),(0,.op (.rwI (c:Int))),(0,.op (.mks c c (ns .u32 (List.replicate c 0)))),(7,.op (.rwI (d:Int))),(0,.op (.idx d)),(0,.op (.st (ns .u32 ((List.replicate c 0).set d 1)))),(5,.op (.rwI (((z%9):Nat):Int))),(0,.call [] (nU (10^(z%9))) [] []),(0,.call [5] (nU q) [(5,some (cU zs))] []),(7,.stay)]) (by kernel_rfl) (aI (show IntKind.wrap .i64 (Int.tdiv (z:Int) (9:Int))=(((z/9):Nat):Int) from (by rw[Int.tdiv_eq_ediv_of_nonneg (by omega),wrap_i64 (by omega) (by omega)]<;>omega)) (aI (wI64 (a:=((((z/9):Nat):Int)+(1:Int))) (r:=(c:Int))) (aI (show (0≤(c:Int)∧(c:Int)≤(c:Int)∧((4:Nat):Int)*(c:Int)≤281474976710656∧(c:Int)≤9223372036854775807)∧closedL (ns .u32 (List.replicate c 0))=true∧(madeCells (Value.cells (lW 0)) (Int.toNat (c:Int)*1)).toList=(ns .u32 (List.replicate c 0))∧Int.toNat (c:Int)=c∧Int.toNat (c:Int)=c from (by refine⟨⟨?_,?_,?_,?_⟩,ns_closed _ _,ns_made _ _ _,?_,?_⟩<;>omega)) (aI (wI64 (a:=((c:Int)-(1:Int))) (r:=(d:Int))) (aI (ix (d:Int) (c:Int) 0 1 d) (aI (show d+1≤(ns .u32 (List.replicate c 0)).length∧lspl (ns .u32 (List.replicate c 0)) d [(lW 1)]=(ns .u32 ((List.replicate c 0).set d 1)) from (ns_set)) (aI (show (Int.tmod (z:Int) (9:Int))=(((z%9):Nat):Int) from (by rw[Int.tmod_eq_emod_of_nonneg (by omega)]<;>omega)) (aI (tt_c 6 (z%9) (by omega) (by omega)) (aI hc1 tt))))))))) (Gets.refl _)
theorem pt_c(n0 z:Nat)(hG:5≤n0)(hz:z<549755813888): ∃zs c,Lim zs∧zs.length=c∧c=z/9+1∧(0<c→zs.getD (c-1) 0≠0)∧val (zs.take c)=10^z∧FT 181 #[(nI z)] n0 [] (sl n0 c c) [] [cU zs]:=by
 obtain⟨c,hc⟩: ∃c,c=z/9+1:=⟨_,rfl⟩
 have hp9:10^(z%9)≤1000000000:=by
  have:10^(z%9)≤10^9:=Nat.pow_le_pow_right (by decide) (by omega)
  have h9:(10:Nat)^9=1000000000:=by decide
  omega
 obtain⟨zs,q,h1,h2,h3,h4⟩:=sc_c 6 5 ((List.replicate c 0).set (c-1) 1) c c (10^(z%9)) 0 (by omega) (Lim.set (Lim.replicate _) (by decide)) (by rw[List.length_set,List.length_replicate]) (by omega) hp9 (by decide)
 have S:=pt_o z c (c-1) hz hc (by omega) List.length_replicate zs q h4
 obtain⟨h5,h6⟩:=ten_pow (z:=z) hc h1 h2 h3
 exact⟨zs,c,h2,h1,hc,h6,h5,fsp_flat [] [] [] [5] [cU zs] n0 S rfl rfl rfl (by simp) (by simp) (by omega) rfl rfl (by simp[flat,ns_closed,AObj.ro]) (by simp) (by simp) rfl rfl rfl⟩
noncomputable section
abbrev z_1bb_0(r i n c d v:Nat)(zs:List Nat):List Value:=[(nU ((r*1000000000)+(zs.getD i 0))),(nI i),bT,(nI i),(.int .i64 ((i:Int)-1)),(nU r),(nU (r*1000000000)),(sl 5 n c),(nI i),(.pointer (some ⟨5,i,none⟩)),(nW (zs.getD i 0)),(nU (zs.getD i 0)),(nU ((r*1000000000)+(zs.getD i 0))),(sl 5 n c),(nI i),(nU ((r*1000000000)+(zs.getD i 0))),(nU d),(nU v),(nW v),(.pointer (some ⟨5,i,none⟩)),(nU ((r*1000000000)+(zs.getD i 0))),(nU d),(nU (((r*1000000000)+(zs.getD i 0))%d))]
end
noncomputable def sh_h_f(zs:List Nat)(n c d r:Nat)(i:Int)(j:List Value):Frame:=⟨155,List.toArray [(sl 5 n c),(nU d),uu,uu,(nU r),(.int .i64 i),(J j 0),(sl 5 n c),(nI n),(.int .i64 ((n:Int)-1)),(J j 1),(J j 2),(J j 3),(J j 4),(J j 5),(J j 6),(J j 7),(J j 8),(J j 9),(J j 10),(J j 11),(J j 12),(J j 13),(J j 14),(J j 15),(J j 16),(J j 17),(J j 18),(J j 19),(J j 20),(J j 21),(J j 22),uu],[.code (cd Tryz.f155 [1,0,1,0,0]),.inLoop (cd Tryz.f155 [1,0,1,0,0]),.inBlock 0,.code (cd Tryz.f155 [1,1])],[],.run,.normal,none⟩
noncomputable def sh_h_o(zs:List Nat)(n c d r:Nat)(i:Int):List (Nat×AObj):=[(5,(cU zs))]
noncomputable def sh_h(zs:List Nat)(n c d r:Nat)(i:Int)(j:List Value):AS:=⟨sh_h_f zs n c d r i j,[],mkH 6 (sh_h_o zs n c d r i)⟩
theorem sh_in(xs:List Nat)(n c d:Nat)(hm:n<1099511627776):GT ⟨Frame.enter Tryz.prog 155 #[(sl 5 n c),(nU d)] .normal,[],mkH 6 [(5,(cU xs))]⟩ (sh_h xs n c d 0 ((n:Int)-1) [undef,undef,undef,undef,undef,undef,undef,undef,undef,undef,undef,undef,undef,undef,undef,undef,undef,undef,undef,undef,undef,undef,undef]):=
 sR (sc:=[(9,.op (.rwI ((n:Int)-1))),(4,.stay)]) (by kernel_rfl) (aI (wI64 (a:=((n:Int)-(1:Int))) (r:=((n:Int)-1))) tt)
theorem sh_r(zs:List Nat)(n c d r i v:Nat)(j:List Value)(hi:i<n)(hm:n<1099511627776)(hc:n≤zs.length)(ha:zs.getD i 0<1000000000)(hr:r<d)(hd0:0<d)(hd:d≤1000000000)(hv:v=(r*1000000000+zs.getD i 0)/d)(hq:v<1000000000):GT (sh_h zs n c d r i j) (sh_h (zs.set i v) n c d (((r*1000000000)+(zs.getD i 0))%d) ((i:Int)-1) (z_1bb_0 r i n c d v zs)):=
 sR (sc:=[(4,.op (.rwB true)),(8,.op (.rwI (((r*1000000000):Nat):Int))),(2,.op (.idx i)),(0,.op (.ld (nW (zs.getD i 0)))),(0,.op (.rwI (((zs.getD i 0):Nat):Int))),(0,.op (.rwI ((((r*1000000000)+(zs.getD i 0)):Nat):Int))),(8,.op (.div (v:Int))),(0,.op (.rwI (v:Int))),(0,.op (.idx i)),(0,.op (.st (ns .u32 (zs.set i v)))),(4,.op (.div (((((r*1000000000)+(zs.getD i 0))%d):Nat):Int))),(5,.op (.rwI ((i:Int)-1))),(3,.stay)]) (by kernel_rfl) (aI (dT (p:=(i:Int)≥(0:Int))) (aI (wU64 (a:=((r:Int)*(1000000000:Int))) (r:=(((r*1000000000):Nat):Int))) (aI (ix (i:Int) (n:Int) 0 1 i) (aI (ns_get (k:=.u32) (xs:=zs) (i:=i)) (aI (wU64 (a:=(((zs.getD i 0):Nat):Int)) (r:=(((zs.getD i 0):Nat):Int))) (aI (wU64 (a:=((((r*1000000000):Nat):Int)+(((zs.getD i 0):Nat):Int))) (r:=((((r*1000000000)+(zs.getD i 0)):Nat):Int))) (aI (show (d:Int)≠0∧IntKind.wrap .u64 (Int.tdiv ((((r*1000000000)+(zs.getD i 0)):Nat):Int) (d:Int))=(v:Int) from⟨by omega,by rw[Int.tdiv_eq_ediv_of_nonneg (by omega),show ∀a b:Nat,(a:Int)/(b:Int)=((a/b:Nat):Int) from fun _ _=>rfl,←hv,wrap_u64 (by omega) (by omega)]⟩) (aI (wU32 (a:=(v:Int)) (r:=(v:Int))) (aI (ix (i:Int) (n:Int) 0 1 i) (aI (show i+1≤(ns .u32 zs).length∧lspl (ns .u32 zs) i [(nW v)]=(ns .u32 (zs.set i v)) from (ns_set)) (aI (show (d:Int)≠0∧(Int.tmod ((((r*1000000000)+(zs.getD i 0)):Nat):Int) (d:Int))=(((((r*1000000000)+(zs.getD i 0))%d):Nat):Int) from⟨by omega,by rw[Int.tmod_eq_emod_of_nonneg (by omega)];rfl⟩) (aI (wI64 (a:=((i:Int)-(1:Int))) (r:=((i:Int)-1))) tt))))))))))))
theorem sh_o(xs zs:List Nat)(n c d r:Nat)(i:Int)(j:List Value)(hi:i<0)(hr:GT ⟨Frame.enter Tryz.prog 155 #[(sl 5 n c),(nU d)] .normal,[],mkH 6 [(5,(cU xs))]⟩ (sh_h zs n c d r i j)):CT 155 #[(sl 5 n c),(nU d)] (mkH 6 [(5,(cU xs))]) (nU r) (mkH 6 [(5,(cU zs))]):=
 sF (sc:=[(4,.op (.rwB false)),(9,.stay)]) (by kernel_rfl) (aI (dF (p:=i≥(0:Int))) tt) hr
theorem sh_all{s0:AS}{n c d T:Nat}(hd0:0<d)(hd:d≤1000000000)(hm:n<1099511627776): ∀(i:Nat) (zs:List Nat) (r:Nat) (j:List Value),i≤n→zs.length=n→Lim zs→r<d→
  val (zs.take i)+1000000000^i*r+d*(1000000000^i*val (zs.drop i))=T→GT s0 (sh_h zs n c d r ((i:Int)-1) j)→
  ∃zs' r' i' j',zs'.length=n∧Lim zs'∧r'<d∧d*val zs'+r'=T∧i'<0∧GT s0 (sh_h zs' n c d r' i' j'):=by
 intro i
 induction i with
 |zero=>
  intro zs r j hi hz hl hrd hv hr
  refine⟨zs,r,_,j,hz,hl,hrd,?_,?_,hr⟩
  ·rw[List.take_zero,List.drop_zero,Nat.pow_zero,Nat.one_mul,Nat.one_mul,show val []=0 from rfl]at hv
   omega
  ·omega
 |succ i ih=>
  intro zs r j hi hz hl hrd hv hr
  rw[show ((i+1:Nat):Int)-1=(i:Int) by omega]at hr
  have ha:=hl.get i
  have hlt:r*1000000000+zs.getD i 0<d*1000000000:=by omega
  have hq:(r*1000000000+zs.getD i 0)/d<1000000000:=Nat.div_lt_of_lt_mul hlt
  have q:=sh_r zs n c d r i _ j (by omega) hm (by omega) ha hrd hd0 hd rfl hq
  have hv':=shrink_round (show i<zs.length by omega) hv
  exact ih _ _ _ (by omega) (by rw[List.length_set];exact hz) (hl.set hq) (Nat.mod_lt _ hd0) hv' (hr.trans q)
theorem sh_c(n0 b:Nat)(xs:List Nat)(n c d:Nat)(hb:5≤b∧b<n0)(hlx:Lim xs)(hx:xs.length=n)(hm:n<1099511627776)(hd0:0<d)(hd:d≤1000000000):
  ∃zs r,zs.length=n∧Lim zs∧r<d∧d*val zs+r=val xs∧
   FT 155 #[sl b n c,.int .u64 (d:Nat)] n0 [(b,cU xs)] (nU r) [(b,some (cU zs))] []:=by
 obtain⟨zs,r,i,j,h1,h2,h3,h4,h5,h6⟩:=sh_all (T:=val xs) hd0 hd hm n xs 0 _ (Nat.le_refl _) hx hlx hd0 (by rw[List.take_of_length_le (by omega),List.drop_eq_nil_of_le (by omega),show val []=0 from rfl];simp) (sh_in xs n c d hm)
 exact⟨zs,r,h1,h2,h3,h4,fsp_flat [b] [cU xs] [cU zs] [] [] n0 (sh_o xs zs n c d r i j h5 h6) rfl rfl rfl (by simp) (by simp;omega) (by omega) (by simp[flat,ns_closed]) (by simp[flat,ns_closed]) rfl (by simp) (by simp) rfl rfl rfl⟩
noncomputable section
abbrev z_3f2_0(i o q n c:Nat)(ys zs:List Nat):List Value:=[(nI i),(nW (ys.getD i 0)),(nW (((zs.getD (o+i) 0)+(ys.getD i 0))+q)),bT,(nI i),(.pointer (some ⟨6,i,none⟩)),(nW (ys.getD i 0)),(.slice (some ⟨5,o,none⟩) n c),(nI i),(.pointer (some ⟨5,(o+i),none⟩)),(nW (zs.getD (o+i) 0)),(nW (ys.getD i 0)),(nW ((zs.getD (o+i) 0)+(ys.getD i 0))),(nW q),(nW (((zs.getD (o+i) 0)+(ys.getD i 0))+q)),(nW (((zs.getD (o+i) 0)+(ys.getD i 0))+q)),(nW ((((zs.getD (o+i) 0)+(ys.getD i 0))+q)/1000000000)),(.slice (some ⟨5,o,none⟩) n c),(nI i),(nW (((zs.getD (o+i) 0)+(ys.getD i 0))+q)),(nW ((((zs.getD (o+i) 0)+(ys.getD i 0))+q)%1000000000)),(.pointer (some ⟨5,(o+i),none⟩)),(nI (i+1))]
end
noncomputable def gb_h_f(zs ys:List Nat)(o n c k e q i:Nat)(j:List Value):Frame:=⟨195,List.toArray [(.slice (some ⟨5,o,none⟩) n c),(sl 6 k e),uu,uu,(nW q),(J j 0),(J j 1),(J j 2),(sl 6 k e),(nI k),(nI i),(J j 3),(J j 4),(J j 5),(J j 6),(J j 7),(J j 8),(J j 9),(J j 10),(J j 11),(J j 12),(J j 13),(J j 14),(J j 15),(J j 16),(J j 17),(J j 18),(J j 19),(J j 20),(J j 21),(J j 22)],[.code (cd Tryz.f195 [1,1,0,0]),.inLoop (cd Tryz.f195 [1,1,0,0]),.inBlock 0],[],.run,.normal,none⟩
noncomputable def gb_h_o(zs ys:List Nat)(o n c k e q i:Nat):List (Nat×AObj):=[(5,(cU zs)),(6,(cU ys))]
noncomputable def gb_h(zs ys:List Nat)(o n c k e q i:Nat)(j:List Value):AS:=⟨gb_h_f zs ys o n c k e q i j,[],mkH 7 (gb_h_o zs ys o n c k e q i)⟩
theorem gb_in(xs ys:List Nat)(o n c k e:Nat):GT ⟨Frame.enter Tryz.prog 195 #[(.slice (some ⟨5,o,none⟩) n c),(sl 6 k e)] .normal,[],mkH 7 [(5,(cU xs)),(6,(cU ys))]⟩ (gb_h xs ys o n c k e 0 0 [undef,undef,undef,undef,undef,undef,undef,undef,undef,undef,undef,undef,undef,undef,undef,undef,undef,undef,undef,undef,undef,undef,undef]):=
 sR (sc:=[(12,.stay)]) (by kernel_rfl) tt
theorem gb_r(zs ys:List Nat)(o n c k e q i:Nat)(j:List Value)(hi:i<k)(hkn:k≤n)(hm:k<1099511627776)(hc:o+n≤zs.length)(hy:k≤ys.length)(ha:zs.getD (o+i) 0<1000000000)(hb:ys.getD i 0<1000000000)(hq:q≤1):GT (gb_h zs ys o n c k e q i j) (gb_h (zs.set (o+i) ((((zs.getD (o+i) 0)+(ys.getD i 0))+q)%1000000000)) ys o n c k e ((((zs.getD (o+i) 0)+(ys.getD i 0))+q)/1000000000) (i+1) (z_3f2_0 i o q n c ys zs)):=
 sR (sc:=[(2,.op (.rwB true)),(9,.op (.idx i)),(0,.op (.ld (nW (ys.getD i 0)))),(7,.op (.idx (o+i))),(0,.op (.ld (nW (zs.getD (o+i) 0)))),(1,.op (.rwI ((((zs.getD (o+i) 0)+(ys.getD i 0)):Nat):Int))),(1,.op (.rwI (((((zs.getD (o+i) 0)+(ys.getD i 0))+q):Nat):Int))),(5,.op (.rwI ((((((zs.getD (o+i) 0)+(ys.getD i 0))+q)/1000000000):Nat):Int))),(6,.op (.rwI ((((((zs.getD (o+i) 0)+(ys.getD i 0))+q)%1000000000):Nat):Int))),(0,.op (.idx (o+i))),(0,.op (.st (ns .u32 (zs.set (o+i) ((((zs.getD (o+i) 0)+(ys.getD i 0))+q)%1000000000))))),(3,.op (.rwI (((i+1):Nat):Int))),(3,.stay)]) (by kernel_rfl) (aI (dT (p:=(i:Int)<(k:Int))) (aI (ix (i:Int) (k:Int) 0 1 i) (aI (ns_get (k:=.u32) (xs:=ys) (i:=i)) (aI (ix (i:Int) (n:Int) o 1 (o+i)) (aI (ns_get (k:=.u32) (xs:=zs) (i:=(o+i))) (aI (wU32 (a:=((((zs.getD (o+i) 0):Nat):Int)+(((ys.getD i 0):Nat):Int))) (r:=((((zs.getD (o+i) 0)+(ys.getD i 0)):Nat):Int))) (aI (wU32 (a:=(((((zs.getD (o+i) 0)+(ys.getD i 0)):Nat):Int)+(q:Int))) (r:=(((((zs.getD (o+i) 0)+(ys.getD i 0))+q):Nat):Int))) (aI (show IntKind.wrap .u32 (Int.tdiv (((((zs.getD (o+i) 0)+(ys.getD i 0))+q):Nat):Int) (1000000000:Int))=((((((zs.getD (o+i) 0)+(ys.getD i 0))+q)/1000000000):Nat):Int) from (by rw[Int.tdiv_eq_ediv_of_nonneg (by omega),wrap_u32 (by omega) (by omega)]<;>omega)) (aI (show (Int.tmod (((((zs.getD (o+i) 0)+(ys.getD i 0))+q):Nat):Int) (1000000000:Int))=((((((zs.getD (o+i) 0)+(ys.getD i 0))+q)%1000000000):Nat):Int) from (by rw[Int.tmod_eq_emod_of_nonneg (by omega)]<;>omega)) (aI (ix (i:Int) (n:Int) o 1 (o+i)) (aI (show (o+i)+1≤(ns .u32 zs).length∧lspl (ns .u32 zs) (o+i) [(nW ((((zs.getD (o+i) 0)+(ys.getD i 0))+q)%1000000000))]=(ns .u32 (zs.set (o+i) ((((zs.getD (o+i) 0)+(ys.getD i 0))+q)%1000000000))) from (ns_set)) (aI (wI64 (a:=((i:Int)+(1:Int))) (r:=(((i+1):Nat):Int))) tt))))))))))))
theorem gb_o(xs zs ys:List Nat)(o n c k e q i:Nat)(j:List Value)(hi:k≤i)(hr:GT ⟨Frame.enter Tryz.prog 195 #[(.slice (some ⟨5,o,none⟩) n c),(sl 6 k e)] .normal,[],mkH 7 [(5,(cU xs)),(6,(cU ys))]⟩ (gb_h zs ys o n c k e q i j)):CT 195 #[(.slice (some ⟨5,o,none⟩) n c),(sl 6 k e)] (mkH 7 [(5,(cU xs)),(6,(cU ys))]) undef (mkH 7 [(5,(cU zs)),(6,(cU ys))]):=
 sF (sc:=[(2,.op (.rwB false)),(5,.stay)]) (by kernel_rfl) (aI (dF (p:=(i:Int)<(k:Int))) tt) hr
theorem gb_all{s0:AS}{ys:List Nat}{o n c k e R0:Nat}(hly:Lim ys)(hy:k≤ys.length)(hkn:k≤n)(hm:k<1099511627776): ∀(m i:Nat) (zs:List Nat) (q:Nat) (j:List Value),m=k-i→i≤k→o+n≤zs.length→Lim zs→q≤1→
  val zs+q*1000000000^(o+i)=R0+val (ys.take i)*1000000000^o→GT s0 (gb_h zs ys o n c k e q i j)→
  ∃zs' q' j',zs'.length=zs.length∧Lim zs'∧q'≤1∧(∀l,o+k≤l→zs'.getD l 0=zs.getD l 0)∧val zs'+q'*1000000000^(o+k)=R0+val (ys.take k)*1000000000^o∧GT s0 (gb_h zs' ys o n c k e q' k j'):=by
 intro m
 induction m with
 |zero=>
  intro i zs q j hm2 hi hz hl hq hv hr
  have:i=k:=by omega
  subst this
  exact⟨zs,q,j,rfl,hl,hq,fun _ _=>rfl,hv,hr⟩
 |succ m ih=>
  intro i zs q j hm2 hi hz hl hq hv hr
  have ha:=hl.get (o+i)
  have hb:=hly.get i
  have r:=gb_r zs ys o n c k e q i j (by omega) hkn hm hz hy ha hb hq
  have hv':=give_round (show o+i<zs.length by omega) hv
  obtain⟨zs',q',j',h1,h2,h3,h4,h5,h6⟩:=ih (i+1) _ _ _ (by omega) (by omega) (by rw[List.length_set];exact hz) (hl.set (Nat.mod_lt _ (by decide))) (by omega) hv' (hr.trans r)
  refine⟨zs',q',j',by rw[h1,List.length_set],h2,h3,fun l hl'=> ?_,h5,h6⟩
  rw[h4 l hl',getD_set (by omega),if_neg (by omega)]
theorem gb_c(n0 bx byy:Nat)(xs ys:List Nat)(o n c k e:Nat)(hb:5≤bx∧bx<n0∧5≤byy∧byy<n0∧bx≠byy)(hlx:Lim xs)(hly:Lim ys)(hc:o+n≤xs.length)(hy:k≤ys.length)(hkn:k≤n)(hm:k<1099511627776):
  ∃zs q,zs.length=xs.length∧Lim zs∧q≤1∧(∀l,o+k≤l→zs.getD l 0=xs.getD l 0)∧val zs+q*1000000000^(o+k)=val xs+val (ys.take k)*1000000000^o∧
   FT 195 #[.slice (some ⟨bx,o,none⟩) n c,sl byy k e] n0 [(bx,cU xs),(byy,cU ys)] (.tuple #[]) [(bx,some (cU zs)),(byy,some (cU ys))] []:=by
 obtain⟨zs,q,j,h1,h2,h3,h4,h5,h6⟩:=gb_all (R0:=val xs) hly hy hkn hm k 0 xs 0 _ rfl (Nat.zero_le _) hc hlx (by omega) (by rw[List.take_zero,show val []=0 from rfl,Nat.zero_mul,Nat.zero_mul]) (gb_in xs ys o n c k e)
 exact⟨zs,q,h1,h2,h3,h4,h5,fsp_flat [bx,byy] [cU xs,cU ys] [cU zs,cU ys] [] [] n0 (gb_o xs zs ys o n c k e q k j (Nat.le_refl _) h6) rfl rfl rfl (by simp[hb.2.2.2.2]) (by simp;omega) (by omega) (by simp[flat,ns_closed]) (by simp[flat,ns_closed]) rfl (by simp) (by simp) rfl rfl rfl⟩
end Go.Proofs.YtldoiilgfcpipaaGreatDoor
