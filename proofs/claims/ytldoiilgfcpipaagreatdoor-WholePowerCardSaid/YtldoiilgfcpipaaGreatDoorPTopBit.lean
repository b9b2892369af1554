import Derived.Test.YtldoiilgfcpipaaGreatDoorK
import Derived.Test.YtldoiilgfcpipaaGreatDoorPCnt
import Derived.Test.YtldoiilgfcpipaaGreatDoorLE
set_option linter.unusedVariables false
set_option linter.unusedSimpArgs false
set_option maxRecDepth 100000
namespace Go.Proofs.YtldoiilgfcpipaaGreatDoor
open Go Go.AE Seg
noncomputable def tb_h_f(n b x:Nat)(j:List Value):Frame:=(Fr 178 ([(nI n),uu,(lI 0),(nI b),(nI x)]++(jj j 0 6 [uu])) [.code (cd Tryz.f178 [1,1,0,1,0,0]),.inLoop (cd Tryz.f178 [1,1,0,1,0,0]),.inBlock 0,.code (cd Tryz.f178 [1,1,1])])
noncomputable def tb_h_o(n b x:Nat):List (Nat×AObj):=[]
noncomputable def tb_h(n b x:Nat)(j:List Value):AS:=⟨tb_h_f n b x j,[],Ag 5 (tb_h_o n b x)⟩
theorem tb_in(n:Nat):GT (Cg 178 #[(nI n)] 5 []) (tb_h n 0 1 [undef,undef,undef,undef,undef,undef]):=
 sR (sc:=[(15,.stay)]) kr tt
theorem tb_r(n b x:Nat)(j:List Value)(hx:x<1099511627776)(hn:x≤n):GT (tb_h n b x j) (tb_h n x (x*2) [(nI x),(nI n),bT,(nI x),(nI (x*2)),(nI x)]):=
 sR (sc:=[(5,.op (.rwB true)),(12,.op (.rwI (((x*2):Nat):Int))),(3,.stay)]) kr (aI (dT (p:=(x:Int)≤(n:Int))) (aI (Ao (a:=((x:Int)*(2:Int))) (r:=(((x*2):Nat):Int))) tt))
theorem tb_o(n b x:Nat)(j:List Value)(hx:x<1099511627776)(hn:n<x)(hr:GT (Cg 178 #[(nI n)] 5 []) (tb_h n b x j)):CT 178 #[(nI n)] (Ag 5 []) (nI b) (Ag 5 []):=
 sF (sc:=[(5,.op (.rwB false)),(9,.stay)]) kr (aI (dF (p:=(x:Int)≤(n:Int))) tt) hr
theorem tb_loop{n:Nat}(hn:n<549755813888): ∀(k b x:Nat) (j:List Value),k=n+1-x→0<x→x≤2*n+1→(b=0∧x=1∨ ∃e,b=2^e∧x=2*b∧b≤n)→GT (Cg 178 #[(nI n)] 5 []) (tb_h n b x j)→
  ∃b',(b'=0∧n=0∨ ∃e,b'=2^e∧b'≤n∧n<2*b')∧CT 178 #[(nI n)] (Ag 5 []) (nI b') (Ag 5 []):=by
 intro k
 induction k using Nat.strongRecOn with
 |ind k ih=>
  intro b x j hk h0 hx hb hr
  by_cases hxn:x≤n
  ·refine ih (n+1-2*x) (by clear hb;omega) x (2*x) _ rfl (by clear hb;omega) (by clear hb;omega) ?_ (by have:=hr.trans (tb_r n b x j (by clear hb;omega) hxn);rwa [Nat.mul_comm x 2]at this)
   rcases hb with⟨h1,h2⟩|⟨e,h1,h2,h3⟩
   ·exact .inr ⟨0,h2,rfl,hxn⟩
   ·exact .inr ⟨e+1,by rw[h2,h1,Nat.pow_succ,Nat.mul_comm],rfl,hxn⟩
  ·refine⟨b,?_,tb_o n b x j (by clear hb;omega) (by clear hb;omega) hr⟩
   rcases hb with⟨h1,h2⟩|⟨e,h1,h2,h3⟩
   ·exact .inl ⟨h1,by omega⟩
   ·exact .inr ⟨e,h1,h3,by omega⟩
theorem tb_c(n0 n:Nat)(hG:5≤n0)(hn:n<549755813888): ∃b,(b=0∧n=0∨ ∃e,b=2^e∧b≤n∧n<2*b)∧FT 178 #[(nI n)] n0 [] (nI b) [] []:=by
 obtain⟨b,h1,S⟩:=tb_loop hn _ 0 1 _ rfl de om (.inl ⟨rfl,rfl⟩) (tb_in n)
 exact⟨b,h1,Lv n0 S⟩
theorem dg_z(xs:List Nat)(n c:Nat)(hn:n=0):CT 148 #[(sl 5 n c)] (Ag 6 [(5,(cU xs))]) (lI 0) (Ag 6 [(5,(cU xs))]):=
 sF (sc:=[(9,.op (.rwB true)),(7,.stay)]) kr (aI (eT (a:=(n:Int)) (b:=(0:Int))) tt) (Gets.refl _)
noncomputable def dg_h_f(xs:List Nat)(n c u t:Nat)(j:List Value):Frame:=(Fr 148 ([(sl 5 n c),uu,(lI 0),(nI u),(nW t),(J j 0),(J j 1),bF]++(jj j 2 16 [uu])) [.code (cd Tryz.f148 [1,1,1,0,1,0,0]),.inLoop (cd Tryz.f148 [1,1,1,0,1,0,0]),.inBlock 0,.code (cd Tryz.f148 [1,1,1,1])])
noncomputable def dg_h_o(xs:List Nat)(n c u t:Nat):List (Nat×AObj):=[(5,(cU xs))]
noncomputable def dg_h(xs:List Nat)(n c u t:Nat)(j:List Value):AS:=⟨dg_h_f xs n c u t j,[],Ag 6 (dg_h_o xs n c u t)⟩
theorem dg_in(xs:List Nat)(n c a:Nat)(hn:0<n)(hc:n≤xs.length)(hm:n<1099511627776)(hx:(ns .u32 xs)[n-1]? =some (nW a)):GT (Cg 148 #[(sl 5 n c)] 6 [(5,(cU xs))]) (dg_h xs n c ((n-1)*9) a [(sl 5 n c),(nI n),(sl 5 n c),(nI n),(nI (n-1)),(nI ((n-1)*9)),(sl 5 n c),(sl 5 n c),(nI n),(nI (n-1)),(pp 5 (n-1)),(nW a),undef,undef,undef,undef,undef,undef]):=
 sR (sc:=[(9,.op (.rwB false)),(7,.op (.rwI (((n-1):Nat):Int))),(0,.op (.rwI ((((n-1)*9):Nat):Int))),(8,.op (.rwI (((n-1):Nat):Int))),(0,.op (.idx (n-1))),(0,.op (.ld (nW a))),(4,.stay)]) kr (aI (eF (a:=(n:Int)) (b:=(0:Int))) (aI (Ao (a:=((n:Int)-(1:Int))) (r:=(((n-1):Nat):Int))) (aI (Ao (a:=((((n-1):Nat):Int)*(9:Int))) (r:=((((n-1)*9):Nat):Int))) (aI (Ao (a:=((n:Int)-(1:Int))) (r:=(((n-1):Nat):Int))) (aI (ix (((n-1):Nat):Int) (n:Int) 0 1 (n-1)) (aI hx tt))))))
theorem dg_r(xs:List Nat)(n c u t:Nat)(j:List Value)(ht:0<t)(ht2:t<1000000000)(hu:u<70368744177664):GT (dg_h xs n c u t j) (dg_h xs n c (u+1) (t/10) (jj j 0 12 [(nW t),bT,(nW t),(nW (t/10)),(nI u),(nI (u+1))])):=
 sR (sc:=[(4,.op (.rwB true)),(7,.op (.rwI (((u+1):Nat):Int))),(5,.op (.rwI (((t/10):Nat):Int))),(3,.stay)]) kr (aI (dT (p:=(t:Int)>(0:Int))) (aI (Ao (a:=((u:Int)+(1:Int))) (r:=(((u+1):Nat):Int))) (aI (show IntKind.wrap .u32 (Int.tdiv (t:Int) (10:Int))=(((t/10):Nat):Int) from (by rw[Int.tdiv_eq_ediv_of_nonneg om,Bq om om]<;>omega)) tt)))
theorem dg_o(xs:List Nat)(n c u t:Nat)(j:List Value)(ht:t=0)(hr:GT (Cg 148 #[(sl 5 n c)] 6 [(5,(cU xs))]) (dg_h xs n c u t j)):CT 148 #[(sl 5 n c)] (Ag 6 [(5,(cU xs))]) (nI u) (Ag 6 [(5,(cU xs))]):=
 sF (sc:=[(4,.op (.rwB false)),(9,.stay)]) kr (aI (dF (p:=(t:Int)>(0:Int))) tt) hr
theorem dg_loop{xs:List Nat}{n c:Nat}: ∀(m t u:Nat) (j:List Value),t≤m→t<1000000000→u+Gr t<70368744177664→GT (Cg 148 #[(sl 5 n c)] 6 [(5,(cU xs))]) (dg_h xs n c u t j)→
  CT 148 #[(sl 5 n c)] (Ag 6 [(5,(cU xs))]) (nI (u+Gr t)) (Ag 6 [(5,(cU xs))]):=by
 intro m
 induction m with
 |zero=>
  intro t u j hm ht hu hr
  have h0:t=0:=by omega
  subst h0
  rw[ndig_zero,Nat.add_zero]
  exact dg_o xs n c u 0 j rfl hr
 |succ m ih=>
  intro t u j hm ht hu hr
  rcases Nat.eq_zero_or_pos t with h0|h0
  ·subst h0
   rw[ndig_zero,Nat.add_zero]
   exact dg_o xs n c u 0 j rfl hr
  ·rw[Nk h0]at hu ⊢
   have r:=dg_r xs n c u t j h0 ht om
   have:=ih (t/10) (u+1) _ om om om (hr.trans r)
   rw[show u+(Gr (t/10)+1)=u+1+Gr (t/10) by omega]
   exact this
theorem dg_c(n0 b:Nat)(xs:List Nat)(n c:Nat)(hb:5≤b∧b<n0)(hl:Lim xs)(hc:n≤xs.length)(hm:n<1099511627776):
  FT 148 #[sl b n c] n0 [(b,cU xs)] (nI (Yp xs n)) [(b,some (cU xs))] []:=by
 have S:CT 148 #[(sl 5 n c)] (Ag 6 [(5,(cU xs))]) (nI (Yp xs n)) (Ag 6 [(5,(cU xs))]):=by
  unfold Yp
  by_cases hn:n=0
  ·rw[if_pos hn]
   exact dg_z xs n c hn
  ·rw[if_neg hn]
   have hlt:=hl.get (n-1)
   have h9:=ndig_le hlt
   exact dg_loop _ _ _ _ (Nat.le_refl _) hlt om (dg_in xs n c (xs.getD (n-1) 0) om hc hm (Ar))
 exact ff [b] [cU xs] [cU xs] [] [] n0 S
noncomputable section
abbrev Rq(p u:Nat):Value:=sl (p+2) u u
end
noncomputable def pwh_f(p:Nat)(xs zs:List Nat)(k e n mo b t:Nat)(j:List Value):Frame:=(Fr 140 ([(sl 5 k e),(nI n),(nI mo),uu,uu,uu,nS,(sl p t t),(nI b)]++(jj j 0 25 [uu])) [.code (cd Tryz.f140 [1,1,0,1,0,0]),.inLoop (cd Tryz.f140 [1,1,0,1,0,0]),.inBlock 0,.code (cd Tryz.f140 [1,1,1])])
noncomputable def pwh_o(p:Nat)(xs zs:List Nat)(k e n mo b t:Nat):List (Nat×AObj):=[(5,(cU xs)),(p,(cU zs))]
noncomputable def pwh(p:Nat)(xs zs:List Nat)(k e n mo b t:Nat)(j:List Value):AS:=⟨pwh_f p xs zs k e n mo b t j,[],Ag (p+1) (pwh_o p xs zs k e n mo b t)⟩
theorem pw_in(xs:List Nat)(k e n mo:Nat)(hn:n<549755813888)(hmo2:mo<549755813888)(b:Nat)(hc1:(FT 178 #[(nI n)] 7 [] (nI b) [] [])):GT (Cg 140 #[(sl 5 k e),(nI n),(nI mo)] 6 [(5,(cU xs))]) (pwh 6 xs ([1]) k e n mo b 1 [(sl 6 1 1),(nI n),(nI b),undef,undef,undef,undef,undef,undef,undef,undef,undef,undef,undef,undef,undef,undef,undef,undef,undef,undef,undef,undef,undef,undef]):=
 sR (sc:=[(13,.call [] (nI b) [] []),(4,.stay)]) kr (aI hc1 tt)
def PP(p:Nat):Prop:=p=6∨p=8∨p=10∨p=12∨p=14∨p=16
theorem pp_ge{p:Nat}(h:PP p):6≤p:=by unfold PP at h;omega
def PO(p:Nat):Prop:=PP p∨p=18
theorem pw_o(p:Nat)(hp:PO p)(xs zs:List Nat)(k e n mo b t:Nat)(j:List Value)(hb:b=0)(hr:GT (Cg 140 #[(sl 5 k e),(nI n),(nI mo)] 6 [(5,(cU xs))]) (pwh p xs zs k e n mo b t j)):CT 140 #[(sl 5 k e),(nI n),(nI mo)] (Ag 6 [(5,(cU xs))]) (sl p t t) (Ag (p+1) [(5,(cU xs)),(p,(cU zs))]):=by
 refine sF (sc:=[(4,.op (.rwB false)),(9,.stay)]) ?_ (aI (show decide ((b:Int)>(0:Int))=false from (by rw[decide_eq_false_iff_not];omega)) tt) hr
 rcases hp with (rfl|rfl|rfl|rfl|rfl|rfl)|rfl<;>kernel_rfl
theorem pw_rn(p:Nat)(hp:PP p)(xs zs:List Nat)(k e n mo b t:Nat)(j:List Value)(hn:n<549755813888)(hmo2:mo<549755813888)(hb:0<b)(hb2:b<549755813888)(hbit:n&&&b≠0)(ws:List Nat)(u:Nat)(hlw:Lim ws)(hcw:u≤ws.length)(hu:u<1000)(hmo:Yp ws u≤mo)(hc1:(FT 179 #[(sl (p+1) 3 3)] (p+2) [(p+1,(.cells [(sl p t t),(sl p t t),(sl 5 k e)] 75 none false)),(p,(cU zs)),(5,(cU xs))] (Rq p u) [(p+1,some (.cells [(sl p t t),(sl p t t),(sl 5 k e)] 75 none false)),(p,some (cU zs)),(5,some (cU xs))] [(cU ws)])):GT (pwh p xs zs k e n mo b t j) (pwh (p+2) xs ws k e n mo (b/2) u (jj j 0 3 ([(nI b),bT,(nI b),(nI (b/2)),(nI n),(nI b),(nI (n&&&b)),bT,(sl p t t),(sl p t t),(sl 5 k e),(sl (p+1) 3 3),(Rq p u)]++(jj j 16 4 [(Rq p u),(nI (Yp ws u)),(nI mo),bF,(J j 24)])))):=by
 refine sR (sc:=[(4,.op (.rwB true)),(10,.op (.rwI (((n&&&b):Nat):Int))),(0,.op (.rwB true)),(7,.call [(p+1),p,5] (Rq p u) [(p+1,some (.cells [(sl p t t),(sl p t t),(sl 5 k e)] 75 none false)),(p,some (cU zs)),(5,some (cU xs))] [(cU ws)]),(5,.call [(p+2)] (nI (Yp ws u)) [(p+2,some (cU ws))] []),(1,.op (.rwB false)),(6,.op (.rwI (((b/2):Nat):Int))),(3,.stay)]) ?_ (aI (show decide ((b:Int)>(0:Int))=true from (by rw[decide_eq_true_eq];omega)) (aI (show IntKind.wrap .i64 (((BitVec.ofInt 64 (n:Int)&&&BitVec.ofInt 64 (b:Int)).toNat:Nat):Int)=(((n&&&b):Nat):Int) from (wrap_and om om)) (aI (show ((((n&&&b):Nat):Int) !=(0:Int))=true from (and_nz hbit)) (aI hc1 (aI (dg_c (p+3) (p+2) ws u u (by have:=pp_ge hp;omega) hlw hcw om) (aI (show decide ((((Yp ws u):Nat):Int)>(mo:Int))=false from (by rw[decide_eq_false_iff_not];omega)) (aI (show IntKind.wrap .i64 (Int.tdiv (b:Int) (2:Int))=(((b/2):Nat):Int) from (half_wrap om)) tt)))))))
 rcases hp with rfl|rfl|rfl|rfl|rfl|rfl<;>kernel_rfl
theorem pw_rz(p:Nat)(hp:PP p)(xs zs:List Nat)(k e n mo b t:Nat)(j:List Value)(hn:n<549755813888)(hmo2:mo<549755813888)(hb:0<b)(hb2:b<549755813888)(hbit:n&&&b=0)(ws:List Nat)(u:Nat)(hlw:Lim ws)(hcw:u≤ws.length)(hu:u<1000)(hmo:Yp ws u≤mo)(hc1:(FT 179 #[(sl (p+1) 2 2)] (p+2) [(p+1,(.cells [(sl p t t),(sl p t t)] 75 none false)),(p,(cU zs))] (Rq p u) [(p+1,some (.cells [(sl p t t),(sl p t t)] 75 none false)),(p,some (cU zs))] [(cU ws)])):GT (pwh p xs zs k e n mo b t j) (pwh (p+2) xs ws k e n mo (b/2) u (jj j 0 3 ([(nI b),bT,(nI b),(nI (b/2)),(nI n),(nI b),(nI (n&&&b)),bF]++(jj j 11 5 [(sl p t t),(sl p t t),(sl (p+1) 2 2),(Rq p u),(Rq p u),(nI (Yp ws u)),(nI mo),bF,(J j 24)])))):=by
 refine sR (sc:=[(4,.op (.rwB true)),(10,.op (.rwI (((n&&&b):Nat):Int))),(0,.op (.rwB false)),(6,.call [(p+1),p] (Rq p u) [(p+1,some (.cells [(sl p t t),(sl p t t)] 75 none false)),(p,some (cU zs))] [(cU ws)]),(5,.call [(p+2)] (nI (Yp ws u)) [(p+2,some (cU ws))] []),(1,.op (.rwB false)),(6,.op (.rwI (((b/2):Nat):Int))),(3,.stay)]) ?_ (aI (show decide ((b:Int)>(0:Int))=true from (by rw[decide_eq_true_eq];omega)) (aI (show IntKind.wrap .i64 (((BitVec.ofInt 64 (n:Int)&&&BitVec.ofInt 64 (b:Int)).toNat:Nat):Int)=(((n&&&b):Nat):Int) from (wrap_and om om)) (aI (show ((((n&&&b):Nat):Int) !=(0:Int))=false from (and_z hbit)) (aI hc1 (aI (dg_c (p+3) (p+2) ws u u (by have:=pp_ge hp;omega) hlw hcw om) (aI (show decide ((((Yp ws u):Nat):Int)>(mo:Int))=false from (by rw[decide_eq_false_iff_not];omega)) (aI (show IntKind.wrap .i64 (Int.tdiv (b:Int) (2:Int))=(((b/2):Nat):Int) from (half_wrap om)) tt)))))))
 rcases hp with rfl|rfl|rfl|rfl|rfl|rfl<;>kernel_rfl
def PW(n0 bx:Nat)(xs:List Nat)(k e n mo:Nat):Prop:= ∃zs t,Lim zs∧t≤zs.length∧t<1000∧(0<t→zs.getD (t-1) 0≠0)∧val (zs.take t)=val (xs.take k)^n∧
 FT 140 #[sl bx k e,.int .i64 ((n:Nat):Int),.int .i64 ((mo:Nat):Int)] n0 [(bx,cU xs)] (sl n0 t t) [(bx,some (cU xs))] [cU zs]
theorem pw_fs{n0 bx p k e n mo t:Nat}{xs zs:List Nat}(hp:PO p)(hbx:5≤bx∧bx<n0)(S:CT 140 #[(sl 5 k e),(nI n),(nI mo)] (Ag 6 [(5,(cU xs))]) (sl p t t) (Ag (p+1) [(5,cU xs),(p,cU zs)])):
  FT 140 #[sl bx k e,.int .i64 ((n:Nat):Int),.int .i64 ((mo:Nat):Int)] n0 [(bx,cU xs)] (sl n0 t t) [(bx,some (cU xs))] [cU zs]:=by
 have F:=Dd (args':= #[sl bx k e,.int .i64 ((n:Nat):Int),.int .i64 ((mo:Nat):Int)]) (v':=sl n0 t t) [bx] [cU xs] [cU xs] [p] [cU zs] n0 S
 rcases hp with (rfl|rfl|rfl|rfl|rfl|rfl)|rfl<;>exact F rfl rfl rfl sm (by simp;omega) om (by simp[Bb,Ab]) (by simp[Bb,Ab]) (by simp[Bb,Ab,AObj.ro]) sm sm rfl rfl rfl
theorem pe{n0 bx:Nat}{xs:List Nat}{k e' n mo:Nat}(hbx:5≤bx∧bx<n0)(hlx:Lim xs)(hk:k≤xs.length)(hk2:k<24)(hn:n<549755813888)(hmo:0<mo)(hmo2:mo<549755813888)(hx1:val (xs.take k)^(n/2)<10^207)(hx2:val (xs.take k)^n<10^mo):
  ∀(m p:Nat) (zs:List Nat) (t b:Nat) (j:List Value),p+2*m=18→6≤p→Lim zs→t≤zs.length→t<1000→(0<b→t<24)→(0<t→zs.getD (t-1) 0≠0)→(b=0∧val (zs.take t)=val (xs.take k)^n∨ ∃q,b=2^q∧q<m∧b≤n∧val (zs.take t)=val (xs.take k)^(n/2^(q+1)))→
   GT (Cg 140 #[(sl 5 k e'),(nI n),(nI mo)] 6 [(5,(cU xs))]) (pwh p xs zs k e' n mo b t j)→PW n0 bx xs k e' n mo:=by
 intro m
 induction m with
 |zero=>
  intro p zs t b j hp _ hl hc ht _ h0 hb hr
  rcases hb with⟨hb0,hv⟩|⟨q,_,hq,_⟩
  ·exact⟨zs,t,hl,hc,ht,h0,hv,pw_fs (by unfold PO;omega) hbx (pw_o p (by unfold PO;omega) xs zs k e' n mo b t j hb0 hr)⟩
  ·omega
 |succ m ih=>
  intro p zs t b j hp hp6 hl hc ht1 ht2 h0 hb hr
  have hP0:PP p:=by unfold PP;omega
  rcases hb with⟨hb0,hv⟩|⟨q,hq,hqm,hbn,hv⟩
  ·exact⟨zs,t,hl,hc,ht1,h0,hv,pw_fs (.inl hP0) hbx (pw_o p (.inl hP0) xs zs k e' n mo b t j hb0 hr)⟩
  ·have hb1:0<b:=by rw[hq];exact Nat.pow_pos de
   have hb2:b<549755813888:=by omega
   have hP:=pow_bits (v:=val (xs.take k)) (n:=n) (i:=q) hv
   rw[←hq]at hP
   have ht:=ht2 hb1
   have hm: ∀w,w=val (xs.take k)^(n/b)→Gr w≤mo:=fun w hw=>by rw[hw];exact pow_fits' hmo hx2 (Nat.div_le_self ..)
   have hm2: ∀w,w=val (xs.take k)^(n/b)→0<b/2→Gr w≤207:=fun w hw h=>by rw[hw];exact pow_fits hx1 (Nat.div_le_div_left om de)
   have hnext:b/2=0∧val (xs.take k)^(n/b)=val (xs.take k)^n∨ ∃q',b/2=2^q'∧q'<m∧b/2≤n∧val (xs.take k)^(n/b)=val (xs.take k)^(n/2^(q'+1)):=by
    cases q with
    |zero=>exact .inl ⟨by rw[hq],by rw[hq,Nat.pow_zero,Nat.div_one]⟩
    |succ q'=>exact .inr ⟨q',by rw[hq,Nat.pow_succ];omega,by omega,by omega,by rw[hq]⟩
   by_cases hbit:n&&&b=0
   ·obtain⟨ws,u,g1,g2,g3,g4,g5,g6⟩:=m2_c (p+2) (p+1) p zs t t ht om hl hc
    have e:=hP.2 hbit
    rw[←g5]at e
    have hu:0<b/2→u<24:=fun h=>few_limbs g1 g2 g4 (hm2 _ e h)
    exact ih (p+2) ws u (b/2) _ om om g1 g2 om hu g4 (by rw[e];exact hnext) (hr.trans (pw_rz p hP0 xs zs k e' n mo b t j hn hmo2 hb1 hb2 hbit ws u g1 g2 om (by rw[Ys g1 g2 g4];exact hm _ e) g6))
   ·obtain⟨ws,u,g1,g2,g3,g4,g5,g6⟩:=m3_c (p+2) (p+1) p 5 zs xs t t k e' ht hk2 om hl hc hlx hk
    have e:=hP.1 hbit
    rw[←g5]at e
    have hu:0<b/2→u<24:=fun h=>few_limbs g1 g2 g4 (hm2 _ e h)
    exact ih (p+2) ws u (b/2) _ om om g1 g2 om hu g4 (by rw[e];exact hnext) (hr.trans (pw_rn p hP0 xs zs k e' n mo b t j hn hmo2 hb1 hb2 hbit ws u g1 g2 om (by rw[Ys g1 g2 g4];exact hm _ e) g6))
theorem pwg_c(n0 bx:Nat)(xs:List Nat)(k e' n mo:Nat)(hbx:5≤bx∧bx<n0)(hlx:Lim xs)(hk:k≤xs.length)(hk2:k<24)(hn:n<64)(hmo:0<mo)(hmo2:mo<549755813888)(hx1:val (xs.take k)^(n/2)<10^207)(hx2:val (xs.take k)^n<10^mo):PW n0 bx xs k e' n mo:=by
 obtain⟨b,h1,T⟩:=tb_c 7 n om om
 refine pe hbx hlx hk hk2 om hmo hmo2 hx1 hx2 6 6 [1] 1 b _ rfl (Nat.le_refl _) (by intro z hz;simp at hz;omega) de de (fun _=>by decide) de ?_ (pw_in xs k e' n mo om hmo2 b T)
 have h11:val (List.take 1 [1])=1:=by decide
 rcases h1 with⟨h2,h3⟩|⟨q,h2,h3,h4⟩
 ·exact .inl ⟨h2,by rw[h11,h3,Nat.pow_zero]⟩
 ·refine .inr ⟨q,h2,?_,h3,?_⟩
  ·rcases Nat.lt_or_ge q 6 with h|h
   ·omega
   ·have:2^6≤2^q:=Nat.pow_le_pow_right de h
    omega
  ·rw[h11,Nat.div_eq_of_lt (by rw[Nat.pow_succ,←h2];omega),Nat.pow_zero]
noncomputable section
abbrev z_ec3_0(ds:List Nat)(c:Nat):List Value:=[undef,undef,undef,undef,undef,undef,undef,undef,(.string (Aa ds)),(nI ((Aa ds).size)),(nI (((Aa ds).size)+9)),(nI ((Aa ds).size+9-1)),(nI c),(sl 5 0 c),(.string (Aa ds)),(nI ((Aa ds).size))]
abbrev Vz(e:Nat):Value:=.int .i64 ((e:Int)-9)
abbrev z_ec3_2:List Value:=[undef,undef,undef,undef,undef,undef,undef,undef,undef,undef,undef,undef,undef,undef,undef,undef,undef,undef]
end
noncomputable def no_h_f(ds zs:List Nat)(c n:Nat)(en:Int)(jc:List Value)(j:List Value):Frame:=(Fr 147 ([(.string (Aa ds)),uu,nS,(sl 5 n c),(.int .i64 en),(J j 0),uu,(J jc 0),(J jc 8),(J jc 9),(J jc 10),(J jc 11),(J jc 12),(J jc 13),(J jc 14),(J jc 15)]++(jj j 1 13 ([(J jc 1),(J jc 2),(J jc 3),(J jc 4),(J jc 5),(J jc 6),(J jc 7)]++(jj j 14 4 [uu,uu])))) [.code (cd Tryz.f147 [1,1,0,1,0,0]),.inLoop (cd Tryz.f147 [1,1,0,1,0,0]),.inBlock 0,.code (cd Tryz.f147 [1,1,1])])
noncomputable def no_h_o(ds zs:List Nat)(c n:Nat)(en:Int)(jc:List Value):List (Nat×AObj):=[(5,(cU zs))]
noncomputable def no_h(ds zs:List Nat)(c n:Nat)(en:Int)(jc:List Value)(j:List Value):AS:=⟨no_h_f ds zs c n en jc j,[],Ag 8 (no_h_o ds zs c n en jc)⟩
theorem no_in{s0:AS}(hs0:s0.h.next=5)(ds:List Nat)(c:Nat)(hL:(Aa ds).size<1099511627776)(hc:c=((Aa ds).size+9-1)/9)(hr:GT s0 (Cg 147 #[(.string (Aa ds))] 5 [])):GT s0 (no_h ds (List.replicate c 0) c 0 (((Aa ds).size:Nat):Int) ((z_ec3_0 ds c)) z_ec3_2):=by
 have h1:=hr.trans (sR (sc:=[(8,.op (.rwI (((((Aa ds).size)+9):Nat):Int))),(0,.op (.rwI ((((Aa ds).size+9-1):Nat):Int))),(0,.op (.rwI (c:Int))),(0,.op (.mks 0 c (ns .u32 (List.replicate c 0)))),(11,.stay)]) (fr1:=(Fr 147 ([(.string (Aa ds)),uu,nS,(sl 5 0 c),(nI ((Aa ds).size)),uu,uu,uu,(.string (Aa ds)),(nI ((Aa ds).size)),(nI (((Aa ds).size)+9)),(nI ((Aa ds).size+9-1)),(nI c),(sl 5 0 c),(.string (Aa ds)),(nI ((Aa ds).size))]++(uj 26 [])) [.code (cd Tryz.f147 [1,1,0,1,0,0]),.inLoop (cd Tryz.f147 [1,1,0,1,0,0]),.inBlock 0,.code (cd Tryz.f147 [1,1,1])])) (next:=6) (l:=[(5,(cU (List.replicate c 0)))]) kr (aI (Ao (a:=((((Aa ds).size:Nat):Int)+(9:Int))) (r:=(((((Aa ds).size)+9):Nat):Int))) (aI (Ao (a:=((((((Aa ds).size)+9):Nat):Int)-(1:Int))) (r:=((((Aa ds).size+9-1):Nat):Int))) (aI (show IntKind.wrap .i64 (Int.tdiv ((((Aa ds).size+9-1):Nat):Int) (9:Int))=(c:Int) from (by rw[Int.tdiv_eq_ediv_of_nonneg om,Bw om om]<;>omega)) (aI (show (0≤(0:Int)∧(0:Int)≤(c:Int)∧((4:Nat):Int)*(c:Int)≤281474976710656∧(c:Int)≤9223372036854775807)∧Au (ns .u32 (List.replicate c 0))=true∧(madeCells (Value.cells (lW 0)) (Int.toNat (c:Int)*1)).toList=(ns .u32 (List.replicate c 0))∧Int.toNat (0:Int)=0∧Int.toNat (c:Int)=c from (by refine⟨⟨?_,?_,?_,?_⟩,Ab _ _,Qd _ _ _,?_,?_⟩<;>omega)) tt)))))
 exact Ds (b:=6) (k:=0) h1 kr rfl rfl rfl kr (by rw[hs0];decide) (by rw[hs0];decide) de de (by simp[no_h_o,show ∀c e o r,Bb (.cells c e o r)=Au c from fun _ _ _ _=>rfl,show ∀a b,Bb (.iter a b)=true from fun _ _=>rfl,Ab,Hf]) kr
noncomputable def no_g_f(ds es zs:List Nat)(c n e b l p:Nat)(j jc:List Value)(ji:List Value)(j2:List Value):Frame:=(Fr 147 ([(.string (Aa ds)),uu,nS,(sl 5 n c),(nI e),(nW l),uu,(J ji 0),(J jc 8),(J jc 9),(J jc 10),(J jc 11),(J jc 12),(J jc 13),(J jc 14),(J jc 15),(nI e),bT,(J j 3),(J j 4),(.string (Aa ds)),(nI e),(Vz e),(nI b),(nI e),(.string (Aa es)),(pt 8),(J j2 0),(J j2 1),(J ji 1),(J ji 2),(J ji 3),(J ji 4),(J ji 5),(J ji 6),(J ji 7)]++(jj j 14 4 [uu,uu])) [.code (cd Tryz.f147 [1,1,0,1,0,0,1,0,0,1,0,1,0,0]),.inLoop (cd Tryz.f147 [1,1,0,1,0,0,1,0,0,1,0,1,0,0]),.inBlock 2,.code (cd Tryz.f147 [1,1,0,1,0,0,1,0,0,1,1]),.inBlock 1,.code (cd Tryz.f147 [1,1,0,1,0,0,1,1]),.inLoop (cd Tryz.f147 [1,1,0,1,0,0]),.inBlock 0,.code (cd Tryz.f147 [1,1,1])])
noncomputable def no_g_o(ds es zs:List Nat)(c n e b l p:Nat)(j jc:List Value)(ji:List Value):List (Nat×AObj):=[(5,(cU zs)),(8,(.iter (Aa es) p))]
noncomputable def no_g(ds es zs:List Nat)(c n e b l p:Nat)(j jc:List Value)(ji:List Value)(j2:List Value):AS:=⟨no_g_f ds es zs c n e b l p j jc ji j2,[],Ag 9 (no_g_o ds es zs c n e b l p j jc ji)⟩
theorem no_1(ds es zs:List Nat)(c n e b:Nat)(j jc:List Value)(he:0<e)(hL:e≤(Aa ds).size)(hb:b=e-9)(hm:(Aa ds).size<1099511627776)(hes:(Aa ds).extract b e=Aa es):GT (no_h ds zs c n (e:Int) jc j) (no_g ds es zs c n e b 0 0 j jc ([(J jc 0),(J jc 1),(J jc 2),(J jc 3),(J jc 4),(J jc 5),(J jc 6),(J jc 7)]) [(J j 12),(J j 13)]):=
 sR (sc:=[(4,.op (.rwB true)),(14,.op (.rwI ((e:Int)-9))),(0,.op (.rwI (b:Int))),(1,.op (.sslc (Aa es))),(4,.stay)]) kr (aI (dT (p:=(e:Int)>(0:Int))) (aI (Ao (a:=((e:Int)-(9:Int))) (r:=((e:Int)-9))) (aI (show (if ((e:Int)-9)>(0:Int) then ((e:Int)-9) else (0:Int))=(b:Int) from (by split<;>omega)) (aI (show 0≤(b:Int)∧(b:Int)≤(e:Int)∧(e:Int)≤(((Aa ds).size:Nat):Int)∧(Aa ds).extract (Int.toNat (b:Int)) (Int.toNat (e:Int))=(Aa es) from⟨by omega,by omega,by omega,hes⟩) tt))))
theorem no_2(ds es zs:List Nat)(c n e b l p:Nat)(j jc ji j2:List Value)(q:Nat)(hq:q<10)(hl:l<100000000)(hp:p<(Aa es).size)(hd:Utf8.decode (Aa es) p=(48+q,1)):GT (no_g ds es zs c n e b l p j jc ji j2) (no_g ds es zs c n e b ((l*10)+q) (p+1) j jc ([(nR (48+q)),(nR (48+q)),(nW l),(nW (l*10)),(nR (48+q)),(nR q),(nW q),(nW ((l*10)+q))]) [(.tuple #[bT,(nI p),(nR (48+q))]),bT]):=
 sR (sc:=[(2,.op (.nxtC (48+q) 1 (p+1))),(13,.op (.rwI (((l*10):Nat):Int))),(1,.op (.rwI (q:Int))),(0,.op (.rwI (q:Int))),(0,.op (.rwI ((((l*10)+q):Nat):Int))),(4,.stay)]) kr (aI (show p<(Aa es).size∧Utf8.decode (Aa es) p=((48+q),1)∧p+1=(p+1) from⟨hp,hd,rfl⟩) (aI (Bt (a:=((l:Int)*(10:Int))) (r:=(((l*10):Nat):Int))) (aI (wI32 (a:=((((48+q):Nat):Int)-(48:Int))) (r:=(q:Int))) (aI (Bt (a:=(q:Int)) (r:=(q:Int))) (aI (Bt (a:=((((l*10):Nat):Int)+(q:Int))) (r:=((((l*10)+q):Nat):Int))) tt)))))
theorem no_3{s0:AS}(hs0:s0.h.next=5)(ds es zs:List Nat)(c n e b l p:Nat)(j jc ji j2:List Value)(hjc:Cm (Ak 6 2) jc)(hji:Cm (Ak 6 2) ji)(hp:(Aa es).size≤p)(hn:n<c)(hz:zs.length=c)(hm:c<1099511627776)(hem:e<1099511627776)(hr:GT s0 (no_g ds es zs c n e b l p j jc ji j2)):GT s0 (no_h ds (zs.set n l) c (n+1) ((e:Int)-9) ([(J ji 0),(J ji 1),(J ji 2),(J ji 3),(J ji 4),(J ji 5),(J ji 6),(J ji 7),(J jc 8),(J jc 9),(J jc 10),(J jc 11),(J jc 12),(J jc 13),(J jc 14),(J jc 15)]) [(nW l),(nI e),bT,(nI e),(Vz e),(.string (Aa ds)),(nI e),(Vz e),(nI b),(nI e),(.string (Aa es)),(pt 6),(.tuple #[bF]),bF,(sl 5 n c),(nW l),(sl 7 1 1),(sl 5 (n+1) c)]):=by
 have h1:=hr.trans (sR (sc:=[(2,.op (.nxtE)),(9,.op (.appI (n+1) (ns .u32 (zs.set n l)))),(5,.op (.rwI ((e:Int)-9))),(3,.stay)]) (fr1:=(Fr 147 [(.string (Aa ds)),uu,nS,(sl 5 (n+1) c),(Vz e),(nW l),uu,(J ji 0),(J jc 8),(J jc 9),(J jc 10),(J jc 11),(J jc 12),(J jc 13),(J jc 14),(J jc 15),(nI e),bT,(nI e),(Vz e),(.string (Aa ds)),(nI e),(Vz e),(nI b),(nI e),(.string (Aa es)),(pt 8),(.tuple #[bF]),bF,(J ji 1),(J ji 2),(J ji 3),(J ji 4),(J ji 5),(J ji 6),(J ji 7),(sl 5 n c),(nW l),(sl 9 1 1),(sl 5 (n+1) c),uu,uu] [.code (cd Tryz.f147 [1,1,0,1,0,0]),.inLoop (cd Tryz.f147 [1,1,0,1,0,0]),.inBlock 0,.code (cd Tryz.f147 [1,1,1])])) (next:=10) (l:=[(5,(cU (zs.set n l)))]) kr (aI (show ¬p<(Aa es).size from om) (aI (show n+1=(n+1)∧(n+1)*4≤140737488355328∧(n+1)≤c∧c≤9223372036854775807∧0+n*1+1≤(ns .u32 zs).length∧Bs (ns .u32 zs) (0+n*1) [(nW l)]=(ns .u32 (zs.set n l)) from (app_ns hn hz om)) (aI (Ao (a:=((e:Int)-(9:Int))) (r:=((e:Int)-9))) tt))))
 rw[←Aq (Ak 6 2) hjc 10]at h1
 rw[←Aq (Ak 6 2) hjc 11]at h1
 rw[←Aq (Ak 6 2) hjc 12]at h1
 rw[←Aq (Ak 6 2) hjc 13]at h1
 rw[←Aq (Ak 6 2) hjc 14]at h1
 rw[←Aq (Ak 6 2) hjc 15]at h1
 rw[←Aq (Ak 6 2) hjc 8]at h1
 rw[←Aq (Ak 6 2) hjc 9]at h1
 rw[←Aq (Ak 6 2) hji 0]at h1
 rw[←Aq (Ak 6 2) hji 1]at h1
 rw[←Aq (Ak 6 2) hji 2]at h1
 rw[←Aq (Ak 6 2) hji 3]at h1
 rw[←Aq (Ak 6 2) hji 4]at h1
 rw[←Aq (Ak 6 2) hji 5]at h1
 rw[←Aq (Ak 6 2) hji 6]at h1
 rw[←Aq (Ak 6 2) hji 7]at h1
 exact Ds (b:=6) (k:=2) h1 kr rfl rfl rfl kr (by rw[hs0];decide) (by rw[hs0];decide) de de (by simp[no_h_o,show ∀c e o r,Bb (.cells c e o r)=Au c from fun _ _ _ _=>rfl,show ∀a b,Bb (.iter a b)=true from fun _ _=>rfl,Ab,Hf]) kr
theorem no_o(ds zs:List Nat)(c n:Nat)(en:Int)(jc j:List Value)(he:en≤0)(hz:zs.length=c)(hn:n≤c)(hm:c<1099511627776)(hr:GT (Cg 147 #[(.string (Aa ds))] 5 []) (no_h ds zs c n en jc j)):CT 147 #[(.string (Aa ds))] (Ag 5 []) (sl 5 (top zs n) (top zs n)) (Ag 8 [(5,(cU zs))]):=
 sF (sc:=[(4,.op (.rwB false)),(6,.call [5] (sl 5 (top zs n) (top zs n)) [(5,some (cU zs))] []),(3,.stay)]) kr (aI (dF (p:=en>(0:Int))) (aI (So 8 5 zs n c om om om om) tt)) hr
theorem no_inner{s0:AS}{ds es zs:List Nat}{c n e b:Nat}{j jc:List Value}(hd:Dig es)(hl:es.length≤9): ∀(m p:Nat) (ji j2:List Value),m=es.length-p→p≤es.length→Cm (Ak 6 2) ji→
  GT s0 (no_g ds es zs c n e b (Bh (es.take p)) p j jc ji j2)→ ∃ji' j2',Cm (Ak 6 2) ji'∧GT s0 (no_g ds es zs c n e b (Bh es) es.length j jc ji' j2'):=by
 intro m
 induction m with
 |zero=>
  intro p ji j2 hm hp hj hr
  have:p=es.length:=by omega
  subst this
  rw[List.take_length]at hr
  exact⟨ji,j2,hj,hr⟩
 |succ m ih=>
  intro p ji j2 hm hp hj hr
  have hq:=hd.get p
  have h1:Bh (es.take p)<100000000:=by
   have h2:=Qi _ (hd.take p)
   have h3:10^(es.take p).length≤10^8:=Nat.pow_le_pow_right de (by rw[List.length_take];omega)
   have h4:(10:Nat)^8=100000000:=by decide
   omega
  have r:=no_2 ds es zs c n e b (Bh (es.take p)) p j jc ji j2 (es.getD p 0) hq h1 (by rw[Af];omega) (Kj hd om)
  have hr2:=hr.trans r
  rw[←Rm om]at hr2
  exact ih (p+1) _ _ om om (by unfold Cm;rfl) hr2
theorem no_outer{ds:List Nat}{c:Nat}(hd:Dig ds)(hc:c=(ds.length+9-1)/9)(hL:ds.length<549755813888): ∀(m i:Nat) (zs:List Nat) (jc j:List Value),m=c-i→i≤c→zs.length=c→Lim zs→Cm (Ak 6 2) jc→val (zs.take i)=Bh (ds.drop (ds.length-9*i))→
  GT (Cg 147 #[(.string (Aa ds))] 5 []) (no_h ds zs c i ((ds.length:Int)-9*i) jc j)→ ∃zs' jc' j',zs'.length=c∧Lim zs'∧val (zs'.take c)=Bh ds∧GT (Cg 147 #[(.string (Aa ds))] 5 []) (no_h ds zs' c c ((ds.length:Int)-9*c) jc' j'):=by
 intro m
 induction m with
 |zero=>
  intro i zs jc j hm hi hz hl hj hv hr
  have:i=c:=by omega
  subst this
  refine⟨zs,jc,j,hz,hl,?_,hr⟩
  rw[hv,show ds.length-9*i=0 by omega,List.drop_zero]
 |succ m ih=>
  intro i zs jc j hm hi hz hl hj hv hr
  obtain⟨e,he⟩: ∃e,e=ds.length-9*i:=⟨_,rfl⟩
  obtain⟨b,hb⟩: ∃b,b=e-9:=⟨_,rfl⟩
  rw[show (ds.length:Int)-9*i=(e:Int) by omega]at hr
  have hsz:=Af ds
  have hes:(Aa ds).extract b e=Aa ((ds.take e).drop b):=Kr ds b e
  obtain⟨es,hes2⟩: ∃es,es=(ds.take e).drop b:=⟨_,rfl⟩
  rw[←hes2]at hes
  have hde:Dig es:=by rw[hes2];exact (hd.take e).drop b
  have hle:es.length=e-b:=by rw[hes2,List.length_drop,List.length_take];omega
  have r1:=no_1 ds es zs c i e b j jc om om hb om hes
  obtain⟨ji',j2',h1,h2⟩:=no_inner hde om es.length 0 _ _ om om (by simp[Cm,Ro,Aq _ hj]) (hr.trans r1)
  have r3:=no_3 rfl ds es zs c i e b (Bh es) es.length j jc ji' j2' hj h1 (by rw[Af];omega) om hz om om h2
  rw[show (e:Int)-9=(ds.length:Int)-9*((i+1:Nat):Int) by omega]at r3
  have hlt:Bh es<1000000000:=by
   have h2:=Qi _ hde
   have h3:10^es.length≤10^9:=Nat.pow_le_pow_right de om
   have h4:(10:Nat)^9=1000000000:=by decide
   omega
  refine ih (i+1) _ _ _ om om (by rw[List.length_set];exact hz) (hl.set hlt) (by simp[Cm,Ro,Aq _ hj,Aq _ h1,mv,mvA,Eo,Ak]) ?_ r3
  rw[val_take_succ,getD_set om,if_pos rfl,List.take_set_of_le om,hv,←he,show ds.length-9*(i+1)=b by omega]
  have hdr:ds.drop b=es++ds.drop e:=by
   have h5:ds.drop e=(ds.drop b).drop (e-b):=by rw[List.drop_drop,show b+(e-b)=e by omega]
   rw[hes2,List.drop_take,h5,List.take_append_drop]
  rw[hdr,Hh,List.length_drop,show ds.length-e=9*i by omega,Nat.pow_mul]
  rw[show (10:Nat)^9=1000000000 by decide]
  omega
theorem no_c(n0:Nat)(ds:List Nat)(hG:5≤n0)(hd:Dig ds)(hL:ds.length<549755813888):
  ∃zs t,Lim zs∧t≤zs.length∧t≤(ds.length+9-1)/9∧(0<t→zs.getD (t-1) 0≠0)∧val (zs.take t)=Bh ds∧
   FT 147 #[.string (Aa ds)] n0 [] (sl n0 t t) [] [cU zs]:=by
 obtain⟨c,hc⟩: ∃c,c=(ds.length+9-1)/9:=⟨_,rfl⟩
 have r0:=no_in (s0:=(Cg 147 #[(.string (Aa ds))] 5 [])) rfl ds c (by rw[Af];omega) (by rw[Af];exact hc) (Gets.refl _)
 rw[show ((((Aa ds).size:Nat)):Int)=(ds.length:Int)-9*((0:Nat):Int) by rw[Af];omega]at r0
 obtain⟨zs,jc',j',h1,h2,h3,h4⟩:=no_outer hd hc hL c 0 _ _ _ rfl (Nat.zero_le _) (by rw[List.length_replicate]) (Lim.replicate _) (by simp[Cm,Ro,mv,mvA,Eo,Ak,undef]) (by rw[Nat.mul_zero,Nat.sub_zero,List.drop_length];rfl) r0
 have S:=no_o ds zs c c _ jc' j' om h1 (Nat.le_refl _) om h4
 have htl:=top_le zs c
 refine⟨zs,top zs c,h2,by rw[h1];exact htl,by rw[←hc];exact htl,top_pos zs _,by rw[top_val,h3],ff [] [] [] [5] [cU zs] n0 S (hb:=sm) (hGn:=hG) (fo:=rfl) (fp:=rfl)⟩
theorem small_c(n0 i:Nat)(h:i<100):FT 207 #[.int .i64 (i:Nat)] n0 [] (.string (Aa (Ae i))) [] []:=by
 intro H _ _
 exact Yu rfl rfl fun ρ w _=>(Tryz.internal_strconv_small i h w).mono fun e w' ⟨h1,h2⟩=>⟨by rw[h1,dstr_decDigits],0,#[],by rw[h2];simp[Sort.grow,World.drewN]⟩
theorem tab_is{ρ:Rho}{H:AH}{w:World}(hw:WR 5 ρ H w)(hr:H.get 1=some gob1):Lib.TabIs Tryz.prog w "internal/strconv.uint64pow10" .u64 Lib.pow10Tab:=
 tab_of_WR hw (g:=1) de kr hr
theorem Km(n0 u:Nat)(h1:1≤u)(h2:u<18446744073709551616):FT 208 #[.int .u64 (u:Nat)] n0 [(1,gob1)] (nI (Gr u)) [] []:=by
 intro H _ hr
 exact Yu rfl rfl fun ρ w hw=>(Tryz.internal_strconv_numDigits u h1 h2 w (tab_is hw (hr _ (List.mem_cons_self ..)))).mono fun e w' ⟨h3,h4⟩=>⟨by rw[h3,nDigits_ndig u h1],0,#[],by rw[h4];simp[Sort.grow,World.drewN]⟩
end Go.Proofs.YtldoiilgfcpipaaGreatDoor
