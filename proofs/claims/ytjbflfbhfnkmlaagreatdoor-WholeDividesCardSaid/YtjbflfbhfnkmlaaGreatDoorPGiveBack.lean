import Derived.Test.YtjbflfbhfnkmlaaGreatDoorK
import Derived.Test.YtjbflfbhfnkmlaaGreatDoorLF
set_option linter.unusedVariables false
set_option linter.unusedSimpArgs false
set_option maxRecDepth 100000
namespace Go.Proofs.YtjbflfbhfnkmlaaGreatDoor
open Go Go.AE Seg
noncomputable section
abbrev z_3f2_0(i o q n c:Nat)(ys zs:List Nat):List Value:=[(nI i),(nW (ys.getD i 0)),(nW (((zs.getD (o+i) 0)+(ys.getD i 0))+q)),bT,(nI i),(pp 6 i),(nW (ys.getD i 0)),(sw 5 o n c),(nI i),(pp 5 (o+i)),(nW (zs.getD (o+i) 0)),(nW (ys.getD i 0)),(nW ((zs.getD (o+i) 0)+(ys.getD i 0))),(nW q),(nW (((zs.getD (o+i) 0)+(ys.getD i 0))+q)),(nW (((zs.getD (o+i) 0)+(ys.getD i 0))+q)),(nW ((((zs.getD (o+i) 0)+(ys.getD i 0))+q)/1000000000)),(sw 5 o n c),(nI i),(nW (((zs.getD (o+i) 0)+(ys.getD i 0))+q)),(nW ((((zs.getD (o+i) 0)+(ys.getD i 0))+q)%1000000000)),(pp 5 (o+i)),(nI (i+1))]
end
noncomputable def gb_h_f(zs ys:List Nat)(o n c k e q i:Nat)(j:List Value):Frame:=(Fr 195 ([(sw 5 o n c),(sl 6 k e),uu,uu,(nW q)]++(jj j 0 3 ([(sl 6 k e),(nI k),(nI i)]++(jj j 3 20 [])))) [.code (cd Tryz.f195 [1,1,0,0]),.inLoop (cd Tryz.f195 [1,1,0,0]),.inBlock 0])
noncomputable def gb_h_o(zs ys:List Nat)(o n c k e q i:Nat):List (Nat×AObj):=[(5,(cU zs)),(6,(cU ys))]
noncomputable def gb_h(zs ys:List Nat)(o n c k e q i:Nat)(j:List Value):AS:=⟨gb_h_f zs ys o n c k e q i j,[],Ac 7 (gb_h_o zs ys o n c k e q i)⟩
theorem gb_in(xs ys:List Nat)(o n c k e:Nat):GT (Ca 195 #[(sw 5 o n c),(sl 6 k e)] 7 [(5,(cU xs)),(6,(cU ys))]) (gb_h xs ys o n c k e 0 0 [undef,undef,undef,undef,undef,undef,undef,undef,undef,undef,undef,undef,undef,undef,undef,undef,undef,undef,undef,undef,undef,undef,undef]):=
 sR (sc:=[(12,.stay)]) kr tt
theorem gb_r(zs ys:List Nat)(o n c k e q i:Nat)(j:List Value)(hi:i<k)(hkn:k≤n)(hm:k<1099511627776)(hc:o+n≤zs.length)(hy:k≤ys.length)(ha:zs.getD (o+i) 0<1000000000)(hb:ys.getD i 0<1000000000)(hq:q≤1):GT (gb_h zs ys o n c k e q i j) (gb_h (zs.set (o+i) ((((zs.getD (o+i) 0)+(ys.getD i 0))+q)%1000000000)) ys o n c k e ((((zs.getD (o+i) 0)+(ys.getD i 0))+q)/1000000000) (i+1) (z_3f2_0 i o q n c ys zs)):=
 sR (sc:=[(2,.op (.rwB true)),(9,.op (.idx i)),(0,.op (.ld (nW (ys.getD i 0)))),(7,.op (.idx (o+i))),(0,.op (.ld (nW (zs.getD (o+i) 0)))),(1,.op (.rwI ((((zs.getD (o+i) 0)+(ys.getD i 0)):Nat):Int))),(1,.op (.rwI (((((zs.getD (o+i) 0)+(ys.getD i 0))+q):Nat):Int))),(5,.op (.rwI ((((((zs.getD (o+i) 0)+(ys.getD i 0))+q)/1000000000):Nat):Int))),(6,.op (.rwI ((((((zs.getD (o+i) 0)+(ys.getD i 0))+q)%1000000000):Nat):Int))),(0,.op (.idx (o+i))),(0,.op (.st (ns .u32 (zs.set (o+i) ((((zs.getD (o+i) 0)+(ys.getD i 0))+q)%1000000000))))),(3,.op (.rwI (((i+1):Nat):Int))),(3,.stay)]) kr (aI (dT (p:=(i:Int)<(k:Int))) (aI (ix (i:Int) (k:Int) 0 1 i) (aI (Aq (k:=.u32) (xs:=ys) (i:=i)) (aI (ix (i:Int) (n:Int) o 1 (o+i)) (aI (Aq (k:=.u32) (xs:=zs) (i:=(o+i))) (aI (Br (a:=((((zs.getD (o+i) 0):Nat):Int)+(((ys.getD i 0):Nat):Int))) (r:=((((zs.getD (o+i) 0)+(ys.getD i 0)):Nat):Int))) (aI (Br (a:=(((((zs.getD (o+i) 0)+(ys.getD i 0)):Nat):Int)+(q:Int))) (r:=(((((zs.getD (o+i) 0)+(ys.getD i 0))+q):Nat):Int))) (aI (show IntKind.wrap .u32 (Int.tdiv (((((zs.getD (o+i) 0)+(ys.getD i 0))+q):Nat):Int) (1000000000:Int))=((((((zs.getD (o+i) 0)+(ys.getD i 0))+q)/1000000000):Nat):Int) from (by rw[Int.tdiv_eq_ediv_of_nonneg om,Bk om om]<;>omega)) (aI (show (Int.tmod (((((zs.getD (o+i) 0)+(ys.getD i 0))+q):Nat):Int) (1000000000:Int))=((((((zs.getD (o+i) 0)+(ys.getD i 0))+q)%1000000000):Nat):Int) from (by rw[Int.tmod_eq_emod_of_nonneg om]<;>omega)) (aI (ix (i:Int) (n:Int) o 1 (o+i)) (aI (show (o+i)+1≤(ns .u32 zs).length∧Bq (ns .u32 zs) (o+i) [(nW ((((zs.getD (o+i) 0)+(ys.getD i 0))+q)%1000000000))]=(ns .u32 (zs.set (o+i) ((((zs.getD (o+i) 0)+(ys.getD i 0))+q)%1000000000))) from (Dw)) (aI (Am (a:=((i:Int)+(1:Int))) (r:=(((i+1):Nat):Int))) tt))))))))))))
theorem gb_o(xs zs ys:List Nat)(o n c k e q i:Nat)(j:List Value)(hi:k≤i)(hr:GT (Ca 195 #[(sw 5 o n c),(sl 6 k e)] 7 [(5,(cU xs)),(6,(cU ys))]) (gb_h zs ys o n c k e q i j)):CT 195 #[(sw 5 o n c),(sl 6 k e)] (Ac 7 [(5,(cU xs)),(6,(cU ys))]) undef (Ac 7 [(5,(cU zs)),(6,(cU ys))]):=
 sF (sc:=[(2,.op (.rwB false)),(5,.stay)]) kr (aI (dF (p:=(i:Int)<(k:Int))) tt) hr
theorem gb_all{s0:AS}{ys:List Nat}{o n c k e R0:Nat}(hly:Lim ys)(hy:k≤ys.length)(hkn:k≤n)(hm:k<1099511627776): ∀(m i:Nat) (zs:List Nat) (q:Nat) (j:List Value),m=k-i→i≤k→o+n≤zs.length→Lim zs→q≤1→
  val zs+q*1000000000^(o+i)=R0+val (ys.take i)*1000000000^o→GT s0 (gb_h zs ys o n c k e q i j)→
  ∃zs' q' j',zs'.length=zs.length∧Lim zs'∧q'≤1∧(∀l,o+k≤l→zs'.getD l 0=zs.getD l 0)∧val zs'+q'*1000000000^(o+k)=R0+val (ys.take k)*1000000000^o∧GT s0 (gb_h zs' ys o n c k e q' k j'):=by
 intro m
 induction m with
 |zero=>
  intro i zs q j hm2 hi hz hl hq hv hr
  have:i=k:=by omega
  subst this
  exact⟨zs,q,j,rfl,hl,hq,fun _ _=>rfl,hv,hr⟩
 |succ m ih=>
  intro i zs q j hm2 hi hz hl hq hv hr
  have ha:=hl.get (o+i)
  have hb:=hly.get i
  have r:=gb_r zs ys o n c k e q i j om hkn hm hz hy ha hb hq
  have hv':=give_round (show o+i<zs.length by omega) hv
  obtain⟨zs',q',j',h1,h2,h3,h4,h5,h6⟩:=ih (i+1) _ _ _ om om (by rw[List.length_set];exact hz) (hl.set (Nat.mod_lt _ de)) om hv' (hr.trans r)
  refine⟨zs',q',j',by rw[h1,List.length_set],h2,h3,fun l hl'=> ?_,h5,h6⟩
  rw[h4 l hl',getD_set om,if_neg om]
theorem gb_c(n0 bx byy:Nat)(xs ys:List Nat)(o n c k e:Nat)(hb:5≤bx∧bx<n0∧5≤byy∧byy<n0∧bx≠byy)(hlx:Lim xs)(hly:Lim ys)(hc:o+n≤xs.length)(hy:k≤ys.length)(hkn:k≤n)(hm:k<1099511627776):
  ∃zs q,zs.length=xs.length∧Lim zs∧q≤1∧(∀l,o+k≤l→zs.getD l 0=xs.getD l 0)∧val zs+q*1000000000^(o+k)=val xs+val (ys.take k)*1000000000^o∧
   FT 195 #[sw bx o n c,sl byy k e] n0 [(bx,cU xs),(byy,cU ys)] (.tuple #[]) [(bx,some (cU zs)),(byy,some (cU ys))] []:=by
 obtain⟨zs,q,j,h1,h2,h3,h4,h5,h6⟩:=gb_all (R0:=val xs) hly hy hkn hm k 0 xs 0 _ rfl (Nat.zero_le _) hc hlx om (by rw[List.take_zero,show val []=0 from rfl,Nat.zero_mul,Nat.zero_mul]) (gb_in xs ys o n c k e)
 exact⟨zs,q,h1,h2,h3,h4,h5,ff [bx,byy] [cU xs,cU ys] [cU zs,cU ys] [] [] n0 (gb_o xs zs ys o n c k e q k j (Nat.le_refl _) h6) (hnd:=by simp[hb.2.2.2.2])⟩
noncomputable section
abbrev Rs(o i:Nat):Value:=pp 5 (o+i)
abbrev z_583_0(i p q t o n c a v:Nat)(ys:List Nat):List Value:=[(nI i),(nW (ys.getD i 0)),(nU (p+q)),(nW ((p+q)%1000000000)),bT,(nI i),(pp 6 i),(nW (ys.getD i 0)),(nW (ys.getD i 0)),(nU (ys.getD i 0)),(nU t),(nU p),(nU q),(nU (p+q)),(nU (p+q)),(nU ((p+q)/1000000000)),(nU (p+q)),(nU ((p+q)%1000000000)),(nW ((p+q)%1000000000)),(sw 5 o n c),(nI i),(Rs o i),(nW a),(nW ((p+q)%1000000000)),bT,(sw 5 o n c),(nI i),(Rs o i),(nW a),(nW (a+1000000000)),(Rs o i),(nU ((p+q)/1000000000)),(nU (((p+q)/1000000000)+1)),(sw 5 o n c),(nI i),(Rs o i),(nW (a+1000000000)),(nW ((p+q)%1000000000)),(nW v),(Rs o i),(nI (i+1))]
abbrev z_583_1(i p q t o n c a v:Nat)(ys:List Nat)(j:List Value):List Value:=([(nI i),(nW (ys.getD i 0)),(nU (p+q)),(nW ((p+q)%1000000000)),bT,(nI i),(pp 6 i),(nW (ys.getD i 0)),(nW (ys.getD i 0)),(nU (ys.getD i 0)),(nU t),(nU p),(nU q),(nU (p+q)),(nU (p+q)),(nU ((p+q)/1000000000)),(nU (p+q)),(nU ((p+q)%1000000000)),(nW ((p+q)%1000000000)),(sw 5 o n c),(nI i),(Rs o i),(nW a),(nW ((p+q)%1000000000)),bF]++(jj j 25 8 [(sw 5 o n c),(nI i),(Rs o i),(nW a),(nW ((p+q)%1000000000)),(nW v),(Rs o i),(nI (i+1))]))
end
noncomputable def lm_h_f(zs ys:List Nat)(o n c k e t q i:Nat)(j:List Value):Frame:=(Fr 194 ([(sw 5 o n c),(sl 6 k e),(nU t),uu,uu,uu,bF,(nU q)]++(jj j 0 4 ([uu,uu,(sl 6 k e),(nI k),(nI i)]++(jj j 4 37 (uj 13 []))))) [.code (cd Tryz.f194 [1,1,0,1,0,0]),.inLoop (cd Tryz.f194 [1,1,0,1,0,0]),.inBlock 0,.code (cd Tryz.f194 [1,1,1])])
noncomputable def lm_h_o(zs ys:List Nat)(o n c k e t q i:Nat):List (Nat×AObj):=[(5,(cU zs)),(6,(cU ys))]
noncomputable def lm_h(zs ys:List Nat)(o n c k e t q i:Nat)(j:List Value):AS:=⟨lm_h_f zs ys o n c k e t q i j,[],Ac 7 (lm_h_o zs ys o n c k e t q i)⟩
theorem lm_in(xs ys:List Nat)(o n c k e t:Nat):GT (Ca 194 #[(sw 5 o n c),(sl 6 k e),(nU t)] 7 [(5,(cU xs)),(6,(cU ys))]) (lm_h xs ys o n c k e t 0 0 [undef,undef,undef,undef,undef,undef,undef,undef,undef,undef,undef,undef,undef,undef,undef,undef,undef,undef,undef,undef,undef,undef,undef,undef,undef,undef,undef,undef,undef,undef,undef,undef,undef,undef,undef,undef,undef,undef,undef,undef,undef]):=
 sR (sc:=[(17,.stay)]) kr tt
theorem lm_b(zs ys:List Nat)(o n c k e t q i p a v:Nat)(j:List Value)(hi:i<k)(hkn:k≤n)(hm:k<1099511627776)(hc:o+n≤zs.length)(hy:k≤ys.length)(ha:a<1000000000)(hx:(ns .u32 zs)[o+i]? =some (nW a))(hb:ys.getD i 0<1000000000)(hp:p=ys.getD i 0*t)(hp2:p≤999999998000000001)(hq:q≤1000000000)(hlt:a<(p+q)%1000000000)(hv:v+(p+q)%1000000000=a+1000000000):GT (lm_h zs ys o n c k e t q i j) (lm_h (zs.set (o+i) v) ys o n c k e t (((p+q)/1000000000)+1) (i+1) (z_583_0 i p q t o n c a v ys)):=
 sR (sc:=[(2,.op (.rwB true)),(9,.op (.idx i)),(0,.op (.ld (nW (ys.getD i 0)))),(6,.op (.rwI (((ys.getD i 0):Nat):Int))),(1,.op (.rwI (p:Int))),(1,.op (.rwI (((p+q):Nat):Int))),(5,.op (.rwI ((((p+q)/1000000000):Nat):Int))),(5,.op (.rwI ((((p+q)%1000000000):Nat):Int))),(0,.op (.rwI ((((p+q)%1000000000):Nat):Int))),(7,.op (.idx (o+i))),(0,.op (.ld (nW a))),(1,.op (.rwB true)),(6,.op (.idx (o+i))),(0,.op (.ld (nW a))),(0,.op (.rwI (((a+1000000000):Nat):Int))),(0,.op (.idx (o+i))),(0,.op (.st (ns .u32 (zs.set (o+i) (a+1000000000))))),(3,.op (.rwI (((((p+q)/1000000000)+1):Nat):Int))),(5,.op (.idx (o+i))),(0,.op (.ld (nW (a+1000000000)))),(1,.op (.rwI (v:Int))),(0,.op (.idx (o+i))),(0,.op (.st (ns .u32 (zs.set (o+i) v)))),(3,.op (.rwI (((i+1):Nat):Int))),(3,.stay)]) kr (aI (dT (p:=(i:Int)<(k:Int))) (aI (ix (i:Int) (k:Int) 0 1 i) (aI (Aq (k:=.u32) (xs:=ys) (i:=i)) (aI (He (a:=(((ys.getD i 0):Nat):Int)) (r:=(((ys.getD i 0):Nat):Int))) (aI (show IntKind.wrap .u64 ((((ys.getD i 0):Nat):Int)*(t:Int))=(p:Int) from (by subst hp;rw[Ee om om]<;>omega)) (aI (He (a:=((p:Int)+(q:Int))) (r:=(((p+q):Nat):Int))) (aI (show IntKind.wrap .u64 (Int.tdiv (((p+q):Nat):Int) (1000000000:Int))=((((p+q)/1000000000):Nat):Int) from (by rw[Int.tdiv_eq_ediv_of_nonneg om,Ee om om]<;>omega)) (aI (show (Int.tmod (((p+q):Nat):Int) (1000000000:Int))=((((p+q)%1000000000):Nat):Int) from (by rw[Int.tmod_eq_emod_of_nonneg om]<;>omega)) (aI (Br (a:=((((p+q)%1000000000):Nat):Int)) (r:=((((p+q)%1000000000):Nat):Int))) (aI (ix (i:Int) (n:Int) o 1 (o+i)) (aI hx (aI (dT (p:=(a:Int)<((((p+q)%1000000000):Nat):Int))) (aI (ix (i:Int) (n:Int) o 1 (o+i)) (aI hx (aI (Br (a:=((a:Int)+(1000000000:Int))) (r:=(((a+1000000000):Nat):Int))) (aI (ix (i:Int) (n:Int) o 1 (o+i)) (aI (show (o+i)+1≤(ns .u32 zs).length∧Bq (ns .u32 zs) (o+i) [(nW (a+1000000000))]=(ns .u32 (zs.set (o+i) (a+1000000000))) from (Dw)) (aI (He (a:=(((((p+q)/1000000000):Nat):Int)+(1:Int))) (r:=(((((p+q)/1000000000)+1):Nat):Int))) (aI (ix (i:Int) (n:Int) o 1 (o+i)) (aI (show ((ns .u32 (zs.set (o+i) (a+1000000000))):List Value)[(o+i)]? =some (nW (a+1000000000)) from (Tq om)) (aI (Br (a:=((((a+1000000000):Nat):Int)-((((p+q)%1000000000):Nat):Int))) (r:=(v:Int))) (aI (ix (i:Int) (n:Int) o 1 (o+i)) (aI (show (o+i)+1≤(ns .u32 (zs.set (o+i) (a+1000000000))).length∧Bq (ns .u32 (zs.set (o+i) (a+1000000000))) (o+i) [(nW v)]=(ns .u32 (zs.set (o+i) v)) from (ns_set2 om)) (aI (Am (a:=((i:Int)+(1:Int))) (r:=(((i+1):Nat):Int))) tt))))))))))))))))))))))))
theorem lm_n(zs ys:List Nat)(o n c k e t q i p a v:Nat)(j:List Value)(hi:i<k)(hkn:k≤n)(hm:k<1099511627776)(hc:o+n≤zs.length)(hy:k≤ys.length)(ha:a<1000000000)(hx:(ns .u32 zs)[o+i]? =some (nW a))(hb:ys.getD i 0<1000000000)(hp:p=ys.getD i 0*t)(hp2:p≤999999998000000001)(hq:q≤1000000000)(hge:(p+q)%1000000000≤a)(hv:v+(p+q)%1000000000=a):GT (lm_h zs ys o n c k e t q i j) (lm_h (zs.set (o+i) v) ys o n c k e t ((p+q)/1000000000) (i+1) (z_583_1 i p q t o n c a v ys j)):=
 sR (sc:=[(2,.op (.rwB true)),(9,.op (.idx i)),(0,.op (.ld (nW (ys.getD i 0)))),(6,.op (.rwI (((ys.getD i 0):Nat):Int))),(1,.op (.rwI (p:Int))),(1,.op (.rwI (((p+q):Nat):Int))),(5,.op (.rwI ((((p+q)/1000000000):Nat):Int))),(5,.op (.rwI ((((p+q)%1000000000):Nat):Int))),(0,.op (.rwI ((((p+q)%1000000000):Nat):Int))),(7,.op (.idx (o+i))),(0,.op (.ld (nW a))),(1,.op (.rwB false)),(6,.op (.idx (o+i))),(0,.op (.ld (nW a))),(1,.op (.rwI (v:Int))),(0,.op (.idx (o+i))),(0,.op (.st (ns .u32 (zs.set (o+i) v)))),(3,.op (.rwI (((i+1):Nat):Int))),(3,.stay)]) kr (aI (dT (p:=(i:Int)<(k:Int))) (aI (ix (i:Int) (k:Int) 0 1 i) (aI (Aq (k:=.u32) (xs:=ys) (i:=i)) (aI (He (a:=(((ys.getD i 0):Nat):Int)) (r:=(((ys.getD i 0):Nat):Int))) (aI (show IntKind.wrap .u64 ((((ys.getD i 0):Nat):Int)*(t:Int))=(p:Int) from (by subst hp;rw[Ee om om]<;>omega)) (aI (He (a:=((p:Int)+(q:Int))) (r:=(((p+q):Nat):Int))) (aI (show IntKind.wrap .u64 (Int.tdiv (((p+q):Nat):Int) (1000000000:Int))=((((p+q)/1000000000):Nat):Int) from (by rw[Int.tdiv_eq_ediv_of_nonneg om,Ee om om]<;>omega)) (aI (show (Int.tmod (((p+q):Nat):Int) (1000000000:Int))=((((p+q)%1000000000):Nat):Int) from (by rw[Int.tmod_eq_emod_of_nonneg om]<;>omega)) (aI (Br (a:=((((p+q)%1000000000):Nat):Int)) (r:=((((p+q)%1000000000):Nat):Int))) (aI (ix (i:Int) (n:Int) o 1 (o+i)) (aI hx (aI (dF (p:=(a:Int)<((((p+q)%1000000000):Nat):Int))) (aI (ix (i:Int) (n:Int) o 1 (o+i)) (aI hx (aI (Br (a:=((a:Int)-((((p+q)%1000000000):Nat):Int))) (r:=(v:Int))) (aI (ix (i:Int) (n:Int) o 1 (o+i)) (aI (show (o+i)+1≤(ns .u32 zs).length∧Bq (ns .u32 zs) (o+i) [(nW v)]=(ns .u32 (zs.set (o+i) v)) from (Dw)) (aI (Am (a:=((i:Int)+(1:Int))) (r:=(((i+1):Nat):Int))) tt))))))))))))))))))
theorem lm_o(xs zs ys:List Nat)(o n c k e t q i:Nat)(j:List Value)(hi:k≤i)(hkn:k<n)(hc:o+n≤zs.length)(ha:zs.getD (o+k) 0<1000000000)(hr:GT (Ca 194 #[(sw 5 o n c),(sl 6 k e),(nU t)] 7 [(5,(cU xs)),(6,(cU ys))]) (lm_h zs ys o n c k e t q i j)):CT 194 #[(sw 5 o n c),(sl 6 k e),(nU t)] (Ac 7 [(5,(cU xs)),(6,(cU ys))]) (.bool (decide ((((zs.getD (o+k) 0):Nat):Int)≥(q:Int)))) (Ac 7 [(5,(cU (zs.set (o+k) 0))),(6,(cU ys))]):=
 sF (sc:=[(2,.op (.rwB false)),(14,.op (.idx (o+k))),(0,.op (.ld (nW (zs.getD (o+k) 0)))),(0,.op (.rwI (((zs.getD (o+k) 0):Nat):Int))),(8,.op (.idx (o+k))),(0,.op (.st (ns .u32 (zs.set (o+k) 0)))),(7,.stay)]) kr (aI (dF (p:=(i:Int)<(k:Int))) (aI (ix (k:Int) (n:Int) o 1 (o+k)) (aI (Aq (k:=.u32) (xs:=zs) (i:=(o+k))) (aI (He (a:=(((zs.getD (o+k) 0):Nat):Int)) (r:=(((zs.getD (o+k) 0):Nat):Int))) (aI (ix (k:Int) (n:Int) o 1 (o+k)) (aI (show (o+k)+1≤(ns .u32 zs).length∧Bq (ns .u32 zs) (o+k) [(lW 0)]=(ns .u32 (zs.set (o+k) 0)) from (Dw)) tt)))))) hr
theorem lm_all{s0:AS}{ys:List Nat}{o n c k e t R0:Nat}(hly:Lim ys)(hy:k≤ys.length)(hkn:k≤n)(hm:k<1099511627776)(ht:t<1000000000): ∀(m i:Nat) (zs:List Nat) (q:Nat) (j:List Value),m=k-i→i≤k→o+n≤zs.length→Lim zs→q≤1000000000→
  val zs+t*(val (ys.take i)*1000000000^o)=R0+q*1000000000^(o+i)→GT s0 (lm_h zs ys o n c k e t q i j)→
  ∃zs' q' j',zs'.length=zs.length∧Lim zs'∧q'≤1000000000∧(∀l,o+k≤l→zs'.getD l 0=zs.getD l 0)∧val zs'+t*(val (ys.take k)*1000000000^o)=R0+q'*1000000000^(o+k)∧GT s0 (lm_h zs' ys o n c k e t q' k j'):=by
 intro m
 induction m with
 |zero=>
  intro i zs q j hm2 hi hz hl hq hv hr
  have:i=k:=by omega
  subst this
  exact⟨zs,q,j,rfl,hl,hq,fun _ _=>rfl,hv,hr⟩
 |succ m ih=>
  intro i zs q j hm2 hi hz hl hq hv hr
  have ha:=hl.get (o+i)
  have hb:=hly.get i
  have hp2:=mul_fit hb ht
  by_cases hlt:zs.getD (o+i) 0<(ys.getD i 0*t+q)%1000000000
  ·obtain⟨v,hvv⟩: ∃v,v+(ys.getD i 0*t+q)%1000000000=zs.getD (o+i) 0+1000000000:=⟨zs.getD (o+i) 0+1000000000-(ys.getD i 0*t+q)%1000000000,by generalize ys.getD i 0*t=p at*;omega⟩
   have r:=lm_b zs ys o n c k e t q i _ _ v j om hkn hm hz hy ha (Aq) hb rfl hp2 hq hlt hvv
   have hv':=lose_round (d:=1) (show o+i<zs.length by omega) (by rw[hvv,Nat.one_mul]) hv
   generalize ys.getD i 0*t=p at*
   obtain⟨zs',q',j',h1,h2,h3,h4,h5,h6⟩:=ih (i+1) _ _ _ om om (by rw[List.length_set];exact hz) (hl.set om) om hv' (hr.trans r)
   refine⟨zs',q',j',by rw[h1,List.length_set],h2,h3,fun l hl'=> ?_,h5,h6⟩
   rw[h4 l hl',getD_set om,if_neg om]
  ·obtain⟨v,hvv⟩: ∃v,v+(ys.getD i 0*t+q)%1000000000=zs.getD (o+i) 0:=⟨zs.getD (o+i) 0-(ys.getD i 0*t+q)%1000000000,by generalize ys.getD i 0*t=p at*;omega⟩
   have r:=lm_n zs ys o n c k e t q i _ _ v j om hkn hm hz hy ha (Aq) hb rfl hp2 hq om hvv
   have hv':=lose_round (d:=0) (show o+i<zs.length by omega) (by rw[hvv,Nat.zero_mul,Nat.add_zero]) hv
   rw[Nat.add_zero]at hv'
   generalize ys.getD i 0*t=p at*
   obtain⟨zs',q',j',h1,h2,h3,h4,h5,h6⟩:=ih (i+1) _ _ _ om om (by rw[List.length_set];exact hz) (hl.set om) om hv' (hr.trans r)
   refine⟨zs',q',j',by rw[h1,List.length_set],h2,h3,fun l hl'=> ?_,h5,h6⟩
   rw[h4 l hl',getD_set om,if_neg om]
theorem lm_c(n0 bx byy:Nat)(xs ys:List Nat)(o n c k e t:Nat)(hb:5≤bx∧bx<n0∧5≤byy∧byy<n0∧bx≠byy)(hlx:Lim xs)(hly:Lim ys)(hc:o+n≤xs.length)(hy:k≤ys.length)(hkn:k<n)(hm:k<1099511627776)(ht:t<1000000000):
  ∃zs q,zs.length=xs.length∧Lim zs∧(∀l,o+k<l→zs.getD l 0=xs.getD l 0)∧zs.getD (o+k) 0=0∧val zs+t*(val (ys.take k)*1000000000^o)+xs.getD (o+k) 0*1000000000^(o+k)=val xs+q*1000000000^(o+k)∧
   FT 194 #[sw bx o n c,sl byy k e,.int .u64 (t:Nat)] n0 [(bx,cU xs),(byy,cU ys)] (.bool (decide (q≤xs.getD (o+k) 0))) [(bx,some (cU zs)),(byy,some (cU ys))] []:=by
 obtain⟨zs,q,j,h1,h2,h3,h4,h5,h6⟩:=lm_all (R0:=val xs) hly hy (Nat.le_of_lt hkn) hm ht k 0 xs 0 _ rfl (Nat.zero_le _) hc hlx om (by rw[List.take_zero,show val []=0 from rfl,Nat.zero_mul,Nat.zero_mul,Nat.mul_zero]) (lm_in xs ys o n c k e t)
 have hw:=h4 (o+k) (Nat.le_refl _)
 have S:=lm_o xs zs ys o n c k e t q k j (Nat.le_refl _) hkn om (h2.get _) h6
 have hd:decide (((zs.getD (o+k) 0:Nat):Int)≥((q:Nat):Int))=decide (q≤xs.getD (o+k) 0):=by
  rw[hw,decide_eq_decide]
  omega
 rw[hd]at S
 refine⟨zs.set (o+k) 0,q,by rw[List.length_set];exact h1,h2.set om,fun l hl=> ?_,?_,?_,ff [bx,byy] [cU xs,cU ys] [cU (zs.set (o+k) 0),cU ys] [] [] n0 (S) (hnd:=by simp[hb.2.2.2.2])⟩
 ·rw[getD_set om,if_neg om]
  exact h4 l om
 ·rw[getD_set om,if_pos rfl]
 ·have h7:=val_set zs (o+k) 0 om
  rw[hw]at h7
  omega
noncomputable section
abbrev Mw(o n c:Nat):Value:=sw 5 o n c
end
noncomputable def gu_h_f(xs ys:List Nat)(o n c k e v1 v2 L g lf:Nat)(j:List Value):Frame:=(Fr 193 ([(Mw o n c),(sl 6 (k+2) e),uu,uu,(lU 0),(nI (k+2)),(nU v1),(nU v2),(nU L),(nU g),(nU lf)]++(jj j 0 58 [uu])) [.code (cd Tryz.f193 [1,1,1,1,1,1,0,0,0]),.inLoop (cd Tryz.f193 [1,1,1,1,1,1,0,0,0]),.inBlock 0,.code (cd Tryz.f193 [1,1,1,1,1,1,1])])
noncomputable def gu_h_o(xs ys:List Nat)(o n c k e v1 v2 L g lf:Nat):List (Nat×AObj):=[(5,(cU xs)),(6,(cU ys))]
noncomputable def gu_h(xs ys:List Nat)(o n c k e v1 v2 L g lf:Nat)(j:List Value):AS:=⟨gu_h_f xs ys o n c k e v1 v2 L g lf j,[],Ac 7 (gu_h_o xs ys o n c k e v1 v2 L g lf)⟩
theorem gu_in(xs ys:List Nat)(o n c k e v1 v2 w2 w1 L d0 g p1 lf:Nat)(hn:k+2<n)(hm:k<1099511627776)(hy1:(ns .u32 ys)[k+1]? =some (nW v1))(hy2:(ns .u32 ys)[k]? =some (nW v2))(hx2:(ns .u32 xs)[o+(k+2)]? =some (nW w2))(hx1:(ns .u32 xs)[o+(k+1)]? =some (nW w1))(b1:0<v1∧v1<1000000000)(b2:v2<1000000000)(b3:w2<1000000000)(b4:w1<1000000000)(hL:L=w2*1000000000+w1)(hd0:d0=L/v1)(hd1:d0≤L)(hg:g=min d0 999999999)(hp1:p1=g*v1)(hp2:p1≤L)(hlf:lf+p1=L):GT (Ca 193 #[(Mw o n c),(sl 6 (k+2) e)] 7 [(5,(cU xs)),(6,(cU ys))]) (gu_h xs ys o n c k e v1 v2 L g lf [(sl 6 (k+2) e),(nI (k+2)),(sl 6 (k+2) e),(nI (k+2)),(nI (k+1)),(pp 6 (k+1)),(nW v1),(nU v1),(sl 6 (k+2) e),(nI (k+2)),(nI k),(pp 6 k),(nW v2),(nU v2),(Mw o n c),(nI (k+2)),(pp 5 (o+(k+2))),(nW w2),(nU w2),(nU (w2*1000000000)),(Mw o n c),(nI (k+2)),(nI (k+1)),(pp 5 (o+(k+1))),(nW w1),(nU w1),(nU L),(nU L),(nU v1),(nU d0),(nU g),(nU L),(nU g),(nU v1),(nU p1),(nU lf),undef,undef,undef,undef,undef,undef,undef,undef,undef,undef,undef,undef,undef,undef,undef,undef,undef,undef,undef,undef,undef,undef]):=
 sR (sc:=[(11,.drw [(2,.rwI (((k+1):Nat):Int)),(3,.idx (k+1)),(4,.ld (nW v1)),(5,.rwI (v1:Int)),(8,.rwI (k:Int)),(9,.idx k),(10,.ld (nW v2)),(11,.rwI (v2:Int))]),(1,.drw [(2,.idx (o+(k+2))),(3,.ld (nW w2)),(4,.rwI (w2:Int)),(5,.rwI (((w2*1000000000):Nat):Int)),(8,.rwI (((k+1):Nat):Int)),(9,.idx (o+(k+1))),(10,.ld (nW w1)),(11,.rwI (w1:Int)),(12,.rwI (L:Int))]),(4,.op (.div (d0:Int))),(0,.op (.rwI (g:Int))),(7,.op (.rwI (p1:Int))),(0,.op (.rwI (lf:Int))),(5,.stay)]) kr (aI (aI tt (aI tt (aI (Am (a:=((((k+2):Nat):Int)-(1:Int))) (r:=(((k+1):Nat):Int))) (aI (ix (((k+1):Nat):Int) (((k+2):Nat):Int) 0 1 (k+1)) (aI hy1 (aI (He (a:=(v1:Int)) (r:=(v1:Int))) (aI tt (aI tt (aI (Am (a:=((((k+2):Nat):Int)-(2:Int))) (r:=(k:Int))) (aI (ix (k:Int) (((k+2):Nat):Int) 0 1 k) (aI hy2 (aI (He (a:=(v2:Int)) (r:=(v2:Int))) (aI tt (aI tt tt)))))))))))))) (aI (aI tt (aI tt (aI (ix (((k+2):Nat):Int) (n:Int) o 1 (o+(k+2))) (aI hx2 (aI (He (a:=(w2:Int)) (r:=(w2:Int))) (aI (He (a:=((w2:Int)*(1000000000:Int))) (r:=(((w2*1000000000):Nat):Int))) (aI tt (aI tt (aI (Am (a:=((((k+2):Nat):Int)-(1:Int))) (r:=(((k+1):Nat):Int))) (aI (ix (((k+1):Nat):Int) (n:Int) o 1 (o+(k+1))) (aI hx1 (aI (He (a:=(w1:Int)) (r:=(w1:Int))) (aI (He (a:=((((w2*1000000000):Nat):Int)+(w1:Int))) (r:=(L:Int))) (aI tt tt)))))))))))))) (aI (show (v1:Int)≠0∧IntKind.wrap .u64 (Int.tdiv (L:Int) (v1:Int))=(d0:Int) from⟨by omega,by rw[Int.tdiv_eq_ediv_of_nonneg om,show ∀a b:Nat,(a:Int)/(b:Int)=((a/b:Nat):Int) from fun _ _=>rfl,←hd0,Ee om om]⟩) (aI (show (if (999999999:Int)<(d0:Int) then (999999999:Int) else (d0:Int))=(g:Int) from (by rw[hg];split<;>omega)) (aI (show IntKind.wrap .u64 ((g:Int)*(v1:Int))=(p1:Int) from (by subst hp1;rw[Ee om om]<;>omega)) (aI (He (a:=((L:Int)-(p1:Int))) (r:=(lf:Int))) tt))))))
theorem gu_r(xs ys:List Nat)(o n c k e v1 v2 L g lf p2 w0:Nat)(j:List Value)(hn:k+2<n)(hm:k<1099511627776)(hx0:(ns .u32 xs)[o+k]? =some (nW w0))(b5:w0<1000000000)(hp:p2=g*v2)(hp2:p2≤999999998000000001)(hlf:lf<1000000000)(hgt:lf*1000000000+w0<p2)(hg0:0<g)(hg9:g<1000000000)(hv1:v1<1000000000):GT (gu_h xs ys o n c k e v1 v2 L g lf j) (gu_h xs ys o n c k e v1 v2 L (g-1) (lf+v1) (jj j 0 36 [(nU lf),bT,bT,(nU g),(nU v2),(nU p2),(nU lf),(nU (lf*1000000000)),(Mw o n c),(nI (k+2)),(nI k),(pp 5 (o+k)),(nW w0),(nU w0),(nU ((lf*1000000000)+w0)),bT,bT,(nU g),(nU (g-1)),(nU lf),(nU v1),(nU (lf+v1))])):=
 sR (sc:=[(4,.op (.rwB true)),(3,.op (.rwI (p2:Int))),(1,.op (.rwI (((lf*1000000000):Nat):Int))),(2,.op (.rwI (k:Int))),(0,.op (.idx (o+k))),(0,.op (.ld (nW w0))),(0,.op (.rwI (w0:Int))),(0,.op (.rwI ((((lf*1000000000)+w0):Nat):Int))),(0,.op (.rwB true)),(8,.op (.rwI (((g-1):Nat):Int))),(5,.op (.rwI (((lf+v1):Nat):Int))),(4,.stay)]) kr (aI (dT (p:=(lf:Int)<(1000000000:Int))) (aI (show IntKind.wrap .u64 ((g:Int)*(v2:Int))=(p2:Int) from (by subst hp;rw[Ee om om]<;>omega)) (aI (He (a:=((lf:Int)*(1000000000:Int))) (r:=(((lf*1000000000):Nat):Int))) (aI (Am (a:=((((k+2):Nat):Int)-(2:Int))) (r:=(k:Int))) (aI (ix (k:Int) (n:Int) o 1 (o+k)) (aI hx0 (aI (He (a:=(w0:Int)) (r:=(w0:Int))) (aI (He (a:=((((lf*1000000000):Nat):Int)+(w0:Int))) (r:=((((lf*1000000000)+w0):Nat):Int))) (aI (dT (p:=(p2:Int)>((((lf*1000000000)+w0):Nat):Int))) (aI (He (a:=((g:Int)-(1:Int))) (r:=(((g-1):Nat):Int))) (aI (He (a:=((lf:Int)+(v1:Int))) (r:=(((lf+v1):Nat):Int))) tt)))))))))))
theorem gu_o1(xs ys:List Nat)(o n c k e v1 v2 L g lf p2 w0:Nat)(j:List Value)(hn:k+2<n)(hm:k<1099511627776)(hx0:(ns .u32 xs)[o+k]? =some (nW w0))(b5:w0<1000000000)(hp:p2=g*v2)(hp2:p2≤999999998000000001)(hlf:lf<1000000000)(hge:p2≤lf*1000000000+w0)(hr:GT (Ca 193 #[(Mw o n c),(sl 6 (k+2) e)] 7 [(5,(cU xs)),(6,(cU ys))]) (gu_h xs ys o n c k e v1 v2 L g lf j)):CT 193 #[(Mw o n c),(sl 6 (k+2) e)] (Ac 7 [(5,(cU xs)),(6,(cU ys))]) (nU g) (Ac 7 [(5,(cU xs)),(6,(cU ys))]):=
 sF (sc:=[(4,.op (.rwB true)),(3,.op (.rwI (p2:Int))),(1,.op (.rwI (((lf*1000000000):Nat):Int))),(2,.op (.rwI (k:Int))),(0,.op (.idx (o+k))),(0,.op (.ld (nW w0))),(0,.op (.rwI (w0:Int))),(0,.op (.rwI ((((lf*1000000000)+w0):Nat):Int))),(0,.op (.rwB false)),(10,.stay)]) kr (aI (dT (p:=(lf:Int)<(1000000000:Int))) (aI (show IntKind.wrap .u64 ((g:Int)*(v2:Int))=(p2:Int) from (by subst hp;rw[Ee om om]<;>omega)) (aI (He (a:=((lf:Int)*(1000000000:Int))) (r:=(((lf*1000000000):Nat):Int))) (aI (Am (a:=((((k+2):Nat):Int)-(2:Int))) (r:=(k:Int))) (aI (ix (k:Int) (n:Int) o 1 (o+k)) (aI hx0 (aI (He (a:=(w0:Int)) (r:=(w0:Int))) (aI (He (a:=((((lf*1000000000):Nat):Int)+(w0:Int))) (r:=((((lf*1000000000)+w0):Nat):Int))) (aI (dF (p:=(p2:Int)>((((lf*1000000000)+w0):Nat):Int))) tt))))))))) hr
theorem gu_o2(xs ys:List Nat)(o n c k e v1 v2 L g lf:Nat)(j:List Value)(hlf:1000000000≤lf)(hr:GT (Ca 193 #[(Mw o n c),(sl 6 (k+2) e)] 7 [(5,(cU xs)),(6,(cU ys))]) (gu_h xs ys o n c k e v1 v2 L g lf j)):CT 193 #[(Mw o n c),(sl 6 (k+2) e)] (Ac 7 [(5,(cU xs)),(6,(cU ys))]) (nU g) (Ac 7 [(5,(cU xs)),(6,(cU ys))]):=
 sF (sc:=[(4,.op (.rwB false)),(24,.stay)]) kr (aI (dF (p:=(lf:Int)<(1000000000:Int))) tt) hr
theorem gu_all{xs ys:List Nat}{o n c k e v1 v2 L w0:Nat}(hn:k+2<n)(hm:k<1099511627776)(hx0:(ns .u32 xs)[o+k]? =some (nW w0))(b1:0<v1∧v1<1000000000)(b2:v2<1000000000)(b5:w0<1000000000): ∀(g lf:Nat) (j:List Value),g≤1000000000-1→lf+g*v1=L→
  min (1000000000-1) ((L*1000000000+w0)/(v1*1000000000+v2))≤g→GT (Ca 193 #[(sw 5 o n c),(sl 6 (k+2) e)] 7 [(5,(cU xs)),(6,(cU ys))]) (gu_h xs ys o n c k e v1 v2 L g lf j)→
  CT 193 #[(sw 5 o n c),(sl 6 (k+2) e)] (Ac 7 [(5,(cU xs)),(6,(cU ys))]) (nU (min (1000000000-1) ((L*1000000000+w0)/(v1*1000000000+v2)))) (Ac 7 [(5,(cU xs)),(6,(cU ys))]):=by
 intro g
 induction g with
 |zero=>
  intro lf j hg hl hm2 hr
  have hd:1000000000≤lf∨0*v2≤lf*1000000000+w0:=.inr (by rw[Nat.zero_mul];exact Nat.zero_le _)
  rw[←Xf hl b1.1 b2 hg hd hm2]
  by_cases h9:1000000000≤lf
  ·exact gu_o2 xs ys o n c k e v1 v2 L 0 lf j h9 hr
  ·exact gu_o1 xs ys o n c k e v1 v2 L 0 lf _ w0 j hn hm hx0 b5 rfl (by rw[Nat.zero_mul];exact Nat.zero_le _) om (by rw[Nat.zero_mul];exact Nat.zero_le _) hr
 |succ g ih=>
  intro lf j hg hl hm2 hr
  by_cases h9:1000000000≤lf
  ·rw[←Xf hl b1.1 b2 hg (.inl h9) hm2]
   exact gu_o2 xs ys o n c k e v1 v2 L (g+1) lf j h9 hr
  ·have hp2:(g+1)*v2≤999999998000000001:=mul_fit (show g+1<1000000000 by omega) b2
   by_cases hgt:lf*1000000000+w0<(g+1)*v2
   ·obtain⟨q1,q2,q3⟩:=guess_more hl hgt hm2
    have r:=gu_r xs ys o n c k e v1 v2 L (g+1) lf _ w0 j hn hm hx0 b5 rfl hp2 om hgt q1 om b1.2
    rw[Nat.add_sub_cancel]at q2 q3 r
    exact ih _ _ om q2 q3 (hr.trans r)
   ·rw[←Xf hl b1.1 b2 hg (.inr om) hm2]
    exact gu_o1 xs ys o n c k e v1 v2 L (g+1) lf _ w0 j hn hm hx0 b5 rfl hp2 om om hr
theorem gu_c(n0 bx byy:Nat)(xs ys:List Nat)(o n c k e:Nat)(hb:5≤bx∧bx<n0∧5≤byy∧byy<n0∧bx≠byy)(hlx:Lim xs)(hly:Lim ys)(hc:o+n≤xs.length)(hy:k+2≤ys.length)(hn:k+2<n)(hm:k<1099511627776)(h1:ys.getD (k+1) 0≠0):
  FT 193 #[sw bx o n c,sl byy (k+2) e] n0 [(bx,cU xs),(byy,cU ys)] (.int .u64 (Zw (xs.getD (o+(k+2)) 0) (xs.getD (o+(k+1)) 0) (xs.getD (o+k) 0) (ys.getD (k+1) 0) (ys.getD k 0):Nat)) [(bx,some (cU xs)),(byy,some (cU ys))] []:=by
 have b1:=hly.get (k+1)
 have b2:=hly.get k
 have b3:=hlx.get (o+(k+2))
 have b4:=hlx.get (o+(k+1))
 have b5:=hlx.get (o+k)
 obtain⟨L,hL⟩: ∃L,L=xs.getD (o+(k+2)) 0*1000000000+xs.getD (o+(k+1)) 0:=⟨_,rfl⟩
 have hv1:0<ys.getD (k+1) 0:=by omega
 obtain⟨g,hg⟩: ∃g,g=min (L/ys.getD (k+1) 0) 999999999:=⟨_,rfl⟩
 have hpl:g*ys.getD (k+1) 0≤L:=by
  rw[hg]
  exact Nat.le_trans (Nat.mul_le_mul_right _ (Nat.min_le_left _ _)) (Nat.div_mul_le_self _ _)
 have hgi:min (1000000000-1) ((L*1000000000+xs.getD (o+k) 0)/(ys.getD (k+1) 0*1000000000+ys.getD k 0))≤g:=by
  rw[hg]
  exact guess_init hv1 b5
 have hg9:g≤1000000000-1:=by
  rw[hg]
  exact Nat.min_le_right _ _
 obtain⟨p,hp⟩: ∃p,p=g*ys.getD (k+1) 0:=⟨_,rfl⟩
 rw[←hp]at hpl
 obtain⟨lf,hlf⟩: ∃lf,lf+p=L:=⟨L-p,by omega⟩
 have r:=gu_in xs ys o n c k e _ _ _ _ L _ g p lf hn hm (Aq) (Aq) (Aq) (Aq) ⟨hv1,b1⟩ b2 b3 b4 hL rfl (Nat.div_le_self _ _) hg hp hpl hlf
 rw[hp]at hlf
 have S:=gu_all hn hm (Aq) ⟨hv1,b1⟩ b2 b5 _ _ _ hg9 hlf hgi r
 unfold Zw
 rw[←hL]
 exact ff [bx,byy] [cU xs,cU ys] [cU xs,cU ys] [] [] n0 S (hnd:=by simp[hb.2.2.2.2])
theorem copied_o(xs:List Nat)(n c k:Nat)(hc:n≤xs.length)(hk:n≤k)(hm:k<70368744177664):CT 154 #[(sl 5 n c),(nI k)] (Ac 6 [(5,(cU xs))]) (sl 6 k k) (Ac 7 [(5,(cU xs)),(6,(cU (xs.take n++List.replicate (k-n) 0)))]):=
 sF (sc:=[(7,.op (.mks k k (ns .u32 (List.replicate k 0)))),(6,.op (.cpy n (ns .u32 (xs.take n++List.replicate (k-n) 0)))),(7,.stay)]) kr (aI (show (0≤(k:Int)∧(k:Int)≤(k:Int)∧((4:Nat):Int)*(k:Int)≤281474976710656∧(k:Int)≤9223372036854775807)∧As (ns .u32 (List.replicate k 0))=true∧(madeCells (Value.cells (lW 0)) (Int.toNat (k:Int)*1)).toList=(ns .u32 (List.replicate k 0))∧Int.toNat (k:Int)=k∧Int.toNat (k:Int)=k from (by refine⟨⟨?_,?_,?_,?_⟩,Af _ _,Tt _ _ _,?_,?_⟩<;>omega)) (aI (show 0+n≤(ns .u32 xs).length∧Nat.min n k=n∧0+n≤(ns .u32 (List.replicate k 0)).length∧(List.take n (List.take n (List.drop 0 (ns .u32 xs)))).all (·.oneCell')=true∧Bq (ns .u32 (List.replicate k 0)) 0 (List.take n (List.take n (List.drop 0 (ns .u32 xs))))=(ns .u32 (xs.take n++List.replicate (k-n) 0)) from (ns_cpy hc hk)) tt)) (Gets.refl _)
theorem Sp(n0 b:Nat)(xs:List Nat)(n c k:Nat)(hb:5≤b∧b<n0)(hc:n≤xs.length)(hk:n≤k)(hm:k<70368744177664):
  FT 154 #[sl b n c,.int .i64 (k:Nat)] n0 [(b,cU xs)] (sl n0 k k) [(b,some (cU xs))]
   [cU (xs.take n++List.replicate (k-n) 0)]:=
 ff [b] [cU xs] [cU xs] [6] [cU (xs.take n++List.replicate (k-n) 0)] n0 (copied_o xs n c k hc hk hm)
end Go.Proofs.YtjbflfbhfnkmlaaGreatDoor
