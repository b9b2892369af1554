import Derived.Test.YtldoiilgfcpipaaGreatDoorK
import Derived.Test.YtldoiilgfcpipaaGreatDoorLF
import Derived.Test.YtldoiilgfcpipaaGreatDoorPCmp
import Derived.Test.YtldoiilgfcpipaaGreatDoorPWf
import Derived.Test.YtldoiilgfcpipaaGreatDoorPCnt
set_option linter.unusedVariables false
set_option linter.unusedSimpArgs false
set_option maxRecDepth 100000
namespace Go.Proofs.YtldoiilgfcpipaaGreatDoor
open Go Go.AE Seg
noncomputable section
abbrev Rv(o i:Nat):Value:=pp 5 (o+i)
abbrev z_583_0(i p q t o n c a v:Nat)(ys:List Nat):List Value:=[(nI i),(nW (ys.getD i 0)),(nU (p+q)),(nW ((p+q)%1000000000)),bT,(nI i),(pp 6 i),(nW (ys.getD i 0)),(nW (ys.getD i 0)),(nU (ys.getD i 0)),(nU t),(nU p),(nU q),(nU (p+q)),(nU (p+q)),(nU ((p+q)/1000000000)),(nU (p+q)),(nU ((p+q)%1000000000)),(nW ((p+q)%1000000000)),(sw 5 o n c),(nI i),(Rv o i),(nW a),(nW ((p+q)%1000000000)),bT,(sw 5 o n c),(nI i),(Rv o i),(nW a),(nW (a+1000000000)),(Rv o i),(nU ((p+q)/1000000000)),(nU (((p+q)/1000000000)+1)),(sw 5 o n c),(nI i),(Rv o i),(nW (a+1000000000)),(nW ((p+q)%1000000000)),(nW v),(Rv o i),(nI (i+1))]
abbrev z_583_1(i p q t o n c a v:Nat)(ys:List Nat)(j:List Value):List Value:=([(nI i),(nW (ys.getD i 0)),(nU (p+q)),(nW ((p+q)%1000000000)),bT,(nI i),(pp 6 i),(nW (ys.getD i 0)),(nW (ys.getD i 0)),(nU (ys.getD i 0)),(nU t),(nU p),(nU q),(nU (p+q)),(nU (p+q)),(nU ((p+q)/1000000000)),(nU (p+q)),(nU ((p+q)%1000000000)),(nW ((p+q)%1000000000)),(sw 5 o n c),(nI i),(Rv o i),(nW a),(nW ((p+q)%1000000000)),bF]++(jj j 25 8 [(sw 5 o n c),(nI i),(Rv o i),(nW a),(nW ((p+q)%1000000000)),(nW v),(Rv o i),(nI (i+1))]))
end
noncomputable def lm_h_f(zs ys:List Nat)(o n c k e t q i:Nat)(j:List Value):Frame:=(Fr 194 ([(sw 5 o n c),(sl 6 k e),(nU t),uu,uu,uu,bF,(nU q)]++(jj j 0 4 ([uu,uu,(sl 6 k e),(nI k),(nI i)]++(jj j 4 37 (uj 13 []))))) [.code (cd Tryz.f194 [1,1,0,1,0,0]),.inLoop (cd Tryz.f194 [1,1,0,1,0,0]),.inBlock 0,.code (cd Tryz.f194 [1,1,1])])
noncomputable def lm_h_o(zs ys:List Nat)(o n c k e t q i:Nat):List (Nat×AObj):=[(5,(cU zs)),(6,(cU ys))]
noncomputable def lm_h(zs ys:List Nat)(o n c k e t q i:Nat)(j:List Value):AS:=⟨lm_h_f zs ys o n c k e t q i j,[],Ag 7 (lm_h_o zs ys o n c k e t q i)⟩
theorem lm_in(xs ys:List Nat)(o n c k e t:Nat):GT (Cg 194 #[(sw 5 o n c),(sl 6 k e),(nU t)] 7 [(5,(cU xs)),(6,(cU ys))]) (lm_h xs ys o n c k e t 0 0 [undef,undef,undef,undef,undef,undef,undef,undef,undef,undef,undef,undef,undef,undef,undef,undef,undef,undef,undef,undef,undef,undef,undef,undef,undef,undef,undef,undef,undef,undef,undef,undef,undef,undef,undef,undef,undef,undef,undef,undef,undef]):=
 sR (sc:=[(17,.stay)]) kr tt
theorem lm_b(zs ys:List Nat)(o n c k e t q i p a v:Nat)(j:List Value)(hi:i<k)(hkn:k≤n)(hm:k<1099511627776)(hc:o+n≤zs.length)(hy:k≤ys.length)(ha:a<1000000000)(hx:(ns .u32 zs)[o+i]? =some (nW a))(hb:ys.getD i 0<1000000000)(hp:p=ys.getD i 0*t)(hp2:p≤999999998000000001)(hq:q≤1000000000)(hlt:a<(p+q)%1000000000)(hv:v+(p+q)%1000000000=a+1000000000):GT (lm_h zs ys o n c k e t q i j) (lm_h (zs.set (o+i) v) ys o n c k e t (((p+q)/1000000000)+1) (i+1) (z_583_0 i p q t o n c a v ys)):=
 sR (sc:=[(2,.op (.rwB true)),(9,.op (.idx i)),(0,.op (.ld (nW (ys.getD i 0)))),(6,.op (.rwI (((ys.getD i 0):Nat):Int))),(1,.op (.rwI (p:Int))),(1,.op (.rwI (((p+q):Nat):Int))),(5,.op (.rwI ((((p+q)/1000000000):Nat):Int))),(5,.op (.rwI ((((p+q)%1000000000):Nat):Int))),(0,.op (.rwI ((((p+q)%1000000000):Nat):Int))),(7,.op (.idx (o+i))),(0,.op (.ld (nW a))),(1,.op (.rwB true)),(6,.op (.idx (o+i))),(0,.op (.ld (nW a))),(0,.op (.rwI (((a+1000000000):Nat):Int))),(0,.op (.idx (o+i))),(0,.op (.st (ns .u32 (zs.set (o+i) (a+1000000000))))),(3,.op (.rwI (((((p+q)/1000000000)+1):Nat):Int))),(5,.op (.idx (o+i))),(0,.op (.ld (nW (a+1000000000)))),(1,.op (.rwI (v:Int))),(0,.op (.idx (o+i))),(0,.op (.st (ns .u32 (zs.set (o+i) v)))),(3,.op (.rwI (((i+1):Nat):Int))),(3,.stay)]) kr (aI (dT (p:=(i:Int)<(k:Int))) (aI (ix (i:Int) (k:Int) 0 1 i) (aI (Ar (k:=.u32) (xs:=ys) (i:=i)) (aI (Gc (a:=(((ys.getD i 0):Nat):Int)) (r:=(((ys.getD i 0):Nat):Int))) (aI (show IntKind.wrap .u64 ((((ys.getD i 0):Nat):Int)*(t:Int))=(p:Int) from (by subst hp;rw[Dc om om]<;>omega)) (aI (Gc (a:=((p:Int)+(q:Int))) (r:=(((p+q):Nat):Int))) (aI (show IntKind.wrap .u64 (Int.tdiv (((p+q):Nat):Int) (1000000000:Int))=((((p+q)/1000000000):Nat):Int) from (by rw[Int.tdiv_eq_ediv_of_nonneg om,Dc om om]<;>omega)) (aI (show (Int.tmod (((p+q):Nat):Int) (1000000000:Int))=((((p+q)%1000000000):Nat):Int) from (by rw[Int.tmod_eq_emod_of_nonneg om]<;>omega)) (aI (Bt (a:=((((p+q)%1000000000):Nat):Int)) (r:=((((p+q)%1000000000):Nat):Int))) (aI (ix (i:Int) (n:Int) o 1 (o+i)) (aI hx (aI (dT (p:=(a:Int)<((((p+q)%1000000000):Nat):Int))) (aI (ix (i:Int) (n:Int) o 1 (o+i)) (aI hx (aI (Bt (a:=((a:Int)+(1000000000:Int))) (r:=(((a+1000000000):Nat):Int))) (aI (ix (i:Int) (n:Int) o 1 (o+i)) (aI (show (o+i)+1≤(ns .u32 zs).length∧Bs (ns .u32 zs) (o+i) [(nW (a+1000000000))]=(ns .u32 (zs.set (o+i) (a+1000000000))) from (Dp)) (aI (Gc (a:=(((((p+q)/1000000000):Nat):Int)+(1:Int))) (r:=(((((p+q)/1000000000)+1):Nat):Int))) (aI (ix (i:Int) (n:Int) o 1 (o+i)) (aI (show ((ns .u32 (zs.set (o+i) (a+1000000000))):List Value)[(o+i)]? =some (nW (a+1000000000)) from (Ub om)) (aI (Bt (a:=((((a+1000000000):Nat):Int)-((((p+q)%1000000000):Nat):Int))) (r:=(v:Int))) (aI (ix (i:Int) (n:Int) o 1 (o+i)) (aI (show (o+i)+1≤(ns .u32 (zs.set (o+i) (a+1000000000))).length∧Bs (ns .u32 (zs.set (o+i) (a+1000000000))) (o+i) [(nW v)]=(ns .u32 (zs.set (o+i) v)) from (ns_set2 om)) (aI (Ao (a:=((i:Int)+(1:Int))) (r:=(((i+1):Nat):Int))) tt))))))))))))))))))))))))
theorem lm_n(zs ys:List Nat)(o n c k e t q i p a v:Nat)(j:List Value)(hi:i<k)(hkn:k≤n)(hm:k<1099511627776)(hc:o+n≤zs.length)(hy:k≤ys.length)(ha:a<1000000000)(hx:(ns .u32 zs)[o+i]? =some (nW a))(hb:ys.getD i 0<1000000000)(hp:p=ys.getD i 0*t)(hp2:p≤999999998000000001)(hq:q≤1000000000)(hge:(p+q)%1000000000≤a)(hv:v+(p+q)%1000000000=a):GT (lm_h zs ys o n c k e t q i j) (lm_h (zs.set (o+i) v) ys o n c k e t ((p+q)/1000000000) (i+1) (z_583_1 i p q t o n c a v ys j)):=
 sR (sc:=[(2,.op (.rwB true)),(9,.op (.idx i)),(0,.op (.ld (nW (ys.getD i 0)))),(6,.op (.rwI (((ys.getD i 0):Nat):Int))),(1,.op (.rwI (p:Int))),(1,.op (.rwI (((p+q):Nat):Int))),(5,.op (.rwI ((((p+q)/1000000000):Nat):Int))),(5,.op (.rwI ((((p+q)%1000000000):Nat):Int))),(0,.op (.rwI ((((p+q)%1000000000):Nat):Int))),(7,.op (.idx (o+i))),(0,.op (.ld (nW a))),(1,.op (.rwB false)),(6,.op (.idx (o+i))),(0,.op (.ld (nW a))),(1,.op (.rwI (v:Int))),(0,.op (.idx (o+i))),(0,.op (.st (ns .u32 (zs.set (o+i) v)))),(3,.op (.rwI (((i+1):Nat):Int))),(3,.stay)]) kr (aI (dT (p:=(i:Int)<(k:Int))) (aI (ix (i:Int) (k:Int) 0 1 i) (aI (Ar (k:=.u32) (xs:=ys) (i:=i)) (aI (Gc (a:=(((ys.getD i 0):Nat):Int)) (r:=(((ys.getD i 0):Nat):Int))) (aI (show IntKind.wrap .u64 ((((ys.getD i 0):Nat):Int)*(t:Int))=(p:Int) from (by subst hp;rw[Dc om om]<;>omega)) (aI (Gc (a:=((p:Int)+(q:Int))) (r:=(((p+q):Nat):Int))) (aI (show IntKind.wrap .u64 (Int.tdiv (((p+q):Nat):Int) (1000000000:Int))=((((p+q)/1000000000):Nat):Int) from (by rw[Int.tdiv_eq_ediv_of_nonneg om,Dc om om]<;>omega)) (aI (show (Int.tmod (((p+q):Nat):Int) (1000000000:Int))=((((p+q)%1000000000):Nat):Int) from (by rw[Int.tmod_eq_emod_of_nonneg om]<;>omega)) (aI (Bt (a:=((((p+q)%1000000000):Nat):Int)) (r:=((((p+q)%1000000000):Nat):Int))) (aI (ix (i:Int) (n:Int) o 1 (o+i)) (aI hx (aI (dF (p:=(a:Int)<((((p+q)%1000000000):Nat):Int))) (aI (ix (i:Int) (n:Int) o 1 (o+i)) (aI hx (aI (Bt (a:=((a:Int)-((((p+q)%1000000000):Nat):Int))) (r:=(v:Int))) (aI (ix (i:Int) (n:Int) o 1 (o+i)) (aI (show (o+i)+1≤(ns .u32 zs).length∧Bs (ns .u32 zs) (o+i) [(nW v)]=(ns .u32 (zs.set (o+i) v)) from (Dp)) (aI (Ao (a:=((i:Int)+(1:Int))) (r:=(((i+1):Nat):Int))) tt))))))))))))))))))
theorem lm_o(xs zs ys:List Nat)(o n c k e t q i:Nat)(j:List Value)(hi:k≤i)(hkn:k<n)(hc:o+n≤zs.length)(ha:zs.getD (o+k) 0<1000000000)(hr:GT (Cg 194 #[(sw 5 o n c),(sl 6 k e),(nU t)] 7 [(5,(cU xs)),(6,(cU ys))]) (lm_h zs ys o n c k e t q i j)):CT 194 #[(sw 5 o n c),(sl 6 k e),(nU t)] (Ag 7 [(5,(cU xs)),(6,(cU ys))]) (.bool (decide ((((zs.getD (o+k) 0):Nat):Int)≥(q:Int)))) (Ag 7 [(5,(cU (zs.set (o+k) 0))),(6,(cU ys))]):=
 sF (sc:=[(2,.op (.rwB false)),(14,.op (.idx (o+k))),(0,.op (.ld (nW (zs.getD (o+k) 0)))),(0,.op (.rwI (((zs.getD (o+k) 0):Nat):Int))),(8,.op (.idx (o+k))),(0,.op (.st (ns .u32 (zs.set (o+k) 0)))),(7,.stay)]) kr (aI (dF (p:=(i:Int)<(k:Int))) (aI (ix (k:Int) (n:Int) o 1 (o+k)) (aI (Ar (k:=.u32) (xs:=zs) (i:=(o+k))) (aI (Gc (a:=(((zs.getD (o+k) 0):Nat):Int)) (r:=(((zs.getD (o+k) 0):Nat):Int))) (aI (ix (k:Int) (n:Int) o 1 (o+k)) (aI (show (o+k)+1≤(ns .u32 zs).length∧Bs (ns .u32 zs) (o+k) [(lW 0)]=(ns .u32 (zs.set (o+k) 0)) from (Dp)) tt)))))) hr
theorem lm_all{s0:AS}{ys:List Nat}{o n c k e t R0:Nat}(hly:Lim ys)(hy:k≤ys.length)(hkn:k≤n)(hm:k<1099511627776)(ht:t<1000000000): ∀(m i:Nat) (zs:List Nat) (q:Nat) (j:List Value),m=k-i→i≤k→o+n≤zs.length→Lim zs→q≤1000000000→
  val zs+t*(val (ys.take i)*1000000000^o)=R0+q*1000000000^(o+i)→GT s0 (lm_h zs ys o n c k e t q i j)→
  ∃zs' q' j',zs'.length=zs.length∧Lim zs'∧q'≤1000000000∧(∀l,o+k≤l→zs'.getD l 0=zs.getD l 0)∧val zs'+t*(val (ys.take k)*1000000000^o)=R0+q'*1000000000^(o+k)∧GT s0 (lm_h zs' ys o n c k e t q' k j'):=by
 intro m
 induction m with
 |zero=>
  intro i zs q j hm2 hi hz hl hq hv hr
  have:i=k:=by omega
  subst this
  exact⟨zs,q,j,rfl,hl,hq,fun _ _=>rfl,hv,hr⟩
 |succ m ih=>
  intro i zs q j hm2 hi hz hl hq hv hr
  have ha:=hl.get (o+i)
  have hb:=hly.get i
  have hp2:=mul_fit hb ht
  by_cases hlt:zs.getD (o+i) 0<(ys.getD i 0*t+q)%1000000000
  ·obtain⟨v,hvv⟩: ∃v,v+(ys.getD i 0*t+q)%1000000000=zs.getD (o+i) 0+1000000000:=⟨zs.getD (o+i) 0+1000000000-(ys.getD i 0*t+q)%1000000000,by generalize ys.getD i 0*t=p at*;omega⟩
   have r:=lm_b zs ys o n c k e t q i _ _ v j om hkn hm hz hy ha (Ar) hb rfl hp2 hq hlt hvv
   have hv':=lose_round (d:=1) (show o+i<zs.length by omega) (by rw[hvv,Nat.one_mul]) hv
   generalize ys.getD i 0*t=p at*
   obtain⟨zs',q',j',h1,h2,h3,h4,h5,h6⟩:=ih (i+1) _ _ _ om om (by rw[List.length_set];exact hz) (hl.set om) om hv' (hr.trans r)
   refine⟨zs',q',j',by rw[h1,List.length_set],h2,h3,fun l hl'=> ?_,h5,h6⟩
   rw[h4 l hl',getD_set om,if_neg om]
  ·obtain⟨v,hvv⟩: ∃v,v+(ys.getD i 0*t+q)%1000000000=zs.getD (o+i) 0:=⟨zs.getD (o+i) 0-(ys.getD i 0*t+q)%1000000000,by generalize ys.getD i 0*t=p at*;omega⟩
   have r:=lm_n zs ys o n c k e t q i _ _ v j om hkn hm hz hy ha (Ar) hb rfl hp2 hq om hvv
   have hv':=lose_round (d:=0) (show o+i<zs.length by omega) (by rw[hvv,Nat.zero_mul,Nat.add_zero]) hv
   rw[Nat.add_zero]at hv'
   generalize ys.getD i 0*t=p at*
   obtain⟨zs',q',j',h1,h2,h3,h4,h5,h6⟩:=ih (i+1) _ _ _ om om (by rw[List.length_set];exact hz) (hl.set om) om hv' (hr.trans r)
   refine⟨zs',q',j',by rw[h1,List.length_set],h2,h3,fun l hl'=> ?_,h5,h6⟩
   rw[h4 l hl',getD_set om,if_neg om]
theorem lm_c(n0 bx byy:Nat)(xs ys:List Nat)(o n c k e t:Nat)(hb:5≤bx∧bx<n0∧5≤byy∧byy<n0∧bx≠byy)(hlx:Lim xs)(hly:Lim ys)(hc:o+n≤xs.length)(hy:k≤ys.length)(hkn:k<n)(hm:k<1099511627776)(ht:t<1000000000):
  ∃zs q,zs.length=xs.length∧Lim zs∧(∀l,o+k<l→zs.getD l 0=xs.getD l 0)∧zs.getD (o+k) 0=0∧val zs+t*(val (ys.take k)*1000000000^o)+xs.getD (o+k) 0*1000000000^(o+k)=val xs+q*1000000000^(o+k)∧
   FT 194 #[sw bx o n c,sl byy k e,.int .u64 (t:Nat)] n0 [(bx,cU xs),(byy,cU ys)] (.bool (decide (q≤xs.getD (o+k) 0))) [(bx,some (cU zs)),(byy,some (cU ys))] []:=by
 obtain⟨zs,q,j,h1,h2,h3,h4,h5,h6⟩:=lm_all (R0:=val xs) hly hy (Nat.le_of_lt hkn) hm ht k 0 xs 0 _ rfl (Nat.zero_le _) hc hlx om (by rw[List.take_zero,show val []=0 from rfl,Nat.zero_mul,Nat.zero_mul,Nat.mul_zero]) (lm_in xs ys o n c k e t)
 have hw:=h4 (o+k) (Nat.le_refl _)
 have S:=lm_o xs zs ys o n c k e t q k j (Nat.le_refl _) hkn om (h2.get _) h6
 have hd:decide (((zs.getD (o+k) 0:Nat):Int)≥((q:Nat):Int))=decide (q≤xs.getD (o+k) 0):=by
  rw[hw,decide_eq_decide]
  omega
 rw[hd]at S
 refine⟨zs.set (o+k) 0,q,by rw[List.length_set];exact h1,h2.set om,fun l hl=> ?_,?_,?_,ff [bx,byy] [cU xs,cU ys] [cU (zs.set (o+k) 0),cU ys] [] [] n0 (S) (hnd:=by simp[hb.2.2.2.2])⟩
 ·rw[getD_set om,if_neg om]
  exact h4 l om
 ·rw[getD_set om,if_pos rfl]
 ·have h7:=val_set zs (o+k) 0 om
  rw[hw]at h7
  omega
noncomputable section
abbrev Qg(o n c:Nat):Value:=sw 5 o n c
end
noncomputable def gu_h_f(xs ys:List Nat)(o n c k e v1 v2 L g lf:Nat)(j:List Value):Frame:=(Fr 193 ([(Qg o n c),(sl 6 (k+2) e),uu,uu,(lU 0),(nI (k+2)),(nU v1),(nU v2),(nU L),(nU g),(nU lf)]++(jj j 0 58 [uu])) [.code (cd Tryz.f193 [1,1,1,1,1,1,0,0,0]),.inLoop (cd Tryz.f193 [1,1,1,1,1,1,0,0,0]),.inBlock 0,.code (cd Tryz.f193 [1,1,1,1,1,1,1])])
noncomputable def gu_h_o(xs ys:List Nat)(o n c k e v1 v2 L g lf:Nat):List (Nat×AObj):=[(5,(cU xs)),(6,(cU ys))]
noncomputable def gu_h(xs ys:List Nat)(o n c k e v1 v2 L g lf:Nat)(j:List Value):AS:=⟨gu_h_f xs ys o n c k e v1 v2 L g lf j,[],Ag 7 (gu_h_o xs ys o n c k e v1 v2 L g lf)⟩
theorem gu_in(xs ys:List Nat)(o n c k e v1 v2 w2 w1 L d0 g p1 lf:Nat)(hn:k+2<n)(hm:k<1099511627776)(hy1:(ns .u32 ys)[k+1]? =some (nW v1))(hy2:(ns .u32 ys)[k]? =some (nW v2))(hx2:(ns .u32 xs)[o+(k+2)]? =some (nW w2))(hx1:(ns .u32 xs)[o+(k+1)]? =some (nW w1))(b1:0<v1∧v1<1000000000)(b2:v2<1000000000)(b3:w2<1000000000)(b4:w1<1000000000)(hL:L=w2*1000000000+w1)(hd0:d0=L/v1)(hd1:d0≤L)(hg:g=min d0 999999999)(hp1:p1=g*v1)(hp2:p1≤L)(hlf:lf+p1=L):GT (Cg 193 #[(Qg o n c),(sl 6 (k+2) e)] 7 [(5,(cU xs)),(6,(cU ys))]) (gu_h xs ys o n c k e v1 v2 L g lf [(sl 6 (k+2) e),(nI (k+2)),(sl 6 (k+2) e),(nI (k+2)),(nI (k+1)),(pp 6 (k+1)),(nW v1),(nU v1),(sl 6 (k+2) e),(nI (k+2)),(nI k),(pp 6 k),(nW v2),(nU v2),(Qg o n c),(nI (k+2)),(pp 5 (o+(k+2))),(nW w2),(nU w2),(nU (w2*1000000000)),(Qg o n c),(nI (k+2)),(nI (k+1)),(pp 5 (o+(k+1))),(nW w1),(nU w1),(nU L),(nU L),(nU v1),(nU d0),(nU g),(nU L),(nU g),(nU v1),(nU p1),(nU lf),undef,undef,undef,undef,undef,undef,undef,undef,undef,undef,undef,undef,undef,undef,undef,undef,undef,undef,undef,undef,undef,undef]):=
 sR (sc:=[(11,.drw [(2,.rwI (((k+1):Nat):Int)),(3,.idx (k+1)),(4,.ld (nW v1)),(5,.rwI (v1:Int)),(8,.rwI (k:Int)),(9,.idx k),(10,.ld (nW v2)),(11,.rwI (v2:Int))]),(1,.drw [(2,.idx (o+(k+2))),(3,.ld (nW w2)),(4,.rwI (w2:Int)),(5,.rwI (((w2*1000000000):Nat):Int)),(8,.rwI (((k+1):Nat):Int)),(9,.idx (o+(k+1))),(10,.ld (nW w1)),(11,.rwI (w1:Int)),(12,.rwI (L:Int))]),(4,.op (.div (d0:Int))),(0,.op (.rwI (g:Int))),(7,.op (.rwI (p1:Int))),(0,.op (.rwI (lf:Int))),(5,.stay)]) kr (aI (aI tt (aI tt (aI (Ao (a:=((((k+2):Nat):Int)-(1:Int))) (r:=(((k+1):Nat):Int))) (aI (ix (((k+1):Nat):Int) (((k+2):Nat):Int) 0 1 (k+1)) (aI hy1 (aI (Gc (a:=(v1:Int)) (r:=(v1:Int))) (aI tt (aI tt (aI (Ao (a:=((((k+2):Nat):Int)-(2:Int))) (r:=(k:Int))) (aI (ix (k:Int) (((k+2):Nat):Int) 0 1 k) (aI hy2 (aI (Gc (a:=(v2:Int)) (r:=(v2:Int))) (aI tt (aI tt tt)))))))))))))) (aI (aI tt (aI tt (aI (ix (((k+2):Nat):Int) (n:Int) o 1 (o+(k+2))) (aI hx2 (aI (Gc (a:=(w2:Int)) (r:=(w2:Int))) (aI (Gc (a:=((w2:Int)*(1000000000:Int))) (r:=(((w2*1000000000):Nat):Int))) (aI tt (aI tt (aI (Ao (a:=((((k+2):Nat):Int)-(1:Int))) (r:=(((k+1):Nat):Int))) (aI (ix (((k+1):Nat):Int) (n:Int) o 1 (o+(k+1))) (aI hx1 (aI (Gc (a:=(w1:Int)) (r:=(w1:Int))) (aI (Gc (a:=((((w2*1000000000):Nat):Int)+(w1:Int))) (r:=(L:Int))) (aI tt tt)))))))))))))) (aI (show (v1:Int)≠0∧IntKind.wrap .u64 (Int.tdiv (L:Int) (v1:Int))=(d0:Int) from⟨by omega,by rw[Int.tdiv_eq_ediv_of_nonneg om,show ∀a b:Nat,(a:Int)/(b:Int)=((a/b:Nat):Int) from fun _ _=>rfl,←hd0,Dc om om]⟩) (aI (show (if (999999999:Int)<(d0:Int) then (999999999:Int) else (d0:Int))=(g:Int) from (by rw[hg];split<;>omega)) (aI (show IntKind.wrap .u64 ((g:Int)*(v1:Int))=(p1:Int) from (by subst hp1;rw[Dc om om]<;>omega)) (aI (Gc (a:=((L:Int)-(p1:Int))) (r:=(lf:Int))) tt))))))
theorem gu_r(xs ys:List Nat)(o n c k e v1 v2 L g lf p2 w0:Nat)(j:List Value)(hn:k+2<n)(hm:k<1099511627776)(hx0:(ns .u32 xs)[o+k]? =some (nW w0))(b5:w0<1000000000)(hp:p2=g*v2)(hp2:p2≤999999998000000001)(hlf:lf<1000000000)(hgt:lf*1000000000+w0<p2)(hg0:0<g)(hg9:g<1000000000)(hv1:v1<1000000000):GT (gu_h xs ys o n c k e v1 v2 L g lf j) (gu_h xs ys o n c k e v1 v2 L (g-1) (lf+v1) (jj j 0 36 [(nU lf),bT,bT,(nU g),(nU v2),(nU p2),(nU lf),(nU (lf*1000000000)),(Qg o n c),(nI (k+2)),(nI k),(pp 5 (o+k)),(nW w0),(nU w0),(nU ((lf*1000000000)+w0)),bT,bT,(nU g),(nU (g-1)),(nU lf),(nU v1),(nU (lf+v1))])):=
 sR (sc:=[(4,.op (.rwB true)),(3,.op (.rwI (p2:Int))),(1,.op (.rwI (((lf*1000000000):Nat):Int))),(2,.op (.rwI (k:Int))),(0,.op (.idx (o+k))),(0,.op (.ld (nW w0))),(0,.op (.rwI (w0:Int))),(0,.op (.rwI ((((lf*1000000000)+w0):Nat):Int))),(0,.op (.rwB true)),(8,.op (.rwI (((g-1):Nat):Int))),(5,.op (.rwI (((lf+v1):Nat):Int))),(4,.stay)]) kr (aI (dT (p:=(lf:Int)<(1000000000:Int))) (aI (show IntKind.wrap .u64 ((g:Int)*(v2:Int))=(p2:Int) from (by subst hp;rw[Dc om om]<;>omega)) (aI (Gc (a:=((lf:Int)*(1000000000:Int))) (r:=(((lf*1000000000):Nat):Int))) (aI (Ao (a:=((((k+2):Nat):Int)-(2:Int))) (r:=(k:Int))) (aI (ix (k:Int) (n:Int) o 1 (o+k)) (aI hx0 (aI (Gc (a:=(w0:Int)) (r:=(w0:Int))) (aI (Gc (a:=((((lf*1000000000):Nat):Int)+(w0:Int))) (r:=((((lf*1000000000)+w0):Nat):Int))) (aI (dT (p:=(p2:Int)>((((lf*1000000000)+w0):Nat):Int))) (aI (Gc (a:=((g:Int)-(1:Int))) (r:=(((g-1):Nat):Int))) (aI (Gc (a:=((lf:Int)+(v1:Int))) (r:=(((lf+v1):Nat):Int))) tt)))))))))))
theorem gu_o1(xs ys:List Nat)(o n c k e v1 v2 L g lf p2 w0:Nat)(j:List Value)(hn:k+2<n)(hm:k<1099511627776)(hx0:(ns .u32 xs)[o+k]? =some (nW w0))(b5:w0<1000000000)(hp:p2=g*v2)(hp2:p2≤999999998000000001)(hlf:lf<1000000000)(hge:p2≤lf*1000000000+w0)(hr:GT (Cg 193 #[(Qg o n c),(sl 6 (k+2) e)] 7 [(5,(cU xs)),(6,(cU ys))]) (gu_h xs ys o n c k e v1 v2 L g lf j)):CT 193 #[(Qg o n c),(sl 6 (k+2) e)] (Ag 7 [(5,(cU xs)),(6,(cU ys))]) (nU g) (Ag 7 [(5,(cU xs)),(6,(cU ys))]):=
 sF (sc:=[(4,.op (.rwB true)),(3,.op (.rwI (p2:Int))),(1,.op (.rwI (((lf*1000000000):Nat):Int))),(2,.op (.rwI (k:Int))),(0,.op (.idx (o+k))),(0,.op (.ld (nW w0))),(0,.op (.rwI (w0:Int))),(0,.op (.rwI ((((lf*1000000000)+w0):Nat):Int))),(0,.op (.rwB false)),(10,.stay)]) kr (aI (dT (p:=(lf:Int)<(1000000000:Int))) (aI (show IntKind.wrap .u64 ((g:Int)*(v2:Int))=(p2:Int) from (by subst hp;rw[Dc om om]<;>omega)) (aI (Gc (a:=((lf:Int)*(1000000000:Int))) (r:=(((lf*1000000000):Nat):Int))) (aI (Ao (a:=((((k+2):Nat):Int)-(2:Int))) (r:=(k:Int))) (aI (ix (k:Int) (n:Int) o 1 (o+k)) (aI hx0 (aI (Gc (a:=(w0:Int)) (r:=(w0:Int))) (aI (Gc (a:=((((lf*1000000000):Nat):Int)+(w0:Int))) (r:=((((lf*1000000000)+w0):Nat):Int))) (aI (dF (p:=(p2:Int)>((((lf*1000000000)+w0):Nat):Int))) tt))))))))) hr
theorem gu_o2(xs ys:List Nat)(o n c k e v1 v2 L g lf:Nat)(j:List Value)(hlf:1000000000≤lf)(hr:GT (Cg 193 #[(Qg o n c),(sl 6 (k+2) e)] 7 [(5,(cU xs)),(6,(cU ys))]) (gu_h xs ys o n c k e v1 v2 L g lf j)):CT 193 #[(Qg o n c),(sl 6 (k+2) e)] (Ag 7 [(5,(cU xs)),(6,(cU ys))]) (nU g) (Ag 7 [(5,(cU xs)),(6,(cU ys))]):=
 sF (sc:=[(4,.op (.rwB false)),(24,.stay)]) kr (aI (dF (p:=(lf:Int)<(1000000000:Int))) tt) hr
theorem gu_all{xs ys:List Nat}{o n c k e v1 v2 L w0:Nat}(hn:k+2<n)(hm:k<1099511627776)(hx0:(ns .u32 xs)[o+k]? =some (nW w0))(b1:0<v1∧v1<1000000000)(b2:v2<1000000000)(b5:w0<1000000000): ∀(g lf:Nat) (j:List Value),g≤1000000000-1→lf+g*v1=L→
  min (1000000000-1) ((L*1000000000+w0)/(v1*1000000000+v2))≤g→GT (Cg 193 #[(sw 5 o n c),(sl 6 (k+2) e)] 7 [(5,(cU xs)),(6,(cU ys))]) (gu_h xs ys o n c k e v1 v2 L g lf j)→
  CT 193 #[(sw 5 o n c),(sl 6 (k+2) e)] (Ag 7 [(5,(cU xs)),(6,(cU ys))]) (nU (min (1000000000-1) ((L*1000000000+w0)/(v1*1000000000+v2)))) (Ag 7 [(5,(cU xs)),(6,(cU ys))]):=by
 intro g
 induction g with
 |zero=>
  intro lf j hg hl hm2 hr
  have hd:1000000000≤lf∨0*v2≤lf*1000000000+w0:=.inr (by rw[Nat.zero_mul];exact Nat.zero_le _)
  rw[←Xw hl b1.1 b2 hg hd hm2]
  by_cases h9:1000000000≤lf
  ·exact gu_o2 xs ys o n c k e v1 v2 L 0 lf j h9 hr
  ·exact gu_o1 xs ys o n c k e v1 v2 L 0 lf _ w0 j hn hm hx0 b5 rfl (by rw[Nat.zero_mul];exact Nat.zero_le _) om (by rw[Nat.zero_mul];exact Nat.zero_le _) hr
 |succ g ih=>
  intro lf j hg hl hm2 hr
  by_cases h9:1000000000≤lf
  ·rw[←Xw hl b1.1 b2 hg (.inl h9) hm2]
   exact gu_o2 xs ys o n c k e v1 v2 L (g+1) lf j h9 hr
  ·have hp2:(g+1)*v2≤999999998000000001:=mul_fit (show g+1<1000000000 by omega) b2
   by_cases hgt:lf*1000000000+w0<(g+1)*v2
   ·obtain⟨q1,q2,q3⟩:=guess_more hl hgt hm2
    have r:=gu_r xs ys o n c k e v1 v2 L (g+1) lf _ w0 j hn hm hx0 b5 rfl hp2 om hgt q1 om b1.2
    rw[Nat.add_sub_cancel]at q2 q3 r
    exact ih _ _ om q2 q3 (hr.trans r)
   ·rw[←Xw hl b1.1 b2 hg (.inr om) hm2]
    exact gu_o1 xs ys o n c k e v1 v2 L (g+1) lf _ w0 j hn hm hx0 b5 rfl hp2 om om hr
theorem gu_c(n0 bx byy:Nat)(xs ys:List Nat)(o n c k e:Nat)(hb:5≤bx∧bx<n0∧5≤byy∧byy<n0∧bx≠byy)(hlx:Lim xs)(hly:Lim ys)(hc:o+n≤xs.length)(hy:k+2≤ys.length)(hn:k+2<n)(hm:k<1099511627776)(h1:ys.getD (k+1) 0≠0):
  FT 193 #[sw bx o n c,sl byy (k+2) e] n0 [(bx,cU xs),(byy,cU ys)] (.int .u64 (guessN (xs.getD (o+(k+2)) 0) (xs.getD (o+(k+1)) 0) (xs.getD (o+k) 0) (ys.getD (k+1) 0) (ys.getD k 0):Nat)) [(bx,some (cU xs)),(byy,some (cU ys))] []:=by
 have b1:=hly.get (k+1)
 have b2:=hly.get k
 have b3:=hlx.get (o+(k+2))
 have b4:=hlx.get (o+(k+1))
 have b5:=hlx.get (o+k)
 obtain⟨L,hL⟩: ∃L,L=xs.getD (o+(k+2)) 0*1000000000+xs.getD (o+(k+1)) 0:=⟨_,rfl⟩
 have hv1:0<ys.getD (k+1) 0:=by omega
 obtain⟨g,hg⟩: ∃g,g=min (L/ys.getD (k+1) 0) 999999999:=⟨_,rfl⟩
 have hpl:g*ys.getD (k+1) 0≤L:=by
  rw[hg]
  exact Nat.le_trans (Nat.mul_le_mul_right _ (Nat.min_le_left _ _)) (Nat.div_mul_le_self _ _)
 have hgi:min (1000000000-1) ((L*1000000000+xs.getD (o+k) 0)/(ys.getD (k+1) 0*1000000000+ys.getD k 0))≤g:=by
  rw[hg]
  exact guess_init hv1 b5
 have hg9:g≤1000000000-1:=by
  rw[hg]
  exact Nat.min_le_right _ _
 obtain⟨p,hp⟩: ∃p,p=g*ys.getD (k+1) 0:=⟨_,rfl⟩
 rw[←hp]at hpl
 obtain⟨lf,hlf⟩: ∃lf,lf+p=L:=⟨L-p,by omega⟩
 have r:=gu_in xs ys o n c k e _ _ _ _ L _ g p lf hn hm (Ar) (Ar) (Ar) (Ar) ⟨hv1,b1⟩ b2 b3 b4 hL rfl (Nat.div_le_self _ _) hg hp hpl hlf
 rw[hp]at hlf
 have S:=gu_all hn hm (Ar) ⟨hv1,b1⟩ b2 b5 _ _ _ hg9 hlf hgi r
 unfold guessN
 rw[←hL]
 exact ff [bx,byy] [cU xs,cU ys] [cU xs,cU ys] [] [] n0 S (hnd:=by simp[hb.2.2.2.2])
noncomputable section
abbrev Gx(i k n:Nat):Value:=sw 7 i (k+3) (n+1-i)
abbrev z_a19_0(i k n g e d:Nat)(j:List Value):List Value:=([(Gx i k n),(nU g)]++(jj j 2 34 ([(nI i),bT,(nI i),(.int .i64 ((i:Int)-1)),(sl 7 (n+1) (n+1)),(nI i),(nI i),(sl 6 (k+2) e),(nI (k+2)),(nI (i+(k+2))),(nI ((i+(k+2))+1)),(Gx i k n),(Gx i k n),(sl 8 (k+2) (k+2)),(nU g),(nU g),bF,(sl 9 (d+1) (d+1)),(nI i),(nU g),(nW g),(pp 9 i),(Gx i k n),(sl 8 (k+2) (k+2)),(nU g),bT]++(jj j 62 9 []))))
abbrev z_a19_1(i k n g e:Nat)(j:List Value):List Value:=([(Gx i k n),(nU g)]++(jj j 2 34 ([(nI i),bT,(nI i),(.int .i64 ((i:Int)-1)),(sl 7 (n+1) (n+1)),(nI i),(nI i),(sl 6 (k+2) e),(nI (k+2)),(nI (i+(k+2))),(nI ((i+(k+2))+1)),(Gx i k n),(Gx i k n),(sl 8 (k+2) (k+2)),(nU g),(nU g),bT]++(jj j 53 18 []))))
abbrev z_a19_2(i k n g:Nat)(rs ds:List Nat):Prop:=FT 193 #[(Gx i k n),(sl 8 (k+2) (k+2))] 10 [(7,(cU rs)),(8,(cU ds))] (nU g) [(7,some (cU rs)),(8,some (cU ds))] []
end
noncomputable def ld_h_f(xs ys rs ds qs:List Nat)(n c k e d s:Nat)(i:Int)(j:List Value):Frame:=(Fr 158 ([(sl 5 n c),(sl 6 (k+2) e),uu,uu,(sl 9 (d+1) (d+1)),nS,(nU s),(sl 7 (n+1) (n+1)),(sl 8 (k+2) (k+2)),(.int .i64 i)]++(jj j 0 71 (uj 7 []))) [.code (cd Tryz.f158 [1,0,1,1,1,1,1,1,0,1,0,0]),.inLoop (cd Tryz.f158 [1,0,1,1,1,1,1,1,0,1,0,0]),.inBlock 0,.code (cd Tryz.f158 [1,0,1,1,1,1,1,1,1]),.inScope (cd Tryz.f158 [1,0])])
noncomputable def ld_h_o(xs ys rs ds qs:List Nat)(n c k e d s:Nat)(i:Int):List (Nat×AObj):=[(5,(cU xs)),(6,(cU ys)),(7,(cU rs)),(8,(cU ds)),(9,(cU qs))]
noncomputable def ld_h(xs ys rs ds qs:List Nat)(n c k e d s:Nat)(i:Int)(j:List Value):AS:=⟨ld_h_f xs ys rs ds qs n c k e d s i j,[],Ag 10 (ld_h_o xs ys rs ds qs n c k e d s i)⟩
theorem ld_in(xs ys:List Nat)(n c k e d s:Nat)(hn:n=d+(k+2))(hm:n+1<1099511627776)(hc:n≤xs.length)(hy:k+2≤ys.length)(ha:ys.getD (k+1) 0<1000000000)(hs:s=1000000000/(ys.getD (k+1) 0+1))(hs9:s≤1000000000)(r0:List Nat)(qr:Nat)(hc1:FT 169 #[(sl 7 (n+1) (n+1)),(nU s),(lU 0)] 9 [(7,(.cells (ns .u32 (xs.take n++List.replicate ((n+1)-n) 0)) 121 none false))] (nU qr) [(7,some (cU r0))] [])(d0:List Nat)(qd:Nat)(hc3:FT 169 #[(sl 8 (k+2) (k+2)),(nU s),(lU 0)] 9 [(8,(.cells (ns .u32 (ys.take (k+2)++List.replicate ((k+2)-(k+2)) 0)) 121 none false))] (nU qd) [(8,some (cU d0))] []):GT (Cg 158 #[(sl 5 n c),(sl 6 (k+2) e)] 7 [(5,(cU xs)),(6,(cU ys))]) (ld_h xs ys r0 d0 (List.replicate (d+1) 0) n c k e d s (((d+1:Nat):Int)-1) [undef,undef,(sl 6 (k+2) e),(sl 6 (k+2) e),(nI (k+2)),(nI (k+1)),(pp 6 (k+1)),(nW (ys.getD (k+1) 0)),(nU (ys.getD (k+1) 0)),(nU ((ys.getD (k+1) 0)+1)),(nU s),(sl 5 n c),(sl 5 n c),(nI n),(nI (n+1)),(sl 7 (n+1) (n+1)),(sl 6 (k+2) e),(sl 6 (k+2) e),(nI (k+2)),(sl 8 (k+2) (k+2)),(sl 7 (n+1) (n+1)),(nU s),(nU qr),(sl 8 (k+2) (k+2)),(nU s),(nU qd),(sl 5 n c),(nI n),(sl 6 (k+2) e),(nI (k+2)),(nI d),(nI (d+1)),(sl 9 (d+1) (d+1)),(sl 9 (d+1) (d+1)),(nI (d+1)),(.int .i64 (((d+1:Nat):Int)-1)),undef,undef,undef,undef,undef,undef,undef,undef,undef,undef,undef,undef,undef,undef,undef,undef,undef,undef,undef,undef,undef,undef,undef,undef,undef,undef,undef,undef,undef,undef,undef,undef,undef,undef,undef]):=
 sR (sc:=[(11,.op (.rwI (((k+1):Nat):Int))),(0,.op (.idx (k+1))),(0,.op (.ld (nW (ys.getD (k+1) 0)))),(0,.op (.rwI (((ys.getD (k+1) 0):Nat):Int))),(0,.op (.rwI ((((ys.getD (k+1) 0)+1):Nat):Int))),(0,.op (.div (s:Int))),(7,.op (.rwI (((n+1):Nat):Int))),(0,.call [5] (sl 7 (n+1) (n+1)) [(5,some (cU xs))] [(.cells (ns .u32 (xs.take n++List.replicate ((n+1)-n) 0)) 121 none false)]),(3,.call [6] (sl 8 (k+2) (k+2)) [(6,some (cU ys))] [(.cells (ns .u32 (ys.take (k+2)++List.replicate ((k+2)-(k+2)) 0)) 121 none false)]),(7,.call [7] (nU qr) [(7,some (cU r0))] []),(5,.call [8] (nU qd) [(8,some (cU d0))] []),(7,.op (.rwI (d:Int))),(0,.op (.rwI (((d+1):Nat):Int))),(0,.op (.mks (d+1) (d+1) (ns .u32 (List.replicate (d+1) 0)))),(9,.op (.rwI (((d+1:Nat):Int)-1))),(4,.stay)]) kr (aI (Ao (a:=((((k+2):Nat):Int)-(1:Int))) (r:=(((k+1):Nat):Int))) (aI (ix (((k+1):Nat):Int) (((k+2):Nat):Int) 0 1 (k+1)) (aI (Ar (k:=.u32) (xs:=ys) (i:=(k+1))) (aI (Gc (a:=(((ys.getD (k+1) 0):Nat):Int)) (r:=(((ys.getD (k+1) 0):Nat):Int))) (aI (Gc (a:=((((ys.getD (k+1) 0):Nat):Int)+(1:Int))) (r:=((((ys.getD (k+1) 0)+1):Nat):Int))) (aI (show ((((ys.getD (k+1) 0)+1):Nat):Int)≠0∧IntKind.wrap .u64 (Int.tdiv (1000000000:Int) ((((ys.getD (k+1) 0)+1):Nat):Int))=(s:Int) from⟨by omega,by rw[Int.tdiv_eq_ediv_of_nonneg om,show (1000000000:Int)/((ys.getD (k+1) 0+1:Nat):Int)=((1000000000/(ys.getD (k+1) 0+1):Nat):Int) from rfl,←hs,Dc om om]⟩) (aI (Ao (a:=((n:Int)+(1:Int))) (r:=(((n+1):Nat):Int))) (aI (Sy 7 5 xs n c (n+1) om om om om) (aI (Sy 8 6 ys (k+2) e (k+2) om om om om) (aI hc1 (aI hc3 (aI (Ao (a:=((n:Int)-(((k+2):Nat):Int))) (r:=(d:Int))) (aI (Ao (a:=((d:Int)+(1:Int))) (r:=(((d+1):Nat):Int))) (aI (show (0≤(((d+1):Nat):Int)∧(((d+1):Nat):Int)≤(((d+1):Nat):Int)∧((4:Nat):Int)*(((d+1):Nat):Int)≤281474976710656∧(((d+1):Nat):Int)≤9223372036854775807)∧Au (ns .u32 (List.replicate (d+1) 0))=true∧(madeCells (Value.cells (lW 0)) (Int.toNat (((d+1):Nat):Int)*1)).toList=(ns .u32 (List.replicate (d+1) 0))∧Int.toNat (((d+1):Nat):Int)=(d+1)∧Int.toNat (((d+1):Nat):Int)=(d+1) from (by refine⟨⟨?_,?_,?_,?_⟩,Ab _ _,Qd _ _ _,?_,?_⟩<;>omega)) (aI (Ao (a:=((((d+1):Nat):Int)-(1:Int))) (r:=(((d+1:Nat):Int)-1))) tt)))))))))))))))
theorem ld_z(xs ys rs ds qs:List Nat)(n c k e d s i g:Nat)(j:List Value)(hi:i<d+1)(hn:n=d+(k+2))(hm:n+1<1099511627776)(hrs:rs.length=n+1)(hds:ds.length=k+2)(hqs:qs.length=d+1)(hg9:g<1000000000)(hg0:g=0)(hc0:(z_a19_2 i k n g rs ds)):GT (ld_h xs ys rs ds qs n c k e d s (i:Int) j) (ld_h xs ys rs ds qs n c k e d s ((i:Int)-1) (z_a19_1 i k n g e j)):=
 sR (sc:=[(4,.op (.rwB true)),(12,.op (.rwI (((i+(k+2)):Nat):Int))),(0,.op (.rwI ((((i+(k+2))+1):Nat):Int))),(0,.op (.slc i (k+3) (n+1-i))),(6,.call [7,8] (nU g) [(7,some (cU rs)),(8,some (cU ds))] []),(6,.op (.rwB true)),(5,.op (.rwI ((i:Int)-1))),(3,.stay)]) kr (aI (dT (p:=(i:Int)≥(0:Int))) (aI (Ao (a:=((i:Int)+(((k+2):Nat):Int))) (r:=(((i+(k+2)):Nat):Int))) (aI (Ao (a:=((((i+(k+2)):Nat):Int)+(1:Int))) (r:=((((i+(k+2))+1):Nat):Int))) (aI (show 0≤(i:Int)∧(i:Int)≤((((i+(k+2))+1):Nat):Int)∧((((i+(k+2))+1):Nat):Int)≤(((n+1):Nat):Int)∧(if (n+1)=Int.toNat (i:Int) then 0 else 0+Int.toNat (i:Int)*1)=i∧Int.toNat (((((i+(k+2))+1):Nat):Int)-(i:Int))=(k+3)∧(n+1)-Int.toNat (i:Int)=(n+1-i) from (by refine⟨by omega,by omega,by omega,?_,by omega,by omega⟩;split<;>omega)) (aI hc0 (aI (eT (a:=(g:Int)) (b:=(0:Int))) (aI (Ao (a:=((i:Int)-(1:Int))) (r:=((i:Int)-1))) tt)))))))
theorem ld_t(xs ys rs ds qs:List Nat)(n c k e d s i g:Nat)(j:List Value)(hi:i<d+1)(hn:n=d+(k+2))(hm:n+1<1099511627776)(hrs:rs.length=n+1)(hds:ds.length=k+2)(hqs:qs.length=d+1)(hg9:g<1000000000)(hg0:g≠0)(hc0:(z_a19_2 i k n g rs ds))(r1:List Nat)(hc2:(FT 194 #[(Gx i k n),(sl 8 (k+2) (k+2)),(nU g)] 10 [(7,(cU rs)),(8,(cU ds))] bT [(7,some (cU r1)),(8,some (cU ds))] [])):GT (ld_h xs ys rs ds qs n c k e d s (i:Int) j) (ld_h xs ys r1 ds (qs.set i g) n c k e d s ((i:Int)-1) (z_a19_0 i k n g e d j)):=
 sR (sc:=[(4,.op (.rwB true)),(12,.op (.rwI (((i+(k+2)):Nat):Int))),(0,.op (.rwI ((((i+(k+2))+1):Nat):Int))),(0,.op (.slc i (k+3) (n+1-i))),(6,.call [7,8] (nU g) [(7,some (cU rs)),(8,some (cU ds))] []),(6,.op (.rwB false)),(8,.op (.rwI (g:Int))),(0,.op (.idx i)),(0,.op (.st (ns .u32 (qs.set i g)))),(7,.call [7,8] bT [(7,some (cU r1)),(8,some (cU ds))] []),(5,.op (.rwI ((i:Int)-1))),(3,.stay)]) kr (aI (dT (p:=(i:Int)≥(0:Int))) (aI (Ao (a:=((i:Int)+(((k+2):Nat):Int))) (r:=(((i+(k+2)):Nat):Int))) (aI (Ao (a:=((((i+(k+2)):Nat):Int)+(1:Int))) (r:=((((i+(k+2))+1):Nat):Int))) (aI (show 0≤(i:Int)∧(i:Int)≤((((i+(k+2))+1):Nat):Int)∧((((i+(k+2))+1):Nat):Int)≤(((n+1):Nat):Int)∧(if (n+1)=Int.toNat (i:Int) then 0 else 0+Int.toNat (i:Int)*1)=i∧Int.toNat (((((i+(k+2))+1):Nat):Int)-(i:Int))=(k+3)∧(n+1)-Int.toNat (i:Int)=(n+1-i) from (by refine⟨by omega,by omega,by omega,?_,by omega,by omega⟩;split<;>omega)) (aI hc0 (aI (eF (a:=(g:Int)) (b:=(0:Int))) (aI (Bt (a:=(g:Int)) (r:=(g:Int))) (aI (ix (i:Int) (((d+1):Nat):Int) 0 1 i) (aI (show i+1≤(ns .u32 qs).length∧Bs (ns .u32 qs) i [(nW g)]=(ns .u32 (qs.set i g)) from (Dp)) (aI hc2 (aI (Ao (a:=((i:Int)-(1:Int))) (r:=((i:Int)-1))) tt)))))))))))
theorem ld_f(xs ys rs ds qs:List Nat)(n c k e d s i g:Nat)(j:List Value)(hi:i<d+1)(hn:n=d+(k+2))(hm:n+1<1099511627776)(hrs:rs.length=n+1)(hds:ds.length=k+2)(hqs:qs.length=d+1)(hg9:g<1000000000)(hg0:g≠0)(hc0:(z_a19_2 i k n g rs ds))(r1:List Nat)(hc2:(FT 194 #[(Gx i k n),(sl 8 (k+2) (k+2)),(nU g)] 10 [(7,(cU rs)),(8,(cU ds))] bF [(7,some (cU r1)),(8,some (cU ds))] []))(r2:List Nat)(hc4:(FT 195 #[(Gx i k n),(sl 8 (k+2) (k+2))] 10 [(7,(cU r1)),(8,(cU ds))] undef [(7,some (cU r2)),(8,some (cU ds))] [])):GT (ld_h xs ys rs ds qs n c k e d s (i:Int) j) (ld_h xs ys r2 ds (qs.set i (g-1)) n c k e d s ((i:Int)-1) ([(Gx i k n),(nU g)]++(jj j 2 34 [(nI i),bT,(nI i),(.int .i64 ((i:Int)-1)),(sl 7 (n+1) (n+1)),(nI i),(nI i),(sl 6 (k+2) e),(nI (k+2)),(nI (i+(k+2))),(nI ((i+(k+2))+1)),(Gx i k n),(Gx i k n),(sl 8 (k+2) (k+2)),(nU g),(nU g),bF,(sl 9 (d+1) (d+1)),(nI i),(nU g),(nW g),(pp 9 i),(Gx i k n),(sl 8 (k+2) (k+2)),(nU g),bF,(sl 9 (d+1) (d+1)),(nI i),(pp 9 i),(nW g),(nW (g-1)),(pp 9 i),(Gx i k n),(sl 8 (k+2) (k+2)),undef]))):=
 sR (sc:=[(4,.op (.rwB true)),(12,.op (.rwI (((i+(k+2)):Nat):Int))),(0,.op (.rwI ((((i+(k+2))+1):Nat):Int))),(0,.op (.slc i (k+3) (n+1-i))),(6,.call [7,8] (nU g) [(7,some (cU rs)),(8,some (cU ds))] []),(6,.op (.rwB false)),(8,.op (.rwI (g:Int))),(0,.op (.idx i)),(0,.op (.st (ns .u32 (qs.set i g)))),(7,.call [7,8] bF [(7,some (cU r1)),(8,some (cU ds))] []),(7,.op (.idx i)),(0,.op (.ld (nW g))),(0,.op (.rwI (((g-1):Nat):Int))),(0,.op (.idx i)),(0,.op (.st (ns .u32 (qs.set i (g-1))))),(4,.call [7,8] uu [(7,some (cU r2)),(8,some (cU ds))] []),(4,.op (.rwI ((i:Int)-1))),(3,.stay)]) kr (aI (dT (p:=(i:Int)≥(0:Int))) (aI (Ao (a:=((i:Int)+(((k+2):Nat):Int))) (r:=(((i+(k+2)):Nat):Int))) (aI (Ao (a:=((((i+(k+2)):Nat):Int)+(1:Int))) (r:=((((i+(k+2))+1):Nat):Int))) (aI (show 0≤(i:Int)∧(i:Int)≤((((i+(k+2))+1):Nat):Int)∧((((i+(k+2))+1):Nat):Int)≤(((n+1):Nat):Int)∧(if (n+1)=Int.toNat (i:Int) then 0 else 0+Int.toNat (i:Int)*1)=i∧Int.toNat (((((i+(k+2))+1):Nat):Int)-(i:Int))=(k+3)∧(n+1)-Int.toNat (i:Int)=(n+1-i) from (by refine⟨by omega,by omega,by omega,?_,by omega,by omega⟩;split<;>omega)) (aI hc0 (aI (eF (a:=(g:Int)) (b:=(0:Int))) (aI (Bt (a:=(g:Int)) (r:=(g:Int))) (aI (ix (i:Int) (((d+1):Nat):Int) 0 1 i) (aI (show i+1≤(ns .u32 qs).length∧Bs (ns .u32 qs) i [(nW g)]=(ns .u32 (qs.set i g)) from (Dp)) (aI hc2 (aI (ix (i:Int) (((d+1):Nat):Int) 0 1 i) (aI (show ((ns .u32 (qs.set i g)):List Value)[i]? =some (nW g) from (Ub om)) (aI (Bt (a:=((g:Int)-(1:Int))) (r:=(((g-1):Nat):Int))) (aI (ix (i:Int) (((d+1):Nat):Int) 0 1 i) (aI (show i+1≤(ns .u32 (qs.set i g)).length∧Bs (ns .u32 (qs.set i g)) i [(nW (g-1))]=(ns .u32 (qs.set i (g-1))) from (ns_set2 om)) (aI hc4 (aI (Ao (a:=((i:Int)-(1:Int))) (r:=((i:Int)-1))) tt)))))))))))))))))
theorem ld_o(xs ys rs ds qs:List Nat)(n c k e d s:Nat)(i:Int)(j:List Value)(hi:i<0)(hn:n=d+(k+2))(hm:n+1<1099511627776)(hrs:rs.length=n+1)(hqs:qs.length=d+1)(r3:List Nat)(q3:Nat)(h3:r3.length=n+1)(hc1:(FT 155 #[(sl 7 (n+1) (n+1)),(nU s)] 10 [(7,(cU rs))] (nU q3) [(7,some (cU r3))] []))(hr:GT (Cg 158 #[(sl 5 n c),(sl 6 (k+2) e)] 7 [(5,(cU xs)),(6,(cU ys))]) (ld_h xs ys rs ds qs n c k e d s i j)):CT 158 #[(sl 5 n c),(sl 6 (k+2) e)] (Ag 7 [(5,(cU xs)),(6,(cU ys))]) (.tuple #[(sl 9 (top qs (d+1)) (top qs (d+1))),(sl 7 (top r3 (n+1)) (top r3 (n+1)))]) (Ag 10 [(5,(cU xs)),(6,(cU ys)),(7,(cU r3)),(9,(cU qs))]):=
 sF (sc:=[(4,.op (.rwB false)),(7,.call [7] (nU q3) [(7,some (cU r3))] []),(4,.call [9] (sl 9 (top qs (d+1)) (top qs (d+1))) [(9,some (cU qs))] []),(1,.call [7] (sl 7 (top r3 (n+1)) (top r3 (n+1))) [(7,some (cU r3))] []),(4,.stay)]) kr (aI (dF (p:=i≥(0:Int))) (aI hc1 (aI (So 10 9 qs (d+1) (d+1) om om om om) (aI (So 10 7 r3 (n+1) (n+1) om om om om) tt)))) hr
theorem ld_all{s0:AS}{xs ys ds:List Nat}{n c k e d s X:Nat}(hn:n=d+(k+2))(hm:n+1<1099511627776)(hld:Lim ds)(hds:ds.length=k+2)(h1:ds.getD (k+1) 0≠0): ∀(p:Nat) (rs qs:List Nat) (j:List Value),p≤d+1→rs.length=n+1→qs.length=d+1→Lim rs→Lim qs→(∀l,l<p→qs.getD l 0=0)→
  val qs*val ds+val rs=X→val rs<val ds*1000000000^p→GT s0 (ld_h xs ys rs ds qs n c k e d s ((p:Int)-1) j)→
  ∃rs' qs' i' j',rs'.length=n+1∧qs'.length=d+1∧Lim rs'∧Lim qs'∧val qs'*val ds+val rs'=X∧val rs'<val ds∧i'<0∧GT s0 (ld_h xs ys rs' ds qs' n c k e d s i' j'):=by
 have hV0:0<val ds:=by
  have:=Xy h1
  rw[List.take_of_length_le om]at this
  exact Nat.lt_of_lt_of_le (pow_pos _) this
 have hVk:val ds<1000000000^(k+2):=by
  have:=val_lt hld
  rw[hds]at this
  exact this
 have htk:ds.take (k+2)=ds:=List.take_of_length_le om
 intro p
 induction p with
 |zero=>
  intro rs qs j hp hrs hqs hlr hlq hz hX hR hr
  rw[Nat.pow_zero,Nat.mul_one]at hR
  exact⟨rs,qs,_,j,hrs,hqs,hlr,hlq,hX,hR,by omega,hr⟩
 |succ i ih=>
  intro rs qs j hp hrs hqs hlr hlq hz hX hR hr
  rw[show ((i+1:Nat):Int)-1=(i:Int) by omega]at hr
  have hg:=guess_lists hlr hld hds h1 (show i+k+2<rs.length by omega) hR
  have T:=gu_c 10 7 8 rs ds i (k+3) (n+1-i) k (k+2) om hlr hld om om om om h1
  rw[show i+k+2=i+(k+2) from rfl,show i+k+1=i+(k+1) from rfl]at hg
  have hg9:guessN (rs.getD (i+(k+2)) 0) (rs.getD (i+(k+1)) 0) (rs.getD (i+k) 0) (ds.getD (k+1) 0) (ds.getD k 0)≤1000000000-1:=Nat.min_le_left _ _
  generalize guessN (rs.getD (i+(k+2)) 0) (rs.getD (i+(k+1)) 0) (rs.getD (i+k) 0) (ds.getD (k+1) 0) (ds.getD k 0)=g at*
  have hR3:val rs<1000000000^(i+(k+2)+1):=by
   refine Nat.lt_of_lt_of_le hR ?_
   rw[show i+(k+2)+1=(k+2)+(i+1) by omega,Nat.pow_add 1000000000 (k+2) (i+1)]
   exact Nat.mul_le_mul_right _ (Nat.le_of_lt hVk)
  by_cases hg0:g=0
  ·have r:=ld_z xs ys rs ds qs n c k e d s i g j om hn hm hrs hds hqs om hg0 T
   exact ih rs qs _ om hrs hqs hlr hlq (fun l hl=>hz l om) hX (ld_zero hV0 om) (hr.trans r)
  ·obtain⟨r1,b,e1,e2,e3,e4,e5,T2⟩:=lm_c 10 7 8 rs ds i (k+3) (n+1-i) (k+2) (k+2) g om hlr hld om om om om om
   rw[htk]at e5
   have hL1:val r1<1000000000^(i+(k+2)):=Uv e2 fun l hl=>by
    rcases Nat.eq_or_lt_of_le hl with h|h
    ·rw[←h];exact e4
    ·rw[e3 l h];exact Rb hR3 om
   have key:=ld_lists hX hV0 hVk hg (hz i om) om e5 hL1
   by_cases hb:b≤rs.getD (i+(k+2)) 0
   ·rw[decide_eq_true hb]at T2
    obtain⟨k1,k2⟩:=key.1 hb
    have r:=ld_t xs ys rs ds qs n c k e d s i g j om hn hm hrs hds hqs om hg0 T r1 T2
    exact ih r1 (qs.set i g) _ om (by rw[e1];exact hrs) (by rw[List.length_set];exact hqs) e2 (hlq.set om) (fun l hl=>by rw[getD_set om,if_neg om];exact hz l om) k1 k2 (hr.trans r)
   ·rw[decide_eq_false hb]at T2
    obtain⟨k1,k2⟩:=key.2 om
    obtain⟨r2,u,f1,f2,f3,f4,f5,T3⟩:=gb_c 10 7 8 r1 ds i (k+3) (n+1-i) (k+2) (k+2) om e2 hld om om om om
    rw[htk]at f5
    have hL2:val r2<1000000000^(i+(k+2)):=Uv f2 fun l hl=>by
     rw[f4 l hl]
     rcases Nat.eq_or_lt_of_le hl with h|h
     ·rw[←h];exact e4
     ·rw[e3 l h];exact Rb hR3 om
    obtain⟨k3,k4⟩:=k2 r2 u f3 f5 hL2
    have r:=ld_f xs ys rs ds qs n c k e d s i g j om hn hm hrs hds hqs om hg0 T r1 T2 r2 T3
    exact ih r2 (qs.set i (g-1)) _ om (by rw[f1,e1];exact hrs) (by rw[List.length_set];exact hqs) f2 (hlq.set om) (fun l hl=>by rw[getD_set om,if_neg om];exact hz l om) k3 k4 (hr.trans r)
theorem ld_c(n0 bx byy:Nat)(xs ys:List Nat)(n c k e d:Nat)(hb:5≤bx∧bx<n0∧5≤byy∧byy<n0∧bx≠byy)(hlx:Lim xs)(hly:Lim ys)(hc:n≤xs.length)(hy:k+2≤ys.length)(hn:n=d+(k+2))(hm:n+1<1099511627776)(h0:ys.getD (k+1) 0≠0):
  ∃zs t rs u,Lim zs∧t≤zs.length∧t≤n∧(0<t→zs.getD (t-1) 0≠0)∧val (zs.take t)=val (xs.take n)/val (ys.take (k+2))∧
   Lim rs∧u≤rs.length∧u≤n+1∧(0<u→rs.getD (u-1) 0≠0)∧val (rs.take u)=val (xs.take n)%val (ys.take (k+2))∧
   FT 158 #[sl bx n c,sl byy (k+2) e] n0 [(bx,cU xs),(byy,cU ys)] (.tuple #[sl n0 t t,sl (n0+1) u u]) [(bx,some (cU xs)),(byy,some (cU ys))] [cU zs,cU rs]:=by
 obtain⟨s,hs⟩: ∃s,s=1000000000/(ys.getD (k+1) 0+1):=⟨_,rfl⟩
 have ha:=hly.get (k+1)
 have hs0:0<s:=hs▸scale_pos ha
 have hs9:s≤1000000000:=hs▸scale_le _
 have lx:(xs.take n++List.replicate (n+1-n) 0).length=n+1:=by rw[List.length_append,List.length_take,List.length_replicate];omega
 have vx:val (xs.take n++List.replicate (n+1-n) 0)=val (xs.take n):=by rw[val_append,val_replicate,Nat.mul_zero,Nat.add_zero]
 have ly:(ys.take (k+2)++List.replicate (k+2-(k+2)) 0).length=k+2:=by rw[List.length_append,List.length_take,List.length_replicate];omega
 have vy:val (ys.take (k+2)++List.replicate (k+2-(k+2)) 0)=val (ys.take (k+2)):=by rw[val_append,val_replicate,Nat.mul_zero,Nat.add_zero]
 obtain⟨r0,q0,a1,a2,a3,A⟩:=sc_c 9 7 (xs.take n++List.replicate (n+1-n) 0) (n+1) (n+1) s 0 om ((hlx.take n).append (Lim.replicate _)) lx om hs9 om
 obtain⟨d0,q1,b1,b2,b3,B⟩:=sc_c 9 8 (ys.take (k+2)++List.replicate (k+2-(k+2)) 0) (k+2) (k+2) s 0 om ((hly.take _).append (Lim.replicate _)) ly om hs9 om
 rw[vx,Nat.add_zero]at a3
 rw[vy,Nat.add_zero]at b3
 have hr0:=scale_rest (Ei hlx n) hs9 a3
 obtain⟨hd0,hdt⟩:=scale_div hly b2 b1 h0 hs hs0 b3
 have hyk:=Xy h0
 have hy0:0<val (ys.take (k+2)):=Nat.lt_of_lt_of_le (pow_pos _) hyk
 have r:=ld_in xs ys n c k e d s hn hm hc hy ha hs hs9 r0 q0 A d0 q1 B
 have hR:val r0<val d0*1000000000^(d+1):=by
  have:=ld_init (Ei hlx n) hyk (show k+1≤n by omega) hs0 hd0
  rw[←hr0,show n-(k+1)=d+1 by omega]at this
  exact this
 obtain⟨r1,q2,i,j,c1,c2,c3,c4,c5,c6,c7,c8⟩:=ld_all hn hm b2 b1 hdt (d+1) r0 (List.replicate (d+1) 0) _ (Nat.le_refl _) a1 (by rw[List.length_replicate]) a2 (Lim.replicate _) (fun l _=>Mf _ _) (by rw[val_replicate,Nat.zero_mul,Nat.zero_add]) hR r
 rw[hd0]at c5 c6
 rw[hr0]at c5
 obtain⟨f1,f2⟩:=ld_final hs0 c5 c6
 obtain⟨r3,q3,g1,g2,g3,g4,T⟩:=sh_c 10 7 r1 (n+1) (n+1) s om c3 c1 om hs0 hs9
 rw[f2]at g4
 have hv:=shrink_exact hs0 g4 g3
 have S:=ld_o xs ys r1 d0 q2 n c k e d s i j c7 hn hm c1 c2 r3 q3 g1 T c8
 have htq:=top_le q2 (d+1)
 have htr:=top_le r3 (n+1)
 refine⟨q2,top q2 (d+1),r3,top r3 (n+1),c4,by omega,by omega,top_pos _ _,?_,g2,by omega,htr,top_pos _ _,?_,ff [bx,byy] [cU xs,cU ys] [cU xs,cU ys] [9,7] [cU q2,cU r3] n0 S (hnd:=by simp[hb.2.2.2.2])⟩
 ·rw[top_val,List.take_of_length_le om,f1]
 ·rw[top_val,List.take_of_length_le om,hv]
theorem nf_o(x a b:Nat)(ha:a=x%1000000000)(hb:b=x/1000000000)(hx:x<1000000000000000000):CT 157 #[(nU x)] (Ag 5 []) (sl 5 (top ([a,b]) 2) (top ([a,b]) 2)) (Ag 6 [(5,(cU ([a,b])))]):=
 sF (sc:=[(7,.op (.rwI (a:Int))),(0,.op (.rwI (a:Int))),(1,.op (.rwI (b:Int))),(0,.op (.rwI (b:Int))),(1,.call [5] (sl 5 (top ([a,b]) 2) (top ([a,b]) 2)) [(5,some (cU ([a,b])))] []),(3,.stay)]) kr (aI (show (Int.tmod (x:Int) (1000000000:Int))=(a:Int) from (by rw[Int.tmod_eq_emod_of_nonneg om]<;>omega)) (aI (Bt (a:=(a:Int)) (r:=(a:Int))) (aI (show IntKind.wrap .u64 (Int.tdiv (x:Int) (1000000000:Int))=(b:Int) from (by rw[Int.tdiv_eq_ediv_of_nonneg om,Dc om om]<;>omega)) (aI (Bt (a:=(b:Int)) (r:=(b:Int))) (aI (So 6 5 ([a,b]) 2 2 (by first|omega|exact Nat.le_refl _) (by first|omega|exact Nat.le_refl _) (by first|omega|exact Nat.le_refl _) (by first|omega|exact Nat.le_refl _)) tt))))) (Gets.refl _)
theorem two_val(a b:Nat):val [a,b]=a+1000000000*b:=by simp[val]
theorem nf_c(n0 x:Nat)(hG:5≤n0)(hx:x<1000000000000000000): ∃xs t,Lim xs∧xs.length=2∧t≤2∧(0<t→xs.getD (t-1) 0≠0)∧val (xs.take t)=x∧
  FT 157 #[.int .u64 (x:Nat)] n0 [] (sl n0 t t) [] [cU xs]:=by
 obtain⟨a,ha⟩: ∃a,a=x%1000000000:=⟨_,rfl⟩
 obtain⟨b,hb⟩: ∃b,b=x/1000000000:=⟨_,rfl⟩
 refine⟨[a,b],top [a,b] 2,?_,rfl,top_le _ _,top_pos _ _,?_,ff [] [] [] [5] [.cells (ns .u32 [a,b]) 121 none false] n0 (nf_o x a b ha hb hx) (hb:=sm) (hGn:=hG) (fo:=rfl) (fp:=rfl)⟩
 ·intro z hz
  simp at hz
  omega
 ·rw[top_val,show List.take 2 [a,b]=[a,b] from rfl,two_val]
  omega
end Go.Proofs.YtldoiilgfcpipaaGreatDoor
