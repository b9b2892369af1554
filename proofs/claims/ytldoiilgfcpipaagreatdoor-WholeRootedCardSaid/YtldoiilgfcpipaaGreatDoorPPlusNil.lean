import Derived.Test.YtldoiilgfcpipaaGreatDoorPNatFrom
import Derived.Test.YtldoiilgfcpipaaGreatDoorLF
import Derived.Test.YtldoiilgfcpipaaGreatDoorK
import Derived.Test.YtldoiilgfcpipaaGreatDoorPCnt
import Derived.Test.YtldoiilgfcpipaaGreatDoorPLoseMany
import Derived.Test.YtldoiilgfcpipaaGreatDoorLE
set_option linter.unusedVariables false
set_option linter.unusedSimpArgs false
set_option maxRecDepth 100000
namespace Go.Proofs.YtldoiilgfcpipaaGreatDoor
open Go Go.AE Seg
theorem plusn_o(ys:List Nat)(k e:Nat)(hk:k≤ys.length)(hkm:k<1099511627776)(zs0:List Nat)(hz:zs0.length=max 0 k+1)(hc1:FT 189 #[(sl 6 ((max 0 k)+1) ((max 0 k)+1)),(sl 5 k e)] 7 [(6,(.cells (ns .u32 (List.replicate ((max 0 k)+1) 0)) 121 none false)),(5,(cU ys))] undef [(6,some (cU zs0)),(5,some (cU ys))] []):CT 151 #[(.slice none 0 0),(sl 5 k e)] (mkH 6 [(5,(cU ys))]) (sl 6 (top zs0 ((max 0 k)+1)) (top zs0 ((max 0 k)+1))) (mkH 7 [(5,(cU ys)),(6,(cU zs0))]):=
 sF (sc:=[(11,.op (.rwI (((max 0 k):Nat):Int))),(0,.op (.rwI ((((max 0 k)+1):Nat):Int))),(0,.call [] (sl 6 ((max 0 k)+1) ((max 0 k)+1)) [] [(.cells (ns .u32 (List.replicate ((max 0 k)+1) 0)) 121 none false)]),(6,.call [6,5] uu [(6,some (cU zs0)),(5,some (cU ys))] []),(4,.call [6] (sl 6 (top zs0 ((max 0 k)+1)) (top zs0 ((max 0 k)+1))) [(6,some (cU zs0))] []),(3,.stay)]) (by kernel_rfl) (aI (show (if (k:Int)>(0:Int) then (k:Int) else (0:Int))=(((max 0 k):Nat):Int) from (by omega)) (aI (wI64 (a:=((((max 0 k):Nat):Int)+(1:Int))) (r:=((((max 0 k)+1):Nat):Int))) (aI (copied_nil 6 ((max 0 k)+1) (by omega) (by omega)) (aI hc1 (aI (trim_c 7 6 zs0 ((max 0 k)+1) ((max 0 k)+1) (by omega) (by rw[hz];exact Nat.le_refl _) (by omega) (by omega)) tt))))) (Gets.refl _)
theorem plusn_c(n0 byy:Nat)(ys:List Nat)(k e:Nat)(hb:5≤byy∧byy<n0)(hly:Lim ys)(hk:k≤ys.length)(hkm:k<1099511627776):
  ∃zs t,Lim zs∧t≤zs.length∧t≤k+1∧(0<t→zs.getD (t-1) 0≠0)∧val (zs.take t)=val (ys.take k)∧
   FT 151 #[.slice none 0 0,sl byy k e] n0 [(byy,cU ys)] (sl n0 t t) [(byy,some (cU ys))] [cU zs]:=by
 have hl1:(List.replicate (max 0 k+1) 0:List Nat).length=max 0 k+1:=List.length_replicate
 have hy1:=val_lt (hly.take k)
 have hy2:val (ys.take k)<1000000000^max 0 k:=Nat.lt_of_lt_of_le hy1 (pow_le (by rw[List.length_take];omega))
 obtain⟨zs,h1,h2,h3,h4⟩:=gain_c 7 6 5 (List.replicate (max 0 k+1) 0) ys k e (by omega) (Lim.replicate _) hly hk (by rw[hl1];omega) (by rw[hl1];omega) (by rw[hl1,val_replicate];exact sum_lt (Nat.pow_pos (by decide)) hy2)
 rw[hl1]at h1 h4
 have S:=plusn_o ys k e hk hkm zs h1 h4
 have htl:=top_le zs (max 0 k+1)
 refine⟨zs,top zs (max 0 k+1),h2,by rw[h1];exact htl,by omega,top_pos zs _,?_,fsp_flat [byy] [cU ys] [cU ys] [6] [cU zs] n0 S rfl rfl rfl (by simp) (by simp;omega) (by omega) (by simp[flat,ns_closed]) (by simp[flat,ns_closed]) (by simp[flat,ns_closed,AObj.ro]) (by simp) (by simp) rfl rfl rfl⟩
 rw[top_val,List.take_of_length_le (by rw[h1];exact Nat.le_refl _),h3,val_replicate,Nat.zero_add]
theorem take_pos{xs:List Nat}{t:Nat}(h:0<val (xs.take t)):0<t:=by
 rcases Nat.eq_zero_or_pos t with h0|h0
 ·rw[h0,List.take_zero]at h;exact absurd h (by decide)
 ·exact h0
theorem cmpN_ng{a b:Nat}(h:a<b):cmpN a b<0:=by unfold cmpN;split<;>(try split)<;>omega
theorem cmpN_nneg{a b:Nat}(h:b≤a):0≤cmpN a b:=by unfold cmpN;split<;>(try split)<;>omega
def RT(n0 bx:Nat)(xs:List Nat)(k e n:Nat):Prop:= ∃zs t,Lim zs∧t≤zs.length∧t<24∧(0<t→zs.getD (t-1) 0≠0)∧val (zs.take t)^n≤val (xs.take k)∧val (xs.take k)<(val (zs.take t)+1)^n∧
 FT 142 #[sl bx k e,.int .i64 ((n:Nat):Int)] n0 [(bx,cU xs)] (sl n0 t t) [(bx,some (cU xs))] [cU zs]
theorem len_mono{xs ys:List Nat}{n k:Nat}(hlx:Lim xs)(hx:n≤xs.length)(h0:0<n→xs.getD (n-1) 0≠0)(hk:k≤ys.length)(hly:Lim ys)(h:val (xs.take n)≤val (ys.take k)):n≤k:=by
 rcases Nat.lt_or_ge k n with h1|h1
 ·have:=val_lt_of_len hly hk h1 h0
  omega
 ·exact h1
theorem ro_loop(n0 bx:Nat)(hbx:5≤bx∧bx<n0){xs:List Nat}{k e n n1 g gn z gc:Nat}(hlx:Lim xs)(hk:k≤xs.length)(hk0:0<k)(hk24:k<1000)(hxt:0<k→xs.getD (k-1) 0≠0)(hn:0<n)(hn64:n<64)(hn1:n1+1=n)(hx0:0<val (xs.take k)):
  ∀(fuel:Nat) (zs:List Nat) (t:Nat) (j:List Value),val (zs.take t)≤fuel→Lim zs→t≤zs.length→t<24→(0<t→zs.getD (t-1) 0≠0)→0<val (zs.take t)→val (zs.take t)^n1<10^207→(∀r,r^n≤val (xs.take k)→r≤val (zs.take t))→
   GT ⟨Frame.enter Tryz.prog 142 #[(sl 5 k e),(nI n)] .normal,[],mkH 6 [(5,(cU xs))]⟩ (ro_h xs zs k e n g gn z gc t j)→RT n0 bx xs k e n:=by
 intro fuel
 induction fuel with
 |zero=>intro zs t j hf _ _ _ _ h;omega
 |succ fuel ih0=>
  intro zs t j hf hl hc ht h0 hg0 hb hup hr
  have hnn:n1=n-1:=by omega
  have ih: ∀(ws:List Nat) (u:Nat) (j:List Value),val (ws.take u)<val (zs.take t)→Lim ws→u≤ws.length→u<24→(0<u→ws.getD (u-1) 0≠0)→0<val (ws.take u)→val (ws.take u)^n1<10^207→(∀r,r^n≤val (xs.take k)→r≤val (ws.take u))→GT ⟨Frame.enter Tryz.prog 142 #[(sl 5 k e),(nI n)] .normal,[],mkH 6 [(5,(cU xs))]⟩ (ro_h xs ws k e n g gn z gc u j)→RT n0 bx xs k e n:=
   fun ws u j h=>ih0 ws u j (by omega)
  have hP:=pw_c 19 7 zs t t n1 800 (by omega) hl hc ht (by omega) (by decide) (by decide) hb
  unfold PW at hP
  obtain⟨ps,pc,p1,p2,p3,p4,p5,p6⟩:=hP
  have hp0:0<val (ps.take pc):=by rw[p5];exact Nat.pow_pos hg0
  rcases ov_c 20 5 19 xs ps k e pc pc (by omega) hlx p1 hk p2 (by omega) (by omega) hxt p4 (take_pos hp0) with⟨hlt,o6⟩|⟨_,os,ot,rs,ru,o1,o2,o3,o4,o5,o6,o7,o8,o9,o10,o11⟩
  ·have hdz:val (xs.take k)/val (zs.take t)^(n-1)=0:=by rw[p5,hnn]at hlt;exact Nat.div_eq_of_lt hlt
   obtain⟨nf,nt,f1,f2,f3,f4,f5,f6⟩:=nf_c 20 n1 (by omega) (by omega)
   obtain⟨ms,mt,m1,m2,m3,m4,m5,m6⟩:=mu_c 22 21 7 20 zs nf t t nt nt (.inl ht) (by omega) hl f1 hc (by omega) (by omega) (by omega)
   obtain⟨pl,pt,l1,l2,l3,l4,l5,l6⟩:=plusn_c 23 22 ms mt mt (by omega) m1 m2 (by omega)
   obtain⟨nf2,nt2,g1,g2,g3,g4,g5,g6⟩:=nf_c 24 n (by omega) (by omega)
   have hS:val (pl.take pt)=val (xs.take k)/val (zs.take t)^(n-1)+val (zs.take t)*(n-1):=by
    rw[l5,m5,f5,hnn,hdz,Nat.zero_add]
   have hQ:val (pl.take pt)/n=newton (val (xs.take k)) n (val (zs.take t)):=by rw[hS];rfl
   have hQp:=newton_pos hn hg0 hx0
   have hge:n≤val (pl.take pt):=by
    rcases Nat.lt_or_ge (val (pl.take pt)) n with h|h
    ·rw[←hQ,Nat.div_eq_of_lt h]at hQp;exact absurd hQp (by decide)
    ·exact h
   rcases ov_c 25 23 24 pl nf2 pt pt nt2 nt2 (by omega) l1 g1 l2 (by omega) (by omega) (by omega) l4 g4 (take_pos (by rw[g5];exact hn)) with⟨hlt,_⟩|⟨_,qs,qt,rs2,ru2,q1,q2,q3,q4,q5,q6,q7,q8,q9,q10,q11⟩
   ·rw[g5]at hlt;omega
   ·rw[g5,hQ]at q5
    have qc:=cmp_c 27 25 7 qs zs qt qt t t (by omega) q1 hl q2 hc (by omega) (by omega) q4 h0
    by_cases hd:newton (val (xs.take k)) n (val (zs.take t))<val (zs.take t)
    ·have HQ:cmpN (val (qs.take qt)) (val (zs.take t))<0:=cmpN_ng (by rw[q5];exact hd)
     have hb2:val (qs.take qt)^n1<10^207:=Nat.lt_of_le_of_lt (Nat.pow_le_pow_left (by rw[q5];omega) _) hb
     refine ih qs qt _ (by rw[q5];omega) q1 q2 ?_ q4 (by rw[q5];exact hQp) hb2 (fun r hr=>by rw[q5];exact newton_ge hn hg0 hr) (ro_z rfl xs zs k e n g gn z gc t n1 j hk0 hn hn64 hn1 ps pc p6 0 o6 nf nt f6 ms mt m6 pl pt l6 nf2 nt2 g6 qs qt rs2 ru2 q11 _ HQ qc hr)
     exact Nat.lt_of_le_of_lt (len_mono q1 q2 q4 hc hl (by rw[q5];omega)) ht
    ·have HQ:0≤cmpN (val (qs.take qt)) (val (zs.take t)):=cmpN_nneg (by rw[q5];omega)
     obtain⟨e1,e2⟩:=newton_end hn hg0 hup (by omega)
     exact⟨zs,t,hl,hc,ht,h0,e1,e2,fsp_flat [bx] [cU xs] [cU xs] [7] [cU zs] n0 (ro_z_o xs zs k e n g gn z gc t n1 j hk0 hn hn64 hn1 ps pc p6 0 o6 nf nt f6 ms mt m6 pl pt l6 nf2 nt2 g6 qs qt rs2 ru2 q11 _ HQ qc hr) rfl rfl rfl (by simp) (by simp;omega) (by omega) (by simp[flat,ns_closed]) (by simp[flat,ns_closed]) (by simp[flat,ns_closed,AObj.ro]) (by simp) (by simp) rfl rfl rfl⟩
  ·skip
   obtain⟨nf,nt,f1,f2,f3,f4,f5,f6⟩:=nf_c 22 n1 (by omega) (by omega)
   obtain⟨ms,mt,m1,m2,m3,m4,m5,m6⟩:=mu_c 24 23 7 22 zs nf t t nt nt (.inl ht) (by omega) hl f1 hc (by omega) (by omega) (by omega)
   obtain⟨pl,pt,l1,l2,l3,l4,l5,l6⟩:=plus_c 25 20 24 os ms ot ot mt mt (by omega) o1 m1 o2 m2 (by omega) (by omega)
   obtain⟨nf2,nt2,g1,g2,g3,g4,g5,g6⟩:=nf_c 26 n (by omega) (by omega)
   have hS:val (pl.take pt)=val (xs.take k)/val (zs.take t)^(n-1)+val (zs.take t)*(n-1):=by
    rw[l5,o5,m5,f5,p5,hnn]
   have hQ:val (pl.take pt)/n=newton (val (xs.take k)) n (val (zs.take t)):=by rw[hS];rfl
   have hQp:=newton_pos hn hg0 hx0
   have hge:n≤val (pl.take pt):=by
    rcases Nat.lt_or_ge (val (pl.take pt)) n with h|h
    ·rw[←hQ,Nat.div_eq_of_lt h]at hQp;exact absurd hQp (by decide)
    ·exact h
   rcases ov_c 27 25 26 pl nf2 pt pt nt2 nt2 (by omega) l1 g1 l2 (by omega) (by omega) (by omega) l4 g4 (take_pos (by rw[g5];exact hn)) with⟨hlt,_⟩|⟨_,qs,qt,rs2,ru2,q1,q2,q3,q4,q5,q6,q7,q8,q9,q10,q11⟩
   ·rw[g5]at hlt;omega
   ·rw[g5,hQ]at q5
    have qc:=cmp_c 29 27 7 qs zs qt qt t t (by omega) q1 hl q2 hc (by omega) (by omega) q4 h0
    by_cases hd:newton (val (xs.take k)) n (val (zs.take t))<val (zs.take t)
    ·have HQ:cmpN (val (qs.take qt)) (val (zs.take t))<0:=cmpN_ng (by rw[q5];exact hd)
     have hb2:val (qs.take qt)^n1<10^207:=Nat.lt_of_le_of_lt (Nat.pow_le_pow_left (by rw[q5];omega) _) hb
     refine ih qs qt _ (by rw[q5];omega) q1 q2 ?_ q4 (by rw[q5];exact hQp) hb2 (fun r hr=>by rw[q5];exact newton_ge hn hg0 hr) (ro_r rfl xs zs k e n g gn z gc t n1 j hk0 hn hn64 hn1 ps pc p6 os ot rs ru o11 nf nt f6 ms mt m6 pl pt l6 nf2 nt2 g6 qs qt rs2 ru2 q11 _ HQ qc hr)
     exact Nat.lt_of_le_of_lt (len_mono q1 q2 q4 hc hl (by rw[q5];omega)) ht
    ·have HQ:0≤cmpN (val (qs.take qt)) (val (zs.take t)):=cmpN_nneg (by rw[q5];omega)
     obtain⟨e1,e2⟩:=newton_end hn hg0 hup (by omega)
     exact⟨zs,t,hl,hc,ht,h0,e1,e2,fsp_flat [bx] [cU xs] [cU xs] [7] [cU zs] n0 (ro_r_o xs zs k e n g gn z gc t n1 j hk0 hn hn64 hn1 ps pc p6 os ot rs ru o11 nf nt f6 ms mt m6 pl pt l6 nf2 nt2 g6 qs qt rs2 ru2 q11 _ HQ qc hr) rfl rfl rfl (by simp) (by simp;omega) (by omega) (by simp[flat,ns_closed]) (by simp[flat,ns_closed]) (by simp[flat,ns_closed,AObj.ro]) (by simp) (by simp) rfl rfl rfl⟩
theorem root_c(n0 bx:Nat)(hbx:5≤bx∧bx<n0){xs:List Nat}{k e n:Nat}(hlx:Lim xs)(hk:k≤xs.length)(hk24:k<1000)(hxt:0<k→xs.getD (k-1) 0≠0)(hn:0<n)(hn64:n<64)(hx0:0<val (xs.take k))(hx:ndig (val (xs.take k))≤100):RT n0 bx xs k e n:=by
 have hk0:=take_pos hx0
 have hg:=digN_eq hlx hk hxt
 obtain⟨g,hgd⟩: ∃g,g=digN xs k:=⟨_,rfl⟩
 have hxg:val (xs.take k)<10^g:=by
  rcases Nat.lt_or_ge (val (xs.take k)) (10^g) with h|h
  ·exact h
  ·have:=ndig_gt h
   omega
 obtain⟨z,hz⟩: ∃z,z=(g+n-1)/n:=⟨_,rfl⟩
 have hz1:g≤z*n:=by
  have h1:=Nat.div_add_mod (g+n-1) n
  have h2:=Nat.mod_lt (g+n-1) hn
  rw[←hz,Nat.mul_comm]at h1
  omega
 have hz2:z*n≤g+n-1:=by rw[hz];exact Nat.div_mul_le_self _ _
 have hz3:z*1≤z*n:=Nat.mul_le_mul_left z hn
 have hz4:z*(n-1)≤z*n:=Nat.mul_le_mul_left z (Nat.sub_le _ _)
 obtain⟨gs,gc,s1,s2,s3,s4,s5,s6⟩:=pt_c 6 z (by omega) (by omega)
 have T:=dg_c 6 5 xs k e (by omega) hlx hk (by omega)
 rw[←hgd]at T
 refine ro_loop n0 bx hbx (n1:=n-1) hlx hk hk0 hk24 hxt hn hn64 (by omega) hx0 _ gs gc _ (Nat.le_refl _) s1 (by omega) (by omega) s4 (by rw[s5];exact Nat.pow_pos (by decide)) ?_ (fun r hr=> ?_)
  (ro_in rfl xs k e n (n-1) hk0 hn hn64 (by omega) g (g+n-1) z (by omega) (by omega) hz T gs gc s6 (Gets.refl _))
 ·rw[s5,←Nat.pow_mul]
  exact Nat.pow_lt_pow_right (by decide) (by omega)
 ·rw[s5]
  rcases Nat.lt_or_ge (10^z) r with h|h
  ·have h1:(10^z)^n≤r^n:=Nat.pow_le_pow_left (Nat.le_of_lt h) n
   rw[←Nat.pow_mul]at h1
   have h2:(10:Nat)^g≤10^(z*n):=Nat.pow_le_pow_right (by decide) hz1
   omega
  ·exact h
noncomputable section
abbrev z_02c_0(i:Nat):Value:=.pointer (some ⟨5,i,none⟩)
end
noncomputable def lose_h_f(xs ys:List Nat)(n c k e:Nat)(q i:Nat)(j:List Value):Frame:=⟨192,List.toArray [(sl 5 n c),(sl 6 k e),uu,uu,(nW q),(nI i),(J j 0),(J j 1),(J j 2),(J j 3),(J j 4),(J j 5),(J j 6),(J j 7),(J j 8),(J j 9),(J j 10),(J j 11),(J j 12),(J j 13),(J j 14),(J j 15),(J j 16),(J j 17),(J j 18),(J j 19),(J j 20),(J j 21),(J j 22),(J j 23),(J j 24),(J j 25),(J j 26),(J j 27),(J j 28),(J j 29),(J j 30),(J j 31),(J j 32),(J j 33),(J j 34),(J j 35),(J j 36),(J j 37),(J j 38),(J j 39),(J j 40)],[.code (cd Tryz.f192 [1,1,0,0]),.inLoop (cd Tryz.f192 [1,1,0,0]),.inBlock 0],[],.run,.normal,none⟩
noncomputable def lose_h_o(xs ys:List Nat)(n c k e:Nat)(q i:Nat):List (Nat×AObj):=[(5,(cU xs)),(6,(cU ys))]
noncomputable def lose_h(xs ys:List Nat)(n c k e:Nat)(q i:Nat)(j:List Value):AS:=⟨lose_h_f xs ys n c k e q i j,[],mkH 7 (lose_h_o xs ys n c k e q i)⟩
theorem lose_in(xs ys:List Nat)(n c k e:Nat):GT ⟨Frame.enter Tryz.prog 192 #[(sl 5 n c),(sl 6 k e)] .normal,[],mkH 7 [(5,(cU xs)),(6,(cU ys))]⟩ (lose_h xs ys n c k e 0 0 [undef,undef,undef,undef,undef,undef,undef,undef,undef,undef,undef,undef,undef,undef,undef,undef,undef,undef,undef,undef,undef,undef,undef,undef,undef,undef,undef,undef,undef,undef,undef,undef,undef,undef,undef,undef,undef,undef,undef,undef,undef]):=
 sR (sc:=[(10,.stay)]) (by kernel_rfl) tt
theorem lose_t1(xs ys:List Nat)(n c k e q i a b v:Nat)(j:List Value)(hi:i<k)(hn:i<n)(hc:n≤xs.length)(hm:n<9223372036854775807)(hkm:k<9223372036854775807)(hb:b<1000000000)(ha:a<1000000000)(hq:q≤1)(hx:(ns .u32 xs)[i]? =some (nW a))(hy:(ns .u32 ys)[i]? =some (nW b))(hlt:a<q+b)(hv:v+(q+b)=a+1000000000):GT (lose_h xs ys n c k e q i j) (lose_h (xs.set i v) ys n c k e 1 (i+1) [(nW (q+b)),(nI i),(sl 6 k e),(nI k),bT,bT,undef,undef,bT,(nI i),(nI (i+1)),(nW q),(nI i),(sl 6 k e),(nI k),bT,(nW q),(sl 6 k e),(nI i),(.pointer (some ⟨6,i,none⟩)),(nW b),(nW (q+b)),(sl 5 n c),(nI i),(z_02c_0 i),(nW a),(nW (q+b)),bT,(sl 5 n c),(nI i),(z_02c_0 i),(nW a),(nW (a+1000000000)),(z_02c_0 i),(sl 5 n c),(nI i),(z_02c_0 i),(nW (a+1000000000)),(nW (q+b)),(nW v),(z_02c_0 i)]):=
 sR (sc:=[(6,.op (.rwB true)),(20,.op (.rwB true)),(6,.op (.idx i)),(0,.op (.ld (nW b))),(0,.op (.rwI (((q+b):Nat):Int))),(11,.op (.idx i)),(0,.op (.ld (nW a))),(1,.op (.rwB true)),(9,.op (.idx i)),(0,.op (.ld (nW a))),(0,.op (.rwI (((a+1000000000):Nat):Int))),(0,.op (.idx i)),(0,.op (.st (ns .u32 (xs.set i (a+1000000000))))),(4,.op (.idx i)),(0,.op (.ld (nW (a+1000000000)))),(1,.op (.rwI (v:Int))),(0,.op (.idx i)),(0,.op (.st (ns .u32 (xs.set i v)))),(4,.op (.rwI (((i+1):Nat):Int))),(3,.stay)]) (by kernel_rfl) (aI (dT (p:=(i:Int)<(k:Int))) (aI (dT (p:=(i:Int)<(k:Int))) (aI (ix (i:Int) (k:Int) 0 1 i) (aI hy (aI (wU32 (a:=((q:Int)+(b:Int))) (r:=(((q+b):Nat):Int))) (aI (ix (i:Int) (n:Int) 0 1 i) (aI hx (aI (dT (p:=(a:Int)<(((q+b):Nat):Int))) (aI (ix (i:Int) (n:Int) 0 1 i) (aI hx (aI (wU32 (a:=((a:Int)+(1000000000:Int))) (r:=(((a+1000000000):Nat):Int))) (aI (ix (i:Int) (n:Int) 0 1 i) (aI (show i+1≤(ns .u32 xs).length∧lspl (ns .u32 xs) i [(nW (a+1000000000))]=(ns .u32 (xs.set i (a+1000000000))) from (ns_set)) (aI (ix (i:Int) (n:Int) 0 1 i) (aI (show ((ns .u32 (xs.set i (a+1000000000))):List Value)[i]? =some (nW (a+1000000000)) from (ns_get_set (by omega))) (aI (wU32 (a:=((((a+1000000000):Nat):Int)-(((q+b):Nat):Int))) (r:=(v:Int))) (aI (ix (i:Int) (n:Int) 0 1 i) (aI (show i+1≤(ns .u32 (xs.set i (a+1000000000))).length∧lspl (ns .u32 (xs.set i (a+1000000000))) i [(nW v)]=(ns .u32 (xs.set i v)) from (ns_set2 (by omega))) (aI (wI64 (a:=((i:Int)+(1:Int))) (r:=(((i+1):Nat):Int))) tt)))))))))))))))))))
theorem lose_f1(xs ys:List Nat)(n c k e q i a b v:Nat)(j:List Value)(hi:i<k)(hn:i<n)(hc:n≤xs.length)(hm:n<9223372036854775807)(hkm:k<9223372036854775807)(hb:b<1000000000)(ha:a<1000000000)(hq:q≤1)(hx:(ns .u32 xs)[i]? =some (nW a))(hy:(ns .u32 ys)[i]? =some (nW b))(hlt:q+b≤a)(hv:v+(q+b)=a):GT (lose_h xs ys n c k e q i j) (lose_h (xs.set i v) ys n c k e 0 (i+1) [(nW (q+b)),(nI i),(sl 6 k e),(nI k),bT,bT,undef,undef,bT,(nI i),(nI (i+1)),(nW q),(nI i),(sl 6 k e),(nI k),bT,(nW q),(sl 6 k e),(nI i),(.pointer (some ⟨6,i,none⟩)),(nW b),(nW (q+b)),(sl 5 n c),(nI i),(z_02c_0 i),(nW a),(nW (q+b)),bF,(J j 28),(J j 29),(J j 30),(J j 31),(J j 32),(J j 33),(sl 5 n c),(nI i),(z_02c_0 i),(nW a),(nW (q+b)),(nW v),(z_02c_0 i)]):=
 sR (sc:=[(6,.op (.rwB true)),(20,.op (.rwB true)),(6,.op (.idx i)),(0,.op (.ld (nW b))),(0,.op (.rwI (((q+b):Nat):Int))),(11,.op (.idx i)),(0,.op (.ld (nW a))),(1,.op (.rwB false)),(6,.op (.idx i)),(0,.op (.ld (nW a))),(1,.op (.rwI (v:Int))),(0,.op (.idx i)),(0,.op (.st (ns .u32 (xs.set i v)))),(4,.op (.rwI (((i+1):Nat):Int))),(3,.stay)]) (by kernel_rfl) (aI (dT (p:=(i:Int)<(k:Int))) (aI (dT (p:=(i:Int)<(k:Int))) (aI (ix (i:Int) (k:Int) 0 1 i) (aI hy (aI (wU32 (a:=((q:Int)+(b:Int))) (r:=(((q+b):Nat):Int))) (aI (ix (i:Int) (n:Int) 0 1 i) (aI hx (aI (dF (p:=(a:Int)<(((q+b):Nat):Int))) (aI (ix (i:Int) (n:Int) 0 1 i) (aI hx (aI (wU32 (a:=((a:Int)-(((q+b):Nat):Int))) (r:=(v:Int))) (aI (ix (i:Int) (n:Int) 0 1 i) (aI (show i+1≤(ns .u32 xs).length∧lspl (ns .u32 xs) i [(nW v)]=(ns .u32 (xs.set i v)) from (ns_set)) (aI (wI64 (a:=((i:Int)+(1:Int))) (r:=(((i+1):Nat):Int))) tt))))))))))))))
theorem lose_t2(xs ys:List Nat)(n c k e q i a v:Nat)(j:List Value)(hi:k≤i)(hn:i<n)(hc:n≤xs.length)(hm:n<9223372036854775807)(hq:q=1)(ha:a<1000000000)(hx:(ns .u32 xs)[i]? =some (nW a))(hlt:a<q)(hv:v+q=a+1000000000):GT (lose_h xs ys n c k e q i j) (lose_h (xs.set i v) ys n c k e 1 (i+1) [(nW q),(nI i),(sl 6 k e),(nI k),bF,bF,(nW q),bT,bT,(nI i),(nI (i+1)),(nW q),(nI i),(sl 6 k e),(nI k),bF,(J j 16),(J j 17),(J j 18),(J j 19),(J j 20),(J j 21),(sl 5 n c),(nI i),(z_02c_0 i),(nW a),(nW q),bT,(sl 5 n c),(nI i),(z_02c_0 i),(nW a),(nW (a+1000000000)),(z_02c_0 i),(sl 5 n c),(nI i),(z_02c_0 i),(nW (a+1000000000)),(nW q),(nW v),(z_02c_0 i)]):=
 sR (sc:=[(6,.op (.rwB false)),(2,.op (.rwB true)),(17,.op (.rwB false)),(12,.op (.idx i)),(0,.op (.ld (nW a))),(1,.op (.rwB true)),(9,.op (.idx i)),(0,.op (.ld (nW a))),(0,.op (.rwI (((a+1000000000):Nat):Int))),(0,.op (.idx i)),(0,.op (.st (ns .u32 (xs.set i (a+1000000000))))),(4,.op (.idx i)),(0,.op (.ld (nW (a+1000000000)))),(1,.op (.rwI (v:Int))),(0,.op (.idx i)),(0,.op (.st (ns .u32 (xs.set i v)))),(4,.op (.rwI (((i+1):Nat):Int))),(3,.stay)]) (by kernel_rfl) (aI (dF (p:=(i:Int)<(k:Int))) (aI (dT (p:=(q:Int)>(0:Int))) (aI (dF (p:=(i:Int)<(k:Int))) (aI (ix (i:Int) (n:Int) 0 1 i) (aI hx (aI (dT (p:=(a:Int)<(q:Int))) (aI (ix (i:Int) (n:Int) 0 1 i) (aI hx (aI (wU32 (a:=((a:Int)+(1000000000:Int))) (r:=(((a+1000000000):Nat):Int))) (aI (ix (i:Int) (n:Int) 0 1 i) (aI (show i+1≤(ns .u32 xs).length∧lspl (ns .u32 xs) i [(nW (a+1000000000))]=(ns .u32 (xs.set i (a+1000000000))) from (ns_set)) (aI (ix (i:Int) (n:Int) 0 1 i) (aI (show ((ns .u32 (xs.set i (a+1000000000))):List Value)[i]? =some (nW (a+1000000000)) from (ns_get_set (by omega))) (aI (wU32 (a:=((((a+1000000000):Nat):Int)-(q:Int))) (r:=(v:Int))) (aI (ix (i:Int) (n:Int) 0 1 i) (aI (show i+1≤(ns .u32 (xs.set i (a+1000000000))).length∧lspl (ns .u32 (xs.set i (a+1000000000))) i [(nW v)]=(ns .u32 (xs.set i v)) from (ns_set2 (by omega))) (aI (wI64 (a:=((i:Int)+(1:Int))) (r:=(((i+1):Nat):Int))) tt)))))))))))))))))
theorem lose_f2(xs ys:List Nat)(n c k e q i a v:Nat)(j:List Value)(hi:k≤i)(hn:i<n)(hc:n≤xs.length)(hm:n<9223372036854775807)(hq:q=1)(ha:a<1000000000)(hx:(ns .u32 xs)[i]? =some (nW a))(hlt:q≤a)(hv:v+q=a):GT (lose_h xs ys n c k e q i j) (lose_h (xs.set i v) ys n c k e 0 (i+1) [(nW q),(nI i),(sl 6 k e),(nI k),bF,bF,(nW q),bT,bT,(nI i),(nI (i+1)),(nW q),(nI i),(sl 6 k e),(nI k),bF,(J j 16),(J j 17),(J j 18),(J j 19),(J j 20),(J j 21),(sl 5 n c),(nI i),(z_02c_0 i),(nW a),(nW q),bF,(J j 28),(J j 29),(J j 30),(J j 31),(J j 32),(J j 33),(sl 5 n c),(nI i),(z_02c_0 i),(nW a),(nW q),(nW v),(z_02c_0 i)]):=
 sR (sc:=[(6,.op (.rwB false)),(2,.op (.rwB true)),(17,.op (.rwB false)),(12,.op (.idx i)),(0,.op (.ld (nW a))),(1,.op (.rwB false)),(6,.op (.idx i)),(0,.op (.ld (nW a))),(1,.op (.rwI (v:Int))),(0,.op (.idx i)),(0,.op (.st (ns .u32 (xs.set i v)))),(4,.op (.rwI (((i+1):Nat):Int))),(3,.stay)]) (by kernel_rfl) (aI (dF (p:=(i:Int)<(k:Int))) (aI (dT (p:=(q:Int)>(0:Int))) (aI (dF (p:=(i:Int)<(k:Int))) (aI (ix (i:Int) (n:Int) 0 1 i) (aI hx (aI (dF (p:=(a:Int)<(q:Int))) (aI (ix (i:Int) (n:Int) 0 1 i) (aI hx (aI (wU32 (a:=((a:Int)-(q:Int))) (r:=(v:Int))) (aI (ix (i:Int) (n:Int) 0 1 i) (aI (show i+1≤(ns .u32 xs).length∧lspl (ns .u32 xs) i [(nW v)]=(ns .u32 (xs.set i v)) from (ns_set)) (aI (wI64 (a:=((i:Int)+(1:Int))) (r:=(((i+1):Nat):Int))) tt))))))))))))
theorem lose_out(xs0 xs ys:List Nat)(n c k e q i:Nat)(j:List Value)(hi:k≤i)(hq:q=0)(hr:GT ⟨Frame.enter Tryz.prog 192 #[(sl 5 n c),(sl 6 k e)] .normal,[],mkH 7 [(5,(cU xs0)),(6,(cU ys))]⟩ (lose_h xs ys n c k e q i j)):CT 192 #[(sl 5 n c),(sl 6 k e)] (mkH 7 [(5,(cU xs0)),(6,(cU ys))]) undef (mkH 7 [(5,(cU xs)),(6,(cU ys))]):=
 sF (sc:=[(6,.op (.rwB false)),(2,.op (.rwB false)),(5,.stay)]) (by kernel_rfl) (aI (dF (p:=(i:Int)<(k:Int))) (aI (dF (p:=(q:Int)>(0:Int))) tt)) hr
theorem lose_loop{s0:AS}{ys:List Nat}{n k e D:Nat}(hly:Lim ys)(hk:k≤ys.length)(hkn:k≤n)(hn:n<9223372036854775807):
  ∀(m:Nat) (xs:List Nat) (q i:Nat) (j:List Value),m=n-i→xs.length=n→Lim xs→i≤n→q≤1→D+q*1000000000^i+1000000000^i*val ((ys.take k).drop i)=val xs→
   GT s0 (lose_h xs ys n n k e q i j)→ ∃zs i' j',k≤i'∧zs.length=n∧Lim zs∧D=val zs∧GT s0 (lose_h zs ys n n k e 0 i' j'):=by
 intro m
 induction m with
 |zero=>
  intro xs q i j hm hx hl hi hq hv hr
  have hin:i=n:=by omega
  subst hin
  have hlt:=val_lt hl
  rw[hx]at hlt
  have hq0:q=0:=by
   rcases Nat.eq_zero_or_pos q with h|h
   ·exact h
   ·have h1:q=1:=by omega
    rw[h1,Nat.one_mul]at hv
    omega
  subst hq0
  refine⟨xs,i,j,hkn,hx,hl,?_,hr⟩
  rw[List.drop_eq_nil_of_le (by rw[List.length_take];omega)]at hv
  exact nil_end hv
 |succ m ih=>
  intro xs q i j hm hx hl hi hq hv hr
  have hP:1000000000^(i+1)=1000000000^i*1000000000:=Nat.pow_succ ..
  by_cases hik:i<k
  ·have ha:=hl.get i
   have hb:=hly.get i
   have h2:val ((ys.take k).drop i)=ys.getD i 0+1000000000*val ((ys.take k).drop (i+1)):=by
    rw[val_drop (by rw[List.length_take];omega),getD_take hik]
   rw[h2]at hv
   by_cases hlt:xs.getD i 0<q+ys.getD i 0
   ·obtain⟨v,hvv⟩: ∃v,v+(q+ys.getD i 0)=xs.getD i 0+1000000000:=⟨xs.getD i 0+1000000000-(q+ys.getD i 0),by omega⟩
    have r:=lose_t1 xs ys n n k e q i (xs.getD i 0) (ys.getD i 0) v j hik (by omega) (by omega) hn (by omega) hb ha hq (ns_get) (ns_get) hlt hvv
    refine ih _ _ _ _ (by omega) (by simpa using hx) (hl.set (by omega)) (by omega) (by omega) ?_ (hr.trans r)
    have h1:=val_set xs i v (by omega)
    rw[hP]
    exact borrow_step hvv h1 hv
   ·obtain⟨v,hvv⟩: ∃v,v+(q+ys.getD i 0)=xs.getD i 0:=⟨xs.getD i 0-(q+ys.getD i 0),by omega⟩
    have r:=lose_f1 xs ys n n k e q i (xs.getD i 0) (ys.getD i 0) v j hik (by omega) (by omega) hn (by omega) hb ha hq (ns_get) (ns_get) (by omega) hvv
    refine ih _ _ _ _ (by omega) (by simpa using hx) (hl.set (by omega)) (by omega) (by omega) ?_ (hr.trans r)
    have h1:=val_set xs i v (by omega)
    rw[hP]
    exact borrow_not hvv h1 hv
  ·by_cases hq1:q=1
   ·subst hq1
    rw[List.drop_eq_nil_of_le (by rw[List.length_take];omega)]at hv
    have hlt0:=val_lt hl
    rw[hx]at hlt0
    have hv':=nil_one hv
    have hin:i<n:=by
     rcases Nat.lt_or_ge i n with h|h
     ·exact h
     ·have:=pow_le h
      omega
    have ha:=hl.get i
    by_cases hlt:xs.getD i 0<1
    ·obtain⟨v,hvv⟩: ∃v,v+1=xs.getD i 0+1000000000:=⟨xs.getD i 0+999999999,by omega⟩
     have r:=lose_t2 xs ys n n k e 1 i (xs.getD i 0) v j (by omega) hin (by omega) hn rfl ha (ns_get) hlt hvv
     refine ih _ _ _ _ (by omega) (by simpa using hx) (hl.set (by omega)) (by omega) (by omega) ?_ (hr.trans r)
     have h1:=val_set xs i v (by omega)
     rw[List.drop_eq_nil_of_le (by rw[List.length_take];omega),hP]
     exact nil_add (borrow_step0 hvv h1 hv')
    ·obtain⟨v,hvv⟩: ∃v,v+1=xs.getD i 0:=⟨xs.getD i 0-1,by omega⟩
     have r:=lose_f2 xs ys n n k e 1 i (xs.getD i 0) v j (by omega) hin (by omega) hn rfl ha (ns_get) (by omega) hvv
     refine ih _ _ _ _ (by omega) (by simpa using hx) (hl.set (by omega)) (by omega) (by omega) ?_ (hr.trans r)
     have h1:=val_set xs i v (by omega)
     rw[List.drop_eq_nil_of_le (by rw[List.length_take];omega),hP]
     exact nil_add (borrow_not0 hvv h1 hv')
   ·have hq0:q=0:=by omega
    subst hq0
    refine⟨xs,i,j,by omega,hx,hl,?_,hr⟩
    rw[List.drop_eq_nil_of_le (by rw[List.length_take];omega)]at hv
    exact nil_end hv
theorem lose_c(n0 bx byy:Nat)(xs ys:List Nat)(k e:Nat)(hb:5≤bx∧bx<n0∧5≤byy∧byy<n0∧bx≠byy)(hlx:Lim xs)(hly:Lim ys)(hk:k≤ys.length)(hkn:k≤xs.length)(hn:xs.length<9223372036854775807)
  (hT:val (ys.take k)≤val xs):
  ∃zs,zs.length=xs.length∧Lim zs∧val zs=val xs-val (ys.take k)∧
   FT 192 #[sl bx xs.length xs.length,sl byy k e] n0 [(bx,cU xs),(byy,cU ys)] undef
    [(bx,some (cU zs)),(byy,some (cU ys))] []:=by
 have r:=lose_in xs ys xs.length xs.length k e
 obtain⟨zs,i',j',h1,h2,h3,h4,h5⟩:=lose_loop (D:=val xs-val (ys.take k)) hly hk hkn hn _ xs 0 0 _ rfl rfl hlx (by omega) (by omega) (by simp;omega) r
 have S:=lose_out xs zs ys xs.length xs.length k e 0 i' j' h1 rfl h5
 refine⟨zs,h2,h3,h4.symm,fsp_flat [bx,byy] [cU xs,cU ys] [cU zs,cU ys] [] [] n0 S rfl rfl rfl ?_ ?_ (by omega) ?_ ?_ rfl (by simp) (by simp) rfl rfl rfl⟩
 ·simp[hb.2.2.2.2]
 ·simp;omega
 ·simp[flat,ns_closed]
 ·simp[flat,ns_closed]
theorem minus_o(xs ys:List Nat)(n c k e:Nat)(hc:n≤xs.length)(hk:k≤ys.length)(hn:n<1099511627776)(hkm:k<1099511627776)(zs0:List Nat)(hz:zs0.length=n)(hc1:FT 192 #[(sl 7 n n),(sl 6 k e)] 8 [(7,(.cells (ns .u32 (xs.take n++List.replicate (n-n) 0)) 121 none false)),(6,(cU ys))] undef [(7,some (cU zs0)),(6,some (cU ys))] []):CT 153 #[(sl 5 n c),(sl 6 k e)] (mkH 7 [(5,(cU xs)),(6,(cU ys))]) (sl 7 (top zs0 n) (top zs0 n)) (mkH 8 [(5,(cU xs)),(6,(cU ys)),(7,(cU zs0))]):=
 sF (sc:=[(9,.call [5] (sl 7 n n) [(5,some (cU xs))] [(.cells (ns .u32 (xs.take n++List.replicate (n-n) 0)) 121 none false)]),(6,.call [7,6] uu [(7,some (cU zs0)),(6,some (cU ys))] []),(4,.call [7] (sl 7 (top zs0 n) (top zs0 n)) [(7,some (cU zs0))] []),(3,.stay)]) (by kernel_rfl) (aI (copied_c 7 5 xs n c n (by omega) (by omega) (by omega) (by omega)) (aI hc1 (aI (trim_c 8 7 zs0 n n (by omega) (by rw[hz];exact Nat.le_refl _) (by omega) (by omega)) tt))) (Gets.refl _)
theorem minus_c(n0 bx byy:Nat)(xs ys:List Nat)(n c k e:Nat)(hb:5≤bx∧bx<n0∧5≤byy∧byy<n0∧bx≠byy)(hlx:Lim xs)(hly:Lim ys)(hc:n≤xs.length)(hk:k≤ys.length)(hn:n<1099511627776)(hkm:k≤n)(hle:val (ys.take k)≤val (xs.take n)):
  ∃zs t,Lim zs∧t≤zs.length∧t≤n∧(0<t→zs.getD (t-1) 0≠0)∧val (zs.take t)=val (xs.take n)-val (ys.take k)∧
   FT 153 #[sl bx n c,sl byy k e] n0 [(bx,cU xs),(byy,cU ys)] (sl n0 t t)
    [(bx,some (cU xs)),(byy,some (cU ys))] [cU zs]:=by
 have hl1:(xs.take n++List.replicate (n-n) 0).length=n:=by rw[List.length_append,List.length_take,List.length_replicate];omega
 have hv1:val (xs.take n++List.replicate (n-n) 0)=val (xs.take n):=by rw[val_append,val_replicate,Nat.mul_zero,Nat.add_zero]
 obtain⟨zs,h1,h2,h3,h4⟩:=lose_c 8 7 6 (xs.take n++List.replicate (n-n) 0) ys k e (by omega) ((hlx.take n).append (Lim.replicate _)) hly hk (by rw[hl1];omega) (by rw[hl1];omega) (by rw[hv1];exact hle)
 rw[hl1]at h1 h4
 have S:=minus_o xs ys n c k e hc hk hn (by omega) zs h1 h4
 have htl:=top_le zs n
 refine⟨zs,top zs n,h2,by rw[h1];exact htl,htl,top_pos zs _,?_,fsp_flat [bx,byy] [cU xs,cU ys] [cU xs,cU ys] [7] [cU zs] n0 S rfl rfl rfl ?_ ?_ (by omega) ?_ ?_ ?_ (by simp) (by simp) rfl rfl rfl⟩
 ·rw[top_val,List.take_of_length_le (by rw[h1];exact Nat.le_refl _),h3,hv1]
 ·simp[hb.2.2.2.2]
 ·simp;omega
 ·simp[flat,ns_closed]
 ·simp[flat,ns_closed]
 ·simp[flat,ns_closed,AObj.ro]
noncomputable section
abbrev z_fb9_0(xs ys:List Nat):List (Nat×Option AObj):=[(5,some (cU xs)),(6,some (cU ys))]
abbrev z_fb9_1(xs ys zs:List Nat):List (Nat×AObj):=[(5,(cU xs)),(6,(cU ys)),(10,(cU zs))]
end
theorem np_ff(xs ys:List Nat)(n c k e:Nat)(zs:List Nat)(t:Nat)(hc1:(FT 151 #[(sl 5 n c),(sl 6 k e)] 10 [(5,(cU xs)),(6,(cU ys))] (sl 10 t t) (z_fb9_0 xs ys) [(cU zs)])):CT 114 #[(.agg #[bF,(sl 5 n c)]),(.agg #[bF,(sl 6 k e)])] (mkH 7 [(5,(cU xs)),(6,(cU ys))]) (.agg #[bF,(sl 10 t t)]) (mkH 11 (z_fb9_1 xs ys zs)):=
 sF (sc:=[(17,.drwM [] [⟨6,[5,6],(sl 10 t t),(z_fb9_0 xs ys),[(cU zs)]⟩,⟨7,[10],(.agg #[bF,(sl 10 t t)]),[(10,some (cU zs))],[]⟩]),(1,.stay)]) (by kernel_rfl) (aI (aI tt (aI tt (aI tt (aI tt (aI tt (aI tt (aI hc1 (aI (sg_fc 11 10 zs t t (by omega)) (aI tt tt))))))))) tt) (Gets.refl _)
theorem np_tt(xs ys:List Nat)(n c k e:Nat)(zs:List Nat)(t:Nat)(ht:0<t)(hc1:(FT 151 #[(sl 5 n c),(sl 6 k e)] 10 [(5,(cU xs)),(6,(cU ys))] (sl 10 t t) (z_fb9_0 xs ys) [(cU zs)])):CT 114 #[(.agg #[bT,(sl 5 n c)]),(.agg #[bT,(sl 6 k e)])] (mkH 7 [(5,(cU xs)),(6,(cU ys))]) (.agg #[bT,(sl 10 t t)]) (mkH 11 (z_fb9_1 xs ys zs)):=
 sF (sc:=[(17,.drwM [] [⟨6,[5,6],(sl 10 t t),(z_fb9_0 xs ys),[(cU zs)]⟩,⟨7,[10],(.agg #[bT,(sl 10 t t)]),[(10,some (cU zs))],[]⟩]),(1,.stay)]) (by kernel_rfl) (aI (aI tt (aI tt (aI tt (aI tt (aI tt (aI tt (aI hc1 (aI (sg_tc 11 10 zs t t (by omega) ht) (aI tt tt))))))))) tt) (Gets.refl _)
theorem np_ftl(xs ys:List Nat)(n c k e:Nat)(q:Int)(hq:q<0)(hc1:(FT 152 #[(sl 5 n c),(sl 6 k e)] 10 [(5,(cU xs)),(6,(cU ys))] (.int .i64 q) (z_fb9_0 xs ys) []))(zs:List Nat)(t:Nat)(ht:0<t)(hc3:(FT 153 #[(sl 6 k e),(sl 5 n c)] 10 [(6,(cU ys)),(5,(cU xs))] (sl 10 t t) [(6,some (cU ys)),(5,some (cU xs))] [(cU zs)])):CT 114 #[(.agg #[bF,(sl 5 n c)]),(.agg #[bT,(sl 6 k e)])] (mkH 7 [(5,(cU xs)),(6,(cU ys))]) (.agg #[bT,(sl 10 t t)]) (mkH 11 (z_fb9_1 xs ys zs)):=
 sF (sc:=[(24,.call [5,6] (.int .i64 q) (z_fb9_0 xs ys) []),(0,.op (.rwB true)),(9,.drwM [] [⟨6,[6,5],(sl 10 t t),[(6,some (cU ys)),(5,some (cU xs))],[(cU zs)]⟩,⟨7,[10],(.agg #[bT,(sl 10 t t)]),[(10,some (cU zs))],[]⟩]),(1,.stay)]) (by kernel_rfl) (aI hc1 (aI (dT (p:=q<(0:Int))) (aI (aI tt (aI tt (aI tt (aI tt (aI tt (aI tt (aI hc3 (aI (sg_tc 11 10 zs t t (by omega) ht) (aI tt tt))))))))) tt))) (Gets.refl _)
theorem np_ftg(xs ys:List Nat)(n c k e:Nat)(q:Int)(hq: ¬q<0)(hc1:(FT 152 #[(sl 5 n c),(sl 6 k e)] 10 [(5,(cU xs)),(6,(cU ys))] (.int .i64 q) (z_fb9_0 xs ys) []))(zs:List Nat)(t:Nat)(hc3:(FT 153 #[(sl 5 n c),(sl 6 k e)] 10 [(5,(cU xs)),(6,(cU ys))] (sl 10 t t) (z_fb9_0 xs ys) [(cU zs)])):CT 114 #[(.agg #[bF,(sl 5 n c)]),(.agg #[bT,(sl 6 k e)])] (mkH 7 [(5,(cU xs)),(6,(cU ys))]) (.agg #[bF,(sl 10 t t)]) (mkH 11 (z_fb9_1 xs ys zs)):=
 sF (sc:=[(24,.call [5,6] (.int .i64 q) (z_fb9_0 xs ys) []),(0,.op (.rwB false)),(4,.drwM [] [⟨6,[5,6],(sl 10 t t),(z_fb9_0 xs ys),[(cU zs)]⟩,⟨7,[10],(.agg #[bF,(sl 10 t t)]),[(10,some (cU zs))],[]⟩]),(1,.stay)]) (by kernel_rfl) (aI hc1 (aI (dF (p:=q<(0:Int))) (aI (aI tt (aI tt (aI tt (aI tt (aI tt (aI tt (aI hc3 (aI (sg_fc 11 10 zs t t (by omega)) (aI tt tt))))))))) tt))) (Gets.refl _)
theorem np_tfl(xs ys:List Nat)(n c k e:Nat)(q:Int)(hq:q<0)(hc1:(FT 152 #[(sl 5 n c),(sl 6 k e)] 10 [(5,(cU xs)),(6,(cU ys))] (.int .i64 q) (z_fb9_0 xs ys) []))(zs:List Nat)(t:Nat)(hc3:(FT 153 #[(sl 6 k e),(sl 5 n c)] 10 [(6,(cU ys)),(5,(cU xs))] (sl 10 t t) [(6,some (cU ys)),(5,some (cU xs))] [(cU zs)])):CT 114 #[(.agg #[bT,(sl 5 n c)]),(.agg #[bF,(sl 6 k e)])] (mkH 7 [(5,(cU xs)),(6,(cU ys))]) (.agg #[bF,(sl 10 t t)]) (mkH 11 (z_fb9_1 xs ys zs)):=
 sF (sc:=[(24,.call [5,6] (.int .i64 q) (z_fb9_0 xs ys) []),(0,.op (.rwB true)),(9,.drwM [] [⟨6,[6,5],(sl 10 t t),[(6,some (cU ys)),(5,some (cU xs))],[(cU zs)]⟩,⟨7,[10],(.agg #[bF,(sl 10 t t)]),[(10,some (cU zs))],[]⟩]),(1,.stay)]) (by kernel_rfl) (aI hc1 (aI (dT (p:=q<(0:Int))) (aI (aI tt (aI tt (aI tt (aI tt (aI tt (aI tt (aI hc3 (aI (sg_fc 11 10 zs t t (by omega)) (aI tt tt))))))))) tt))) (Gets.refl _)
theorem np_tfg(xs ys:List Nat)(n c k e:Nat)(q:Int)(hq: ¬q<0)(hc1:(FT 152 #[(sl 5 n c),(sl 6 k e)] 10 [(5,(cU xs)),(6,(cU ys))] (.int .i64 q) (z_fb9_0 xs ys) []))(zs:List Nat)(t:Nat)(ht:0<t)(hc3:(FT 153 #[(sl 5 n c),(sl 6 k e)] 10 [(5,(cU xs)),(6,(cU ys))] (sl 10 t t) (z_fb9_0 xs ys) [(cU zs)])):CT 114 #[(.agg #[bT,(sl 5 n c)]),(.agg #[bF,(sl 6 k e)])] (mkH 7 [(5,(cU xs)),(6,(cU ys))]) (.agg #[bT,(sl 10 t t)]) (mkH 11 (z_fb9_1 xs ys zs)):=
 sF (sc:=[(24,.call [5,6] (.int .i64 q) (z_fb9_0 xs ys) []),(0,.op (.rwB false)),(4,.drwM [] [⟨6,[5,6],(sl 10 t t),(z_fb9_0 xs ys),[(cU zs)]⟩,⟨7,[10],(.agg #[bT,(sl 10 t t)]),[(10,some (cU zs))],[]⟩]),(1,.stay)]) (by kernel_rfl) (aI hc1 (aI (dF (p:=q<(0:Int))) (aI (aI tt (aI tt (aI tt (aI tt (aI tt (aI tt (aI hc3 (aI (sg_tc 11 10 zs t t (by omega) ht) (aI tt tt))))))))) tt))) (Gets.refl _)
theorem np_tfe(xs ys:List Nat)(n c k e:Nat)(q:Int)(hq: ¬q<0)(hc1:(FT 152 #[(sl 5 n c),(sl 6 k e)] 10 [(5,(cU xs)),(6,(cU ys))] (.int .i64 q) (z_fb9_0 xs ys) []))(zs:List Nat)(t:Nat)(ht:t=0)(hc3:(FT 153 #[(sl 5 n c),(sl 6 k e)] 10 [(5,(cU xs)),(6,(cU ys))] (sl 10 t t) (z_fb9_0 xs ys) [(cU zs)])):CT 114 #[(.agg #[bT,(sl 5 n c)]),(.agg #[bF,(sl 6 k e)])] (mkH 7 [(5,(cU xs)),(6,(cU ys))]) (.agg #[bF,(sl 10 t t)]) (mkH 11 (z_fb9_1 xs ys zs)):=
 sF (sc:=[(24,.call [5,6] (.int .i64 q) (z_fb9_0 xs ys) []),(0,.op (.rwB false)),(4,.drwM [] [⟨6,[5,6],(sl 10 t t),(z_fb9_0 xs ys),[(cU zs)]⟩,⟨7,[10],(.agg #[bF,(sl 10 t t)]),[(10,some (cU zs))],[]⟩]),(1,.stay)]) (by kernel_rfl) (aI hc1 (aI (dF (p:=q<(0:Int))) (aI (aI tt (aI tt (aI tt (aI tt (aI tt (aI tt (aI hc3 (aI (sg_zc 11 10 zs t t (by omega) ht) (aI tt tt))))))))) tt))) (Gets.refl _)
theorem np_c(n0 bx byy:Nat)(xs ys:List Nat)(n c k e:Nat)(sx sy:Bool)(hb:5≤bx∧bx<n0∧5≤byy∧byy<n0∧bx≠byy)(hlx:Lim xs)(hly:Lim ys)(hc:n≤xs.length)(hk:k≤ys.length)(hn:n<1099511627776)(hkm:k<1099511627776)
  (hx:0<n→xs.getD (n-1) 0≠0) (hy:0<k→ys.getD (k-1) 0≠0) (hsx:sx=true→0<n) (hsy:sy=true→0<k):
  ∃sg zs t,Lim zs∧t≤zs.length∧t≤max n k+1∧(0<t→zs.getD (t-1) 0≠0)∧(sg=true→0<t)∧iv sg (val (zs.take t))=iv sx (val (xs.take n))+iv sy (val (ys.take k))∧
   FT 114 #[.agg #[.bool sx,sl bx n c],.agg #[.bool sy,sl byy k e]] n0 [(bx,cU xs),(byy,cU ys)] (.agg #[.bool sg,sl n0 t t])
    [(bx,some (cU xs)),(byy,some (cU ys))] [cU zs]:=by
 cases sx with
 |false=>cases sy with
  |false=>
   obtain⟨zs,t,h1,h2,h3,h4,h5,h6⟩:=plus_c 10 5 6 xs ys n c k e (by omega) hlx hly hc hk hn hkm
   exact⟨false,zs,t,h1,h2,by omega,h4,(by intro q;cases q),by simp only[iv_f,iv_t];omega,fsp_flat [bx,byy] [cU xs,cU ys] [cU xs,cU ys] [10] [cU zs] n0 (np_ff xs ys n c k e zs t h6) rfl rfl rfl (by simp[hb.2.2.2.2]) (by simp;omega) (by omega) (by simp[flat,ns_closed]) (by simp[flat,ns_closed]) (by simp[flat,ns_closed,AObj.ro]) (by simp) (by simp) rfl rfl rfl⟩
  |true=>
   have hq:=cmp_c 10 5 6 xs ys n c k e (by omega) hlx hly hc hk hn hkm hx hy
   have hpy:=val_pos (hsy rfl) hy
   by_cases hlt:val (xs.take n)<val (ys.take k)
   ·have hle:val (xs.take n)≤val (ys.take k):=by omega
    obtain⟨zs,t,h1,h2,h3,h4,h5,h6⟩:=minus_c 10 6 5 ys xs k e n c (by omega) hly hlx hk hc hkm (len_le_of_val hly hk hx hle) hle
    have ht:0<t:=len_pos (zs:=zs) (by omega)
    exact⟨true,zs,t,h1,h2,by omega,h4,(fun _=>ht),by simp only[iv_f,iv_t];omega,fsp_flat [bx,byy] [cU xs,cU ys] [cU xs,cU ys] [10] [cU zs] n0 (np_ftl xs ys n c k e _ (cmpN_neg.2 hlt) hq zs t ht h6) rfl rfl rfl (by simp[hb.2.2.2.2]) (by simp;omega) (by omega) (by simp[flat,ns_closed]) (by simp[flat,ns_closed]) (by simp[flat,ns_closed,AObj.ro]) (by simp) (by simp) rfl rfl rfl⟩
   ·have hle:val (ys.take k)≤val (xs.take n):=by omega
    obtain⟨zs,t,h1,h2,h3,h4,h5,h6⟩:=minus_c 10 5 6 xs ys n c k e (by omega) hlx hly hc hk hn (len_le_of_val hlx hc hy hle) hle
    exact⟨false,zs,t,h1,h2,by omega,h4,(by intro q;cases q),by simp only[iv_f,iv_t];omega,fsp_flat [bx,byy] [cU xs,cU ys] [cU xs,cU ys] [10] [cU zs] n0 (np_ftg xs ys n c k e _ (fun h=>hlt (cmpN_neg.1 h)) hq zs t h6) rfl rfl rfl (by simp[hb.2.2.2.2]) (by simp;omega) (by omega) (by simp[flat,ns_closed]) (by simp[flat,ns_closed]) (by simp[flat,ns_closed,AObj.ro]) (by simp) (by simp) rfl rfl rfl⟩
 |true=>cases sy with
  |true=>
   have hpx:=val_pos (hsx rfl) hx
   obtain⟨zs,t,h1,h2,h3,h4,h5,h6⟩:=plus_c 10 5 6 xs ys n c k e (by omega) hlx hly hc hk hn hkm
   have ht:0<t:=len_pos (zs:=zs) (by omega)
   exact⟨true,zs,t,h1,h2,by omega,h4,(fun _=>ht),by simp only[iv_f,iv_t];omega,fsp_flat [bx,byy] [cU xs,cU ys] [cU xs,cU ys] [10] [cU zs] n0 (np_tt xs ys n c k e zs t ht h6) rfl rfl rfl (by simp[hb.2.2.2.2]) (by simp;omega) (by omega) (by simp[flat,ns_closed]) (by simp[flat,ns_closed]) (by simp[flat,ns_closed,AObj.ro]) (by simp) (by simp) rfl rfl rfl⟩
  |false=>
   have hq:=cmp_c 10 5 6 xs ys n c k e (by omega) hlx hly hc hk hn hkm hx hy
   have hpx:=val_pos (hsx rfl) hx
   by_cases hlt:val (xs.take n)<val (ys.take k)
   ·have hle:val (xs.take n)≤val (ys.take k):=by omega
    obtain⟨zs,t,h1,h2,h3,h4,h5,h6⟩:=minus_c 10 6 5 ys xs k e n c (by omega) hly hlx hk hc hkm (len_le_of_val hly hk hx hle) hle
    exact⟨false,zs,t,h1,h2,by omega,h4,(by intro q;cases q),by simp only[iv_f,iv_t];omega,fsp_flat [bx,byy] [cU xs,cU ys] [cU xs,cU ys] [10] [cU zs] n0 (np_tfl xs ys n c k e _ (cmpN_neg.2 hlt) hq zs t h6) rfl rfl rfl (by simp[hb.2.2.2.2]) (by simp;omega) (by omega) (by simp[flat,ns_closed]) (by simp[flat,ns_closed]) (by simp[flat,ns_closed,AObj.ro]) (by simp) (by simp) rfl rfl rfl⟩
   ·have hle:val (ys.take k)≤val (xs.take n):=by omega
    obtain⟨zs,t,h1,h2,h3,h4,h5,h6⟩:=minus_c 10 5 6 xs ys n c k e (by omega) hlx hly hc hk hn (len_le_of_val hlx hc hy hle) hle
    rcases Nat.eq_zero_or_pos t with ht|ht
    ·have h0:val (zs.take t)=0:=by rw[ht];rfl
     exact⟨false,zs,t,h1,h2,by omega,h4,(by intro q;cases q),by simp only[iv_f,iv_t];omega,fsp_flat [bx,byy] [cU xs,cU ys] [cU xs,cU ys] [10] [cU zs] n0 (np_tfe xs ys n c k e _ (fun h=>hlt (cmpN_neg.1 h)) hq zs t ht h6) rfl rfl rfl (by simp[hb.2.2.2.2]) (by simp;omega) (by omega) (by simp[flat,ns_closed]) (by simp[flat,ns_closed]) (by simp[flat,ns_closed,AObj.ro]) (by simp) (by simp) rfl rfl rfl⟩
    ·exact⟨true,zs,t,h1,h2,by omega,h4,(fun _=>ht),by simp only[iv_f,iv_t];omega,fsp_flat [bx,byy] [cU xs,cU ys] [cU xs,cU ys] [10] [cU zs] n0 (np_tfg xs ys n c k e _ (fun h=>hlt (cmpN_neg.1 h)) hq zs t ht h6) rfl rfl rfl (by simp[hb.2.2.2.2]) (by simp;omega) (by omega) (by simp[flat,ns_closed]) (by simp[flat,ns_closed]) (by simp[flat,ns_closed,AObj.ro]) (by simp) (by simp) rfl rfl rfl⟩
noncomputable section
end
theorem sum_o(xs ys:List Nat)(n c k e:Nat)(sx sy:Bool)(sg:Bool)(zs:List Nat)(t:Nat)(hc1:(FT 114 #[(.agg #[(.bool sx),(sl 5 n c)]),(.agg #[(.bool sy),(sl 6 k e)])] 11 [(5,(cU xs)),(6,(cU ys))] (.agg #[(.bool sg),(sl 11 t t)]) [(5,some (cU xs)),(6,some (cU ys))] [(cU zs)])):CT 272 #[(.agg #[]),(.agg #[(.bool sx),(sl 5 n c)]),(.agg #[(.bool sy),(sl 6 k e)])] (mkH 7 [(5,(cU xs)),(6,(cU ys))]) (.agg #[(.bool sg),(sl 11 t t)]) (mkH 12 [(5,(cU xs)),(6,(cU ys)),(11,(cU zs))]):=
 sF (sc:=[(11,.call [5,6] (.agg #[(.bool sg),(sl 11 t t)]) [(5,some (cU xs)),(6,some (cU ys))] [(cU zs)]),(3,.stay)]) (by kernel_rfl) (aI hc1 tt) (Gets.refl _)
theorem sum_c(n0 bx byy:Nat)(xs ys:List Nat)(n c k e:Nat)(sx sy:Bool)(hb:5≤bx∧bx<n0∧5≤byy∧byy<n0∧bx≠byy)(hlx:Lim xs)(hly:Lim ys)(hc:n≤xs.length)(hk:k≤ys.length)(hn:n<1099511627776)(hkm:k<1099511627776)
  (hx:0<n→xs.getD (n-1) 0≠0) (hy:0<k→ys.getD (k-1) 0≠0) (hsx:sx=true→0<n) (hsy:sy=true→0<k):
  ∃sg zs t,Lim zs∧t≤zs.length∧t≤max n k+1∧(0<t→zs.getD (t-1) 0≠0)∧(sg=true→0<t)∧iv sg (val (zs.take t))=iv sx (val (xs.take n))+iv sy (val (ys.take k))∧
   FT 272 #[.agg #[],.agg #[.bool sx,sl bx n c],.agg #[.bool sy,sl byy k e]] n0 [(bx,cU xs),(byy,cU ys)] (.agg #[.bool sg,sl n0 t t])
    [(bx,some (cU xs)),(byy,some (cU ys))] [cU zs]:=by
 obtain⟨sg,zs,t,h1,h2,h3,h4,h5,h6,h7⟩:=np_c 11 5 6 xs ys n c k e sx sy (by omega) hlx hly hc hk hn hkm hx hy hsx hsy
 exact⟨sg,zs,t,h1,h2,h3,h4,h5,h6,fsp_flat [bx,byy] [cU xs,cU ys] [cU xs,cU ys] [11] [cU zs] n0 (sum_o xs ys n c k e sx sy sg zs t h7) rfl rfl rfl (by simp[hb.2.2.2.2]) (by simp;omega) (by omega) (by simp[flat,ns_closed]) (by simp[flat,ns_closed]) (by simp[flat,ns_closed,AObj.ro]) (by simp) (by simp) rfl rfl rfl⟩
end Go.Proofs.YtldoiilgfcpipaaGreatDoor
