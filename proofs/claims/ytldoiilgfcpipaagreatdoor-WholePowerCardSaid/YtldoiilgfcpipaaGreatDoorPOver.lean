import Derived.Test.YtldoiilgfcpipaaGreatDoorPLoseMany
import Derived.Test.YtldoiilgfcpipaaGreatDoorPCmp
import Derived.Test.YtldoiilgfcpipaaGreatDoorLE
import Derived.Test.YtldoiilgfcpipaaGreatDoorPCnt
set_option linter.unusedVariables false
set_option linter.unusedSimpArgs false
set_option maxRecDepth 100000
namespace Go.Proofs.YtldoiilgfcpipaaGreatDoor
open Go Go.AE Seg
theorem ov_l(xs ys:List Nat)(n c k e:Nat)(q:Int)(hq:q<0)(hc0:FT 152 #[(sl 5 n c),(sl 6 k e)] 7 [(5,(cU xs)),(6,(cU ys))] (.int .i64 q) [(5,some (cU xs)),(6,some (cU ys))] []):CT 116 #[(sl 5 n c),(sl 6 k e)] (Ag 7 [(5,(cU xs)),(6,(cU ys))]) (.tuple #[nS,(sl 5 n c)]) (Ag 7 [(5,(cU xs)),(6,(cU ys))]):=
 sF (sc:=[(10,.call [5,6] (.int .i64 q) [(5,some (cU xs)),(6,some (cU ys))] []),(0,.op (.rwB true)),(9,.stay)]) kr (aI hc0 (aI (dT (p:=q<(0:Int))) tt)) (Gets.refl _)
theorem ov_1(xs ys:List Nat)(n c k e:Nat)(q:Int)(hq: ¬q<0)(hc:n≤xs.length)(hm:n<1099511627776)(ha:ys.getD 0 0<1000000000)(hy:1≤ys.length)(hc0:FT 152 #[(sl 5 n c),(sl 6 1 e)] 7 [(5,(cU xs)),(6,(cU ys))] (.int .i64 q) [(5,some (cU xs)),(6,some (cU ys))] [])(zs:List Nat)(r:Nat)(hz:zs.length=n)(hc2:FT 155 #[(sl 7 n n),(nU (ys.getD 0 0))] 8 [(7,(cU (xs.take n++List.replicate (n-n) 0)))] (nU r) [(7,some (cU zs))] [])(rs:List Nat)(u:Nat)(hc4:FT 157 #[(nU r)] 8 [] (sl 8 u u) [] [(cU rs)]):CT 116 #[(sl 5 n c),(sl 6 1 e)] (Ag 7 [(5,(cU xs)),(6,(cU ys))]) (.tuple #[(sl 7 (top zs n) (top zs n)),(sl 8 u u)]) (Ag 9 [(5,(cU xs)),(6,(cU ys)),(7,(cU zs)),(8,(cU rs))]):=
 sF (sc:=[(10,.call [5,6] (.int .i64 q) [(5,some (cU xs)),(6,some (cU ys))] []),(0,.op (.rwB false)),(16,.call [5] (sl 7 n n) [(5,some (cU xs))] [(cU (xs.take n++List.replicate (n-n) 0))]),(7,.op (.ld (nW (ys.getD 0 0)))),(0,.op (.rwI (((ys.getD 0 0):Nat):Int))),(0,.call [7] (nU r) [(7,some (cU zs))] []),(5,.call [7] (sl 7 (top zs n) (top zs n)) [(7,some (cU zs))] []),(1,.call [] (sl 8 u u) [] [(cU rs)]),(4,.stay)]) kr (aI hc0 (aI (dF (p:=q<(0:Int))) (aI (Sy 7 5 xs n c n om om om om) (aI (Ar (k:=.u32) (xs:=ys) (i:=0)) (aI (Gc (a:=(((ys.getD 0 0):Nat):Int)) (r:=(((ys.getD 0 0):Nat):Int))) (aI hc2 (aI (So 8 7 zs n n om om om om) (aI hc4 tt)))))))) (Gets.refl _)
theorem ov_2(xs ys:List Nat)(n c k e:Nat)(q:Int)(hq: ¬q<0)(hc0:FT 152 #[(sl 5 n c),(sl 6 (k+2) e)] 7 [(5,(cU xs)),(6,(cU ys))] (.int .i64 q) [(5,some (cU xs)),(6,some (cU ys))] [])(zs rs:List Nat)(t u:Nat)(hc2:FT 158 #[(sl 5 n c),(sl 6 (k+2) e)] 7 [(5,(cU xs)),(6,(cU ys))] (.tuple #[(sl 7 t t),(sl 8 u u)]) [(5,some (cU xs)),(6,some (cU ys))] [(cU zs),(cU rs)]):CT 116 #[(sl 5 n c),(sl 6 (k+2) e)] (Ag 7 [(5,(cU xs)),(6,(cU ys))]) (.tuple #[(sl 7 t t),(sl 8 u u)]) (Ag 9 [(5,(cU xs)),(6,(cU ys)),(7,(cU zs)),(8,(cU rs))]):=
 sF (sc:=[(10,.call [5,6] (.int .i64 q) [(5,some (cU xs)),(6,some (cU ys))] []),(0,.op (.rwB false)),(8,.op (.rwB false)),(7,.call [5,6] (.tuple #[(sl 7 t t),(sl 8 u u)]) [(5,some (cU xs)),(6,some (cU ys))] [(cU zs),(cU rs)]),(6,.stay)]) kr (aI hc0 (aI (dF (p:=q<(0:Int))) (aI (eF (a:=(((k+2):Nat):Int)) (b:=(1:Int))) (aI hc2 tt)))) (Gets.refl _)
theorem ov_c(n0 bx byy:Nat)(xs ys:List Nat)(n c k e:Nat)(hb:5≤bx∧bx<n0∧5≤byy∧byy<n0∧bx≠byy)(hlx:Lim xs)(hly:Lim ys)(hc:n≤xs.length)(hk:k≤ys.length)(hm:n+1<1099511627776)(hkm:k<1099511627776)(hx:0<n→xs.getD (n-1) 0≠0)(hy:0<k→ys.getD (k-1) 0≠0)(h0:0<k):
  (val (xs.take n)<val (ys.take k)∧FT 116 #[sl bx n c,sl byy k e] n0 [(bx,cU xs),(byy,cU ys)] (.tuple #[.slice none 0 0,sl bx n c]) [(bx,some (cU xs)),(byy,some (cU ys))] [])∨
  (val (ys.take k)≤val (xs.take n)∧ ∃zs t rs u,Lim zs∧t≤zs.length∧t≤n∧(0<t→zs.getD (t-1) 0≠0)∧val (zs.take t)=val (xs.take n)/val (ys.take k)∧
   Lim rs∧u≤rs.length∧u≤n+2∧(0<u→rs.getD (u-1) 0≠0)∧val (rs.take u)=val (xs.take n)%val (ys.take k)∧
   FT 116 #[sl bx n c,sl byy k e] n0 [(bx,cU xs),(byy,cU ys)] (.tuple #[sl n0 t t,sl (n0+1) u u]) [(bx,some (cU xs)),(byy,some (cU ys))] [cU zs,cU rs]):=by
 have hq:=cmp_c 7 5 6 xs ys n c k e om hlx hly hc hk om hkm hx hy
 by_cases hlt:val (xs.take n)<val (ys.take k)
 ·left
  refine⟨hlt,?_⟩
  have S:=ov_l xs ys n c k e _ (Kh.2 hlt) hq
  exact ff [bx,byy] [cU xs,cU ys] [cU xs,cU ys] [] [] n0 S (hnd:=by simp[hb.2.2.2.2])
 ·right
  have hge: ¬Hg (val (xs.take n)) (val (ys.take k))<0:=fun q=>hlt (Kh.1 q)
  have hkn:k≤n:=by
   rcases Nat.lt_or_ge n k with h|h
   ·exact absurd (val_lt_of_len hlx hc h hy) hlt
   ·exact h
  refine⟨by omega,?_⟩
  have hk2:k=1∨ ∃k',k=k'+2:=by
   rcases Nat.lt_or_ge k 2 with h|h
   ·exact .inl om
   ·exact .inr ⟨k-2,by omega⟩
  rcases hk2 with rfl|⟨k',rfl⟩
  ·have ha:=hly.get 0
   have ha0:ys.getD 0 0≠0:=hy h0
   have lx:(xs.take n++List.replicate (n-n) 0).length=n:=by rw[List.length_append,List.length_take,List.length_replicate];omega
   have vx:val (xs.take n++List.replicate (n-n) 0)=val (xs.take n):=by rw[val_append,val_replicate,Nat.mul_zero,Nat.add_zero]
   have vy:val (ys.take 1)=ys.getD 0 0:=by rw[show (1:Nat)=0+1 from rfl,val_take_succ,List.take_zero,show val []=0 from rfl];simp
   obtain⟨zs,r,a1,a2,a3,a4,T⟩:=sh_c 8 7 (xs.take n++List.replicate (n-n) 0) n n (ys.getD 0 0) om ((hlx.take n).append (Lim.replicate _)) lx om om om
   rw[vx]at a4
   obtain⟨rs,u,b1,b2,b3,b4,b5,T2⟩:=nf_c 8 r om om
   have S:=ov_1 xs ys n c 1 e _ hge hc om ha om hq zs r a1 T rs u T2
   have htq:=top_le zs n
   have hdm:=(Nat.div_mod_unique (show 0<ys.getD 0 0 by omega)).2 (show r+ys.getD 0 0*val zs=val (xs.take n)∧r<ys.getD 0 0 from⟨by omega,a3⟩)
   refine⟨zs,top zs n,rs,u,a2,by omega,htq,top_pos _ _,?_,b1,by omega,by omega,b4,?_,ff [bx,byy] [cU xs,cU ys] [cU xs,cU ys] [7,8] [cU zs,cU rs] n0 S (hnd:=by simp[hb.2.2.2.2])⟩
   ·rw[top_val,List.take_of_length_le om,vy,hdm.1]
   ·rw[b5,vy,hdm.2]
  ·obtain⟨zs,t,rs,u,a1,a2,a3,a4,a5,b1,b2,b3,b4,b5,T⟩:=ld_c 7 5 6 xs ys n c k' e (n-(k'+2)) om hlx hly hc hk om om (hy h0)
   have S:=ov_2 xs ys n c k' e _ hge hq zs rs t u T
   exact⟨zs,t,rs,u,a1,a2,a3,a4,a5,b1,b2,by omega,b4,b5,ff [bx,byy] [cU xs,cU ys] [cU xs,cU ys] [7,8] [cU zs,cU rs] n0 S (hnd:=by simp[hb.2.2.2.2])⟩
theorem pr_dr(xs ys ms:List Nat)(n c k e l g:Nat)(ps:List Nat)(pn:Nat)(hc1:FT 179 #[(sl 9 2 2)] 10 [(9,(.cells [(sl 7 n c),(sl 8 k e)] 75 none false)),(7,(cU xs)),(8,(cU ys))] (sl 10 pn pn) [(9,some (.cells [(sl 7 n c),(sl 8 k e)] 75 none false)),(7,some (cU xs)),(8,some (cU ys))] [(cU ps)])(zs:List Nat)(t:Nat)(rs:List Nat)(u:Nat)(hc3:FT 116 #[(sl 10 pn pn),(sl 6 l g)] 11 [(10,(cU ps)),(6,(cU ms))] (.tuple #[(sl 11 t t),(sl 12 u u)]) [(10,some (cU ps)),(6,some (cU ms))] [(cU zs),(cU rs)]):CT 180 #[(sl 7 n c),(sl 8 k e),(pt 5)] (Ag 9 [(5,(.cells [(sl 6 l g)] 75 none false)),(6,(cU ms)),(7,(cU xs)),(8,(cU ys))]) (sl 12 u u) (Ag 13 [(5,(.cells [(sl 6 l g)] 75 none false)),(6,(cU ms)),(7,(cU xs)),(8,(cU ys)),(12,(cU rs))]):=
 sF (sc:=[(5,.drwB [] [⟨3,[9,7,8],(sl 10 pn pn),[(9,some (.cells [(sl 7 n c),(sl 8 k e)] 75 none false)),(7,some (cU xs)),(8,some (cU ys))],[(cU ps)]⟩,⟨5,[10,6],(.tuple #[(sl 11 t t),(sl 12 u u)]),[(10,some (cU ps)),(6,some (cU ms))],[(cU zs),(cU rs)]⟩] ⟨#[(sl 7 n c),(sl 8 k e),(pt 5),uu,uu,nS,(sl 11 t t),(sl 12 u u),(.tuple #[(sl 11 t t),(sl 12 u u)]),(sl 7 n c),(sl 8 k e),(sl 9 2 2),(sl 10 pn pn),(sl 6 l g),(.tuple #[(sl 11 t t),(sl 12 u u)]),(sl 11 t t),(sl 12 u u),uu],13,[(5,(.cells [(sl 6 l g)] 75 none false)),(6,(cU ms)),(7,(cU xs)),(8,(cU ys)),(9,(.cells [(sl 7 n c),(sl 8 k e)] 75 none false)),(10,(cU ps)),(11,(cU zs)),(12,(cU rs))]⟩),(6,.stay)]) kr (aI (show True∧(True∧(True∧(((True)∧(((some (.cells [(sl 6 l g)] 75 none false):Option AObj)=some (.cells [(sl 6 l g)] 75 none false))∧(True))∧(((FT 179 #[(sl 9 2 2)] 10 [(9,(.cells [(sl 7 n c),(sl 8 k e)] 75 none false)),(7,(cU xs)),(8,(cU ys))] (sl 10 pn pn) [(9,some (.cells [(sl 7 n c),(sl 8 k e)] 75 none false)),(7,some (cU xs)),(8,some (cU ys))] [(cU ps)])∧(((some (.cells [(sl 6 l g)] 75 none false):Option AObj)=some (.cells [(sl 6 l g)] 75 none false))∧(True))∧(((FT 116 #[(sl 10 pn pn),(sl 6 l g)] 11 [(10,(cU ps)),(6,(cU ms))] (.tuple #[(sl 11 t t),(sl 12 u u)]) [(10,some (cU ps)),(6,some (cU ms))] [(cU zs),(cU rs)])∧(True)∧(True∧(True∧(True∧(True∧(True∧(Hd ⟨#[(sl 7 n c),(sl 8 k e),(pt 5),uu,uu,nS,(sl 11 t t),(sl 12 u u),(.tuple #[(sl 11 t t),(sl 12 u u)]),(sl 7 n c),(sl 8 k e),(sl 9 2 2),(sl 10 pn pn),(sl 6 l g),(.tuple #[(sl 11 t t),(sl 12 u u)]),(sl 11 t t),(sl 12 u u),uu],13,[(5,(.cells [(sl 6 l g)] 75 none false)),(6,(cU ms)),(7,(cU xs)),(8,(cU ys)),(9,(.cells [(sl 7 n c),(sl 8 k e)] 75 none false)),(10,(cU ps)),(11,(cU zs)),(12,(cU rs))]⟩)))))))∧(True)))∧(True)))∧(True)))) from⟨tt,⟨tt,⟨tt,⟨⟨tt,⟨rfl,tt⟩,⟨⟨hc1,⟨rfl,tt⟩,⟨⟨hc3,tt,⟨tt,⟨tt,⟨tt,⟨tt,⟨tt,rfl⟩⟩⟩⟩⟩⟩,tt⟩⟩,tt⟩⟩,tt⟩⟩⟩⟩) tt) (Gets.refl _)
theorem pr_dn(xs ys ms:List Nat)(n c k e l g:Nat)(ps:List Nat)(pn:Nat)(hc1:FT 179 #[(sl 9 2 2)] 10 [(9,(.cells [(sl 7 n c),(sl 8 k e)] 75 none false)),(7,(cU xs)),(8,(cU ys))] (sl 10 pn pn) [(9,some (.cells [(sl 7 n c),(sl 8 k e)] 75 none false)),(7,some (cU xs)),(8,some (cU ys))] [(cU ps)])(hc2:FT 116 #[(sl 10 pn pn),(sl 6 l g)] 11 [(10,(cU ps)),(6,(cU ms))] (.tuple #[nS,(sl 10 pn pn)]) [(10,some (cU ps)),(6,some (cU ms))] []):CT 180 #[(sl 7 n c),(sl 8 k e),(pt 5)] (Ag 9 [(5,(.cells [(sl 6 l g)] 75 none false)),(6,(cU ms)),(7,(cU xs)),(8,(cU ys))]) (sl 10 pn pn) (Ag 11 [(5,(.cells [(sl 6 l g)] 75 none false)),(6,(cU ms)),(7,(cU xs)),(8,(cU ys)),(10,(cU ps))]):=
 sF (sc:=[(5,.drwB [] [⟨3,[9,7,8],(sl 10 pn pn),[(9,some (.cells [(sl 7 n c),(sl 8 k e)] 75 none false)),(7,some (cU xs)),(8,some (cU ys))],[(cU ps)]⟩,⟨5,[10,6],(.tuple #[nS,(sl 10 pn pn)]),[(10,some (cU ps)),(6,some (cU ms))],[]⟩] ⟨#[(sl 7 n c),(sl 8 k e),(pt 5),uu,uu,nS,nS,(sl 10 pn pn),(.tuple #[nS,(sl 10 pn pn)]),(sl 7 n c),(sl 8 k e),(sl 9 2 2),(sl 10 pn pn),(sl 6 l g),(.tuple #[nS,(sl 10 pn pn)]),nS,(sl 10 pn pn),uu],11,[(5,(.cells [(sl 6 l g)] 75 none false)),(6,(cU ms)),(7,(cU xs)),(8,(cU ys)),(9,(.cells [(sl 7 n c),(sl 8 k e)] 75 none false)),(10,(cU ps))]⟩),(6,.stay)]) kr (aI (show True∧(True∧(True∧(((True)∧(((some (.cells [(sl 6 l g)] 75 none false):Option AObj)=some (.cells [(sl 6 l g)] 75 none false))∧(True))∧(((FT 179 #[(sl 9 2 2)] 10 [(9,(.cells [(sl 7 n c),(sl 8 k e)] 75 none false)),(7,(cU xs)),(8,(cU ys))] (sl 10 pn pn) [(9,some (.cells [(sl 7 n c),(sl 8 k e)] 75 none false)),(7,some (cU xs)),(8,some (cU ys))] [(cU ps)])∧(((some (.cells [(sl 6 l g)] 75 none false):Option AObj)=some (.cells [(sl 6 l g)] 75 none false))∧(True))∧(((FT 116 #[(sl 10 pn pn),(sl 6 l g)] 11 [(10,(cU ps)),(6,(cU ms))] (.tuple #[nS,(sl 10 pn pn)]) [(10,some (cU ps)),(6,some (cU ms))] [])∧(True)∧(True∧(True∧(True∧(True∧(True∧(Hd ⟨#[(sl 7 n c),(sl 8 k e),(pt 5),uu,uu,nS,nS,(sl 10 pn pn),(.tuple #[nS,(sl 10 pn pn)]),(sl 7 n c),(sl 8 k e),(sl 9 2 2),(sl 10 pn pn),(sl 6 l g),(.tuple #[nS,(sl 10 pn pn)]),nS,(sl 10 pn pn),uu],11,[(5,(.cells [(sl 6 l g)] 75 none false)),(6,(cU ms)),(7,(cU xs)),(8,(cU ys)),(9,(.cells [(sl 7 n c),(sl 8 k e)] 75 none false)),(10,(cU ps))]⟩)))))))∧(True)))∧(True)))∧(True)))) from⟨tt,⟨tt,⟨tt,⟨⟨tt,⟨rfl,tt⟩,⟨⟨hc1,⟨rfl,tt⟩,⟨⟨hc2,tt,⟨tt,⟨tt,⟨tt,⟨tt,⟨tt,rfl⟩⟩⟩⟩⟩⟩,tt⟩⟩,tt⟩⟩,tt⟩⟩⟩⟩) tt) (Gets.refl _)
theorem pr_sr(xs ms:List Nat)(n c l g:Nat)(ps:List Nat)(pn:Nat)(hc1:FT 179 #[(sl 8 2 2)] 9 [(8,(.cells [(sl 7 n c),(sl 7 n c)] 75 none false)),(7,(cU xs))] (sl 9 pn pn) [(8,some (.cells [(sl 7 n c),(sl 7 n c)] 75 none false)),(7,some (cU xs))] [(cU ps)])(zs:List Nat)(t:Nat)(rs:List Nat)(u:Nat)(hc3:FT 116 #[(sl 9 pn pn),(sl 6 l g)] 10 [(9,(cU ps)),(6,(cU ms))] (.tuple #[(sl 10 t t),(sl 11 u u)]) [(9,some (cU ps)),(6,some (cU ms))] [(cU zs),(cU rs)]):CT 180 #[(sl 7 n c),(sl 7 n c),(pt 5)] (Ag 8 [(5,(.cells [(sl 6 l g)] 75 none false)),(6,(cU ms)),(7,(cU xs))]) (sl 11 u u) (Ag 12 [(5,(.cells [(sl 6 l g)] 75 none false)),(6,(cU ms)),(7,(cU xs)),(11,(cU rs))]):=
 sF (sc:=[(5,.drwB [] [⟨3,[8,7],(sl 9 pn pn),[(8,some (.cells [(sl 7 n c),(sl 7 n c)] 75 none false)),(7,some (cU xs))],[(cU ps)]⟩,⟨5,[9,6],(.tuple #[(sl 10 t t),(sl 11 u u)]),[(9,some (cU ps)),(6,some (cU ms))],[(cU zs),(cU rs)]⟩] ⟨#[(sl 7 n c),(sl 7 n c),(pt 5),uu,uu,nS,(sl 10 t t),(sl 11 u u),(.tuple #[(sl 10 t t),(sl 11 u u)]),(sl 7 n c),(sl 7 n c),(sl 8 2 2),(sl 9 pn pn),(sl 6 l g),(.tuple #[(sl 10 t t),(sl 11 u u)]),(sl 10 t t),(sl 11 u u),uu],12,[(5,(.cells [(sl 6 l g)] 75 none false)),(6,(cU ms)),(7,(cU xs)),(8,(.cells [(sl 7 n c),(sl 7 n c)] 75 none false)),(9,(cU ps)),(10,(cU zs)),(11,(cU rs))]⟩),(6,.stay)]) kr (aI (show True∧(True∧(True∧(((True)∧(((some (.cells [(sl 6 l g)] 75 none false):Option AObj)=some (.cells [(sl 6 l g)] 75 none false))∧(True))∧(((FT 179 #[(sl 8 2 2)] 9 [(8,(.cells [(sl 7 n c),(sl 7 n c)] 75 none false)),(7,(cU xs))] (sl 9 pn pn) [(8,some (.cells [(sl 7 n c),(sl 7 n c)] 75 none false)),(7,some (cU xs))] [(cU ps)])∧(((some (.cells [(sl 6 l g)] 75 none false):Option AObj)=some (.cells [(sl 6 l g)] 75 none false))∧(True))∧(((FT 116 #[(sl 9 pn pn),(sl 6 l g)] 10 [(9,(cU ps)),(6,(cU ms))] (.tuple #[(sl 10 t t),(sl 11 u u)]) [(9,some (cU ps)),(6,some (cU ms))] [(cU zs),(cU rs)])∧(True)∧(True∧(True∧(True∧(True∧(True∧(Hd ⟨#[(sl 7 n c),(sl 7 n c),(pt 5),uu,uu,nS,(sl 10 t t),(sl 11 u u),(.tuple #[(sl 10 t t),(sl 11 u u)]),(sl 7 n c),(sl 7 n c),(sl 8 2 2),(sl 9 pn pn),(sl 6 l g),(.tuple #[(sl 10 t t),(sl 11 u u)]),(sl 10 t t),(sl 11 u u),uu],12,[(5,(.cells [(sl 6 l g)] 75 none false)),(6,(cU ms)),(7,(cU xs)),(8,(.cells [(sl 7 n c),(sl 7 n c)] 75 none false)),(9,(cU ps)),(10,(cU zs)),(11,(cU rs))]⟩)))))))∧(True)))∧(True)))∧(True)))) from⟨tt,⟨tt,⟨tt,⟨⟨tt,⟨rfl,tt⟩,⟨⟨hc1,⟨rfl,tt⟩,⟨⟨hc3,tt,⟨tt,⟨tt,⟨tt,⟨tt,⟨tt,rfl⟩⟩⟩⟩⟩⟩,tt⟩⟩,tt⟩⟩,tt⟩⟩⟩⟩) tt) (Gets.refl _)
theorem pr_sn(xs ms:List Nat)(n c l g:Nat)(ps:List Nat)(pn:Nat)(hc1:FT 179 #[(sl 8 2 2)] 9 [(8,(.cells [(sl 7 n c),(sl 7 n c)] 75 none false)),(7,(cU xs))] (sl 9 pn pn) [(8,some (.cells [(sl 7 n c),(sl 7 n c)] 75 none false)),(7,some (cU xs))] [(cU ps)])(hc2:FT 116 #[(sl 9 pn pn),(sl 6 l g)] 10 [(9,(cU ps)),(6,(cU ms))] (.tuple #[nS,(sl 9 pn pn)]) [(9,some (cU ps)),(6,some (cU ms))] []):CT 180 #[(sl 7 n c),(sl 7 n c),(pt 5)] (Ag 8 [(5,(.cells [(sl 6 l g)] 75 none false)),(6,(cU ms)),(7,(cU xs))]) (sl 9 pn pn) (Ag 10 [(5,(.cells [(sl 6 l g)] 75 none false)),(6,(cU ms)),(7,(cU xs)),(9,(cU ps))]):=
 sF (sc:=[(5,.drwB [] [⟨3,[8,7],(sl 9 pn pn),[(8,some (.cells [(sl 7 n c),(sl 7 n c)] 75 none false)),(7,some (cU xs))],[(cU ps)]⟩,⟨5,[9,6],(.tuple #[nS,(sl 9 pn pn)]),[(9,some (cU ps)),(6,some (cU ms))],[]⟩] ⟨#[(sl 7 n c),(sl 7 n c),(pt 5),uu,uu,nS,nS,(sl 9 pn pn),(.tuple #[nS,(sl 9 pn pn)]),(sl 7 n c),(sl 7 n c),(sl 8 2 2),(sl 9 pn pn),(sl 6 l g),(.tuple #[nS,(sl 9 pn pn)]),nS,(sl 9 pn pn),uu],10,[(5,(.cells [(sl 6 l g)] 75 none false)),(6,(cU ms)),(7,(cU xs)),(8,(.cells [(sl 7 n c),(sl 7 n c)] 75 none false)),(9,(cU ps))]⟩),(6,.stay)]) kr (aI (show True∧(True∧(True∧(((True)∧(((some (.cells [(sl 6 l g)] 75 none false):Option AObj)=some (.cells [(sl 6 l g)] 75 none false))∧(True))∧(((FT 179 #[(sl 8 2 2)] 9 [(8,(.cells [(sl 7 n c),(sl 7 n c)] 75 none false)),(7,(cU xs))] (sl 9 pn pn) [(8,some (.cells [(sl 7 n c),(sl 7 n c)] 75 none false)),(7,some (cU xs))] [(cU ps)])∧(((some (.cells [(sl 6 l g)] 75 none false):Option AObj)=some (.cells [(sl 6 l g)] 75 none false))∧(True))∧(((FT 116 #[(sl 9 pn pn),(sl 6 l g)] 10 [(9,(cU ps)),(6,(cU ms))] (.tuple #[nS,(sl 9 pn pn)]) [(9,some (cU ps)),(6,some (cU ms))] [])∧(True)∧(True∧(True∧(True∧(True∧(True∧(Hd ⟨#[(sl 7 n c),(sl 7 n c),(pt 5),uu,uu,nS,nS,(sl 9 pn pn),(.tuple #[nS,(sl 9 pn pn)]),(sl 7 n c),(sl 7 n c),(sl 8 2 2),(sl 9 pn pn),(sl 6 l g),(.tuple #[nS,(sl 9 pn pn)]),nS,(sl 9 pn pn),uu],10,[(5,(.cells [(sl 6 l g)] 75 none false)),(6,(cU ms)),(7,(cU xs)),(8,(.cells [(sl 7 n c),(sl 7 n c)] 75 none false)),(9,(cU ps))]⟩)))))))∧(True)))∧(True)))∧(True)))) from⟨tt,⟨tt,⟨tt,⟨⟨tt,⟨rfl,tt⟩,⟨⟨hc1,⟨rfl,tt⟩,⟨⟨hc2,tt,⟨tt,⟨tt,⟨tt,⟨tt,⟨tt,rfl⟩⟩⟩⟩⟩⟩,tt⟩⟩,tt⟩⟩,tt⟩⟩⟩⟩) tt) (Gets.refl _)
theorem pd_c(n0 bb bm bx byy:Nat)(xs ys ms:List Nat)(n c k e l g:Nat)(hb:5≤bb∧bb<n0∧5≤bm∧bm<n0∧5≤bx∧bx<n0∧5≤byy∧byy<n0∧bb≠bm∧bb≠bx∧bm≠bx∧bb≠byy∧bm≠byy∧bx≠byy)(hn:n<24)(hlx:Lim xs)(hc:n≤xs.length)(hkm:k<1000)(hly:Lim ys)(hk:k≤ys.length)(hlm:Lim ms)(hl:l≤ms.length)(hlm2:l<1000)(hl0:0<l)(hmt:0<l→ms.getD (l-1) 0≠0):
  ∃rs u,Lim rs∧u≤rs.length∧(0<u→rs.getD (u-1) 0≠0)∧val (rs.take u)=val (xs.take n)*val (ys.take k)%val (ms.take l)∧
   FT 180 #[sl bx n c,sl byy k e,pt bb] n0 [(bb,.cells [sl bm l g] 75 none false),(bm,cU ms),(bx,cU xs),(byy,cU ys)] (sl n0 u u) [(bb,some (.cells [sl bm l g] 75 none false)),(bm,some (cU ms)),(bx,some (cU xs)),(byy,some (cU ys))] [cU rs]:=by
 have e1:bb≠bm:=by omega
 have e2:bb≠bx:=by omega
 have e3:bm≠bx:=by omega
 have e4:bb≠byy:=by omega
 have e5:bm≠byy:=by omega
 have e6:bx≠byy:=by omega
 obtain⟨ps,pn,p1,p2,p3,p4,p5,T⟩:=mu_c 10 9 7 8 xs ys n c k e (.inl hn) om hlx hly hc hk om om
 rcases ov_c 11 10 6 ps ms pn pn l g om p1 hlm p2 hl om om p4 hmt hl0 with⟨hlt,o⟩|⟨_,zs,t,rs,u,q1,q2,q3,q4,q5,r1,r2,r3,r4,r5,o⟩
 ·refine⟨ps,pn,p1,p2,p4,?_,Gm (os':=[.cells [sl bm l g] 75 none false,cU ms,cU xs,cU ys]) (ps':=[.cells [sl bm l g] 75 none false,cU ms,cU xs,cU ys]) (qs':=[cU ps]) [bb,bm,bx,byy] [.cells [sl 6 l g] 75 none false,cU ms,cU xs,cU ys] [.cells [sl 6 l g] 75 none false,cU ms,cU xs,cU ys] [10] [cU ps] n0 (pr_dn xs ys ms n c k e l g ps pn T o) rfl kr kr
  (by simp[e1,e2,e3,e4,e5,e6]) (by simp;omega) om rfl (by simp[Ez,De,Dz,Uc,Ah _ _ (Ab .u32 xs),Ah _ _ (Ab .u32 ys),Ah _ _ (Ab .u32 ms),Ah _ _ (Ab .u32 ps)]) (by simp[Ez,De,Dz,Uc,AObj.ro,Ah _ _ (Ab .u32 xs),Ah _ _ (Ab .u32 ys),Ah _ _ (Ab .u32 ms),Ah _ _ (Ab .u32 ps)])
  (by simp only[List.map_cons,List.map_nil,Dx,Ac _ _ (Ab .u32 xs),Ac _ _ (Ab .u32 ys),Ac _ _ (Ab .u32 ms),Ac _ _ (Ab .u32 ps)];rfl) (by simp only[List.map_cons,List.map_nil,Dx,Ac _ _ (Ab .u32 xs),Ac _ _ (Ab .u32 ys),Ac _ _ (Ab .u32 ms),Ac _ _ (Ab .u32 ps)];rfl) (by simp only[List.map_cons,List.map_nil,Dx,Ac _ _ (Ab .u32 xs),Ac _ _ (Ab .u32 ys),Ac _ _ (Ab .u32 ms),Ac _ _ (Ab .u32 ps)]) sm sm rfl rfl rfl⟩
  rw[←p5,Nat.mod_eq_of_lt hlt]
 ·refine⟨rs,u,r1,r2,r4,?_,Gm (os':=[.cells [sl bm l g] 75 none false,cU ms,cU xs,cU ys]) (ps':=[.cells [sl bm l g] 75 none false,cU ms,cU xs,cU ys]) (qs':=[cU rs]) [bb,bm,bx,byy] [.cells [sl 6 l g] 75 none false,cU ms,cU xs,cU ys] [.cells [sl 6 l g] 75 none false,cU ms,cU xs,cU ys] [12] [cU rs] n0 (pr_dr xs ys ms n c k e l g ps pn T zs t rs u o) rfl kr kr
  (by simp[e1,e2,e3,e4,e5,e6]) (by simp;omega) om rfl (by simp[Ez,De,Dz,Uc,Ah _ _ (Ab .u32 xs),Ah _ _ (Ab .u32 ys),Ah _ _ (Ab .u32 ms),Ah _ _ (Ab .u32 rs)]) (by simp[Ez,De,Dz,Uc,AObj.ro,Ah _ _ (Ab .u32 xs),Ah _ _ (Ab .u32 ys),Ah _ _ (Ab .u32 ms),Ah _ _ (Ab .u32 rs)])
  (by simp only[List.map_cons,List.map_nil,Dx,Ac _ _ (Ab .u32 xs),Ac _ _ (Ab .u32 ys),Ac _ _ (Ab .u32 ms),Ac _ _ (Ab .u32 rs)];rfl) (by simp only[List.map_cons,List.map_nil,Dx,Ac _ _ (Ab .u32 xs),Ac _ _ (Ab .u32 ys),Ac _ _ (Ab .u32 ms),Ac _ _ (Ab .u32 rs)];rfl) (by simp only[List.map_cons,List.map_nil,Dx,Ac _ _ (Ab .u32 xs),Ac _ _ (Ab .u32 ys),Ac _ _ (Ab .u32 ms),Ac _ _ (Ab .u32 rs)]) sm sm rfl rfl rfl⟩
  rw[r5,p5]
theorem ps_c(n0 bb bm bx:Nat)(xs ms:List Nat)(n c l g:Nat)(hb:5≤bb∧bb<n0∧5≤bm∧bm<n0∧5≤bx∧bx<n0∧bb≠bm∧bb≠bx∧bm≠bx)(hn:n<24)(hlx:Lim xs)(hc:n≤xs.length)(hlm:Lim ms)(hl:l≤ms.length)(hlm2:l<1000)(hl0:0<l)(hmt:0<l→ms.getD (l-1) 0≠0):
  ∃rs u,Lim rs∧u≤rs.length∧(0<u→rs.getD (u-1) 0≠0)∧val (rs.take u)=val (xs.take n)*val (xs.take n)%val (ms.take l)∧
   FT 180 #[sl bx n c,sl bx n c,pt bb] n0 [(bb,.cells [sl bm l g] 75 none false),(bm,cU ms),(bx,cU xs)] (sl n0 u u) [(bb,some (.cells [sl bm l g] 75 none false)),(bm,some (cU ms)),(bx,some (cU xs))] [cU rs]:=by
 have e1:=hb.2.2.2.2.2.2.1
 have e2:=hb.2.2.2.2.2.2.2.1
 have e3:=hb.2.2.2.2.2.2.2.2
 obtain⟨ps,pn,p1,p2,p3,p4,p5,T⟩:=m2_c 9 8 7 xs n c hn om hlx hc
 rcases ov_c 10 9 6 ps ms pn pn l g om p1 hlm p2 hl om om p4 hmt hl0 with⟨hlt,o⟩|⟨_,zs,t,rs,u,q1,q2,q3,q4,q5,r1,r2,r3,r4,r5,o⟩
 ·refine⟨ps,pn,p1,p2,p4,?_,Gm (os':=[.cells [sl bm l g] 75 none false,cU ms,cU xs]) (ps':=[.cells [sl bm l g] 75 none false,cU ms,cU xs]) (qs':=[cU ps]) [bb,bm,bx] [.cells [sl 6 l g] 75 none false,cU ms,cU xs] [.cells [sl 6 l g] 75 none false,cU ms,cU xs] [9] [cU ps] n0 (pr_sn xs ms n c l g ps pn T o) rfl kr kr
  (by simp[e1,e2,e3]) (by simp;omega) om rfl (by simp[Ez,De,Dz,Uc,Ah _ _ (Ab .u32 xs),Ah _ _ (Ab .u32 ms),Ah _ _ (Ab .u32 ps)]) (by simp[Ez,De,Dz,Uc,AObj.ro,Ah _ _ (Ab .u32 xs),Ah _ _ (Ab .u32 ms),Ah _ _ (Ab .u32 ps)])
  (by simp only[List.map_cons,List.map_nil,Dx,Ac _ _ (Ab .u32 xs),Ac _ _ (Ab .u32 ms),Ac _ _ (Ab .u32 ps)];rfl) (by simp only[List.map_cons,List.map_nil,Dx,Ac _ _ (Ab .u32 xs),Ac _ _ (Ab .u32 ms),Ac _ _ (Ab .u32 ps)];rfl) (by simp only[List.map_cons,List.map_nil,Dx,Ac _ _ (Ab .u32 xs),Ac _ _ (Ab .u32 ms),Ac _ _ (Ab .u32 ps)]) sm sm rfl rfl rfl⟩
  rw[←p5,Nat.mod_eq_of_lt hlt]
 ·refine⟨rs,u,r1,r2,r4,?_,Gm (os':=[.cells [sl bm l g] 75 none false,cU ms,cU xs]) (ps':=[.cells [sl bm l g] 75 none false,cU ms,cU xs]) (qs':=[cU rs]) [bb,bm,bx] [.cells [sl 6 l g] 75 none false,cU ms,cU xs] [.cells [sl 6 l g] 75 none false,cU ms,cU xs] [11] [cU rs] n0 (pr_sr xs ms n c l g ps pn T zs t rs u o) rfl kr kr
  (by simp[e1,e2,e3]) (by simp;omega) om rfl (by simp[Ez,De,Dz,Uc,Ah _ _ (Ab .u32 xs),Ah _ _ (Ab .u32 ms),Ah _ _ (Ab .u32 rs)]) (by simp[Ez,De,Dz,Uc,AObj.ro,Ah _ _ (Ab .u32 xs),Ah _ _ (Ab .u32 ms),Ah _ _ (Ab .u32 rs)])
  (by simp only[List.map_cons,List.map_nil,Dx,Ac _ _ (Ab .u32 xs),Ac _ _ (Ab .u32 ms),Ac _ _ (Ab .u32 rs)];rfl) (by simp only[List.map_cons,List.map_nil,Dx,Ac _ _ (Ab .u32 xs),Ac _ _ (Ab .u32 ms),Ac _ _ (Ab .u32 rs)];rfl) (by simp only[List.map_cons,List.map_nil,Dx,Ac _ _ (Ab .u32 xs),Ac _ _ (Ab .u32 ms),Ac _ _ (Ab .u32 rs)]) sm sm rfl rfl rfl⟩
  rw[r5,p5]
noncomputable section
abbrev Sc(p k2:Nat):Value:=sl (p+1) k2 k2
abbrev Tz:AObj:=.cells [(lW 1)] 121 none false
end
def pb(b1 i:Nat):Nat:=cond (Nat.beq i 0) b1 (b1+1+i)
def rb(b1 p:Nat):Nat:=cond (Nat.beq p (b1+12)) b1 (p-1)
def rz(b1 p:Nat)(a b:List Nat):List Nat:=cond (Nat.beq p (b1+12)) a b
def ru(b1 p a b:Nat):Nat:=cond (Nat.beq p (b1+12)) a b
def pq{α:Type}(a:α)(f:Nat→α):Nat→α
 |0=>a
 |i+1=>f (i+1)
def B1(b:Nat):Prop:=b=8∨b=10
def P2(b1 p:Nat):Prop:=p=b1+12∨p=b1+17
def P3(b1 p:Nat):Prop:=P2 b1 p∨p=b1+22
def D10(d:Nat):Prop:=d=0∨d=1∨d=2∨d=3∨d=4∨d=5∨d=6∨d=7∨d=8∨d=9
noncomputable def pmh_f(b1 p:Nat)(ds xs ms ws:List Nat)(n c l g u q:Nat)(pz:Nat→List Nat)(pk:Nat→Nat)(j:List Value):Frame:=(Fr 141 ([(sl 5 n c),(.string (Aa ds)),(sl 6 l g),uu,uu,(pt 7),nS,(.func (.func 180) #[] #[(pt 7)]),(J j 0),(J j 1),(pt (b1+1)),(lI 8),(sl (rb b1 p) (ru b1 p (pk 0) u) (ru b1 p (pk 0) u)),uu]++(jj j 2 12 ([(lI 9),bF,(lI 8),(lI 8),(lI 9),(J j 14),(lI 8)]++(jj j 15 5 ([(lI 9),(J j 20),(J j 21),(pt (b1+11))]++(jj j 22 25 [uu])))))) [.code (cd Tryz.f141 [1,1,1,1,1,1,0,1,0,0]),.inLoop (cd Tryz.f141 [1,1,1,1,1,1,0,1,0,0]),.inBlock 2,.code (cd Tryz.f141 [1,1,1,1,1,1,1])])
noncomputable def pmh_o(b1 p:Nat)(ds xs ms ws:List Nat)(n c l g u q:Nat)(pz:Nat→List Nat)(pk:Nat→Nat):List (Nat×AObj):=[(5,(cU xs)),(6,(cU ms)),(7,(.cells [(sl 6 l g)] 75 none false)),((rb b1 p),(cU (rz b1 p (pz 0) ws))),(b1,(cU (pz 0))),(b1+1,(.cells [(sl b1 (pk 0) (pk 0)),(sl (b1+2) (pk 1) (pk 1)),(sl (b1+3) (pk 2) (pk 2)),(sl (b1+4) (pk 3) (pk 3)),(sl (b1+5) (pk 4) (pk 4)),(sl (b1+6) (pk 5) (pk 5)),(sl (b1+7) (pk 6) (pk 6)),(sl (b1+8) (pk 7) (pk 7)),(sl (b1+9) (pk 8) (pk 8)),(sl (b1+10) (pk 9) (pk 9))] 195 none false)),(b1+2,(cU (pz 1))),(b1+3,(cU (pz 2))),(b1+4,(cU (pz 3))),(b1+5,(cU (pz 4))),(b1+6,(cU (pz 5))),(b1+7,(cU (pz 6))),(b1+8,(cU (pz 7))),(b1+9,(cU (pz 8))),(b1+10,(cU (pz 9))),(b1+11,(.iter (Aa ds) q))]
noncomputable def pmh(b1 p:Nat)(ds xs ms ws:List Nat)(n c l g u q:Nat)(pz:Nat→List Nat)(pk:Nat→Nat)(j:List Value):AS:=⟨pmh_f b1 p ds xs ms ws n c l g u q pz pk j,[],Ag p (pmh_o b1 p ds xs ms ws n c l g u q pz pk)⟩
theorem pm_in1(ds xs ms:List Nat)(n c l g:Nat)(pz:Nat→List Nat)(pk:Nat→Nat)(hc0:(FT 116 #[(sl 8 1 1),(sl 6 l g)] 9 [(8,Tz),(6,(cU ms))] (.tuple #[nS,(sl 8 1 1)]) [(8,some Tz),(6,some (cU ms))] []))(hp: ∀i,i<9→FT 180 #[sl (pb 8 i) (pq 1 pk i) (pq 1 pk i),sl 5 n c,pt 7] (8+2+i) [(7,.cells [sl 6 l g] 75 none false),(6,cU ms),(pb 8 i,cU (pq [1] pz i)),(5,cU xs)] (sl (8+2+i) (pq 1 pk (i+1)) (pq 1 pk (i+1))) [(7,some (.cells [sl 6 l g] 75 none false)),(6,some (cU ms)),(pb 8 i,some (cU (pq [1] pz i))),(5,some (cU xs))] [cU (pq [1] pz (i+1))]):GT (Cg 141 #[(sl 5 n c),(.string (Aa ds)),(sl 6 l g)] 7 [(5,(cU xs)),(6,(cU ms))]) (pmh 8 20 ds xs ms ([]) n c l g 0 0 (pq [1] pz) (pq 1 pk) [nS,(sl 8 1 1),undef,undef,undef,(.func (.func 180) #[] #[(pt 7)]),(.tuple #[nS,(sl 8 1 1)]),(sl 8 1 1),(sl 6 l g),(.tuple #[nS,(sl 8 1 1)]),nS,(sl 8 1 1),(sl 8 1 1),(.agg #[(sl 8 1 1),nS,nS,nS,nS,nS,nS,nS,nS,nS]),(.func (.func 180) #[] #[(pt 7)]),(pp 9 8),(sl 17 (pk 8) (pk 8)),(sl 5 n c),(sl 18 (pk 9) (pk 9)),(pp 9 9),(sl 8 1 1),(.string (Aa ds)),undef,undef,undef,undef,undef,undef,undef,undef,undef,undef,undef,undef,undef,undef,undef,undef,undef,undef,undef,undef,undef,undef,undef,undef,undef]):=
 sR (sc:=[(14,.call [8,6] (.tuple #[nS,(sl 8 1 1)]) [(8,some Tz),(6,some (cU ms))] []),(42,.call [7,6,8,5] (sl 10 (pk 1) (pk 1)) [(7,some (.cells [(sl 6 l g)] 75 none false)),(6,some (cU ms)),(8,some Tz),(5,some (cU xs))] [(cU (pz 1))]),(31,.call [7,6,10,5] (sl 11 (pk 2) (pk 2)) [(7,some (.cells [(sl 6 l g)] 75 none false)),(6,some (cU ms)),(10,some (cU (pz 1))),(5,some (cU xs))] [(cU (pz 2))]),(31,.call [7,6,11,5] (sl 12 (pk 3) (pk 3)) [(7,some (.cells [(sl 6 l g)] 75 none false)),(6,some (cU ms)),(11,some (cU (pz 2))),(5,some (cU xs))] [(cU (pz 3))]),(31,.call [7,6,12,5] (sl 13 (pk 4) (pk 4)) [(7,some (.cells [(sl 6 l g)] 75 none false)),(6,some (cU ms)),(12,some (cU (pz 3))),(5,some (cU xs))] [(cU (pz 4))]),(31,.call [7,6,13,5] (sl 14 (pk 5) (pk 5)) [(7,some (.cells [(sl 6 l g)] 75 none false)),(6,some (cU ms)),(13,some (cU (pz 4))),(5,some (cU xs))] [(cU (pz 5))]),(31,.call [7,6,14,5] (sl 15 (pk 6) (pk 6)) [(7,some (.cells [(sl 6 l g)] 75 none false)),(6,some (cU ms)),(14,some (cU (pz 5))),(5,some (cU xs))] [(cU (pz 6))]),(31,.call [7,6,15,5] (sl 16 (pk 7) (pk 7)) [(7,some (.cells [(sl 6 l g)] 75 none false)),(6,some (cU ms)),(15,some (cU (pz 6))),(5,some (cU xs))] [(cU (pz 7))]),(31,.call [7,6,16,5] (sl 17 (pk 8) (pk 8)) [(7,some (.cells [(sl 6 l g)] 75 none false)),(6,some (cU ms)),(16,some (cU (pz 7))),(5,some (cU xs))] [(cU (pz 8))]),(31,.call [7,6,17,5] (sl 18 (pk 9) (pk 9)) [(7,some (.cells [(sl 6 l g)] 75 none false)),(6,some (cU ms)),(17,some (cU (pz 8))),(5,some (cU xs))] [(cU (pz 9))]),(29,.stay)]) kr (aI hc0 (aI (hp 0 de) (aI (hp 1 de) (aI (hp 2 de) (aI (hp 3 de) (aI (hp 4 de) (aI (hp 5 de) (aI (hp 6 de) (aI (hp 7 de) (aI (hp 8 de) tt))))))))))
theorem pm_in0(ds xs ms:List Nat)(n c l g:Nat)(pz:Nat→List Nat)(pk:Nat→Nat)(zs:List Nat)(t:Nat)(rs:List Nat)(v:Nat)(hc1:(FT 116 #[(sl 8 1 1),(sl 6 l g)] 9 [(8,Tz),(6,(cU ms))] (.tuple #[(sl 9 t t),(sl 10 v v)]) [(8,some Tz),(6,some (cU ms))] [(cU zs),(cU rs)]))(hp: ∀i,i<9→FT 180 #[sl (pb 10 i) (pq v pk i) (pq v pk i),sl 5 n c,pt 7] (10+2+i) [(7,.cells [sl 6 l g] 75 none false),(6,cU ms),(pb 10 i,cU (pq rs pz i)),(5,cU xs)] (sl (10+2+i) (pq v pk (i+1)) (pq v pk (i+1))) [(7,some (.cells [sl 6 l g] 75 none false)),(6,some (cU ms)),(pb 10 i,some (cU (pq rs pz i))),(5,some (cU xs))] [cU (pq rs pz (i+1))]):GT (Cg 141 #[(sl 5 n c),(.string (Aa ds)),(sl 6 l g)] 7 [(5,(cU xs)),(6,(cU ms))]) (pmh 10 22 ds xs ms ([]) n c l g 0 0 (pq rs pz) (pq v pk) [(sl 9 t t),(sl 10 v v),undef,undef,undef,(.func (.func 180) #[] #[(pt 7)]),(.tuple #[(sl 9 t t),(sl 10 v v)]),(sl 8 1 1),(sl 6 l g),(.tuple #[(sl 9 t t),(sl 10 v v)]),(sl 9 t t),(sl 10 v v),(sl 10 v v),(.agg #[(sl 10 v v),nS,nS,nS,nS,nS,nS,nS,nS,nS]),(.func (.func 180) #[] #[(pt 7)]),(pp 11 8),(sl 19 (pk 8) (pk 8)),(sl 5 n c),(sl 20 (pk 9) (pk 9)),(pp 11 9),(sl 10 v v),(.string (Aa ds)),undef,undef,undef,undef,undef,undef,undef,undef,undef,undef,undef,undef,undef,undef,undef,undef,undef,undef,undef,undef,undef,undef,undef,undef,undef]):=
 sR (sc:=[(14,.call [8,6] (.tuple #[(sl 9 t t),(sl 10 v v)]) [(8,some Tz),(6,some (cU ms))] [(cU zs),(cU rs)]),(42,.call [7,6,10,5] (sl 12 (pk 1) (pk 1)) [(7,some (.cells [(sl 6 l g)] 75 none false)),(6,some (cU ms)),(10,some (cU rs)),(5,some (cU xs))] [(cU (pz 1))]),(31,.call [7,6,12,5] (sl 13 (pk 2) (pk 2)) [(7,some (.cells [(sl 6 l g)] 75 none false)),(6,some (cU ms)),(12,some (cU (pz 1))),(5,some (cU xs))] [(cU (pz 2))]),(31,.call [7,6,13,5] (sl 14 (pk 3) (pk 3)) [(7,some (.cells [(sl 6 l g)] 75 none false)),(6,some (cU ms)),(13,some (cU (pz 2))),(5,some (cU xs))] [(cU (pz 3))]),(31,.call [7,6,14,5] (sl 15 (pk 4) (pk 4)) [(7,some (.cells [(sl 6 l g)] 75 none false)),(6,some (cU ms)),(14,some (cU (pz 3))),(5,some (cU xs))] [(cU (pz 4))]),(31,.call [7,6,15,5] (sl 16 (pk 5) (pk 5)) [(7,some (.cells [(sl 6 l g)] 75 none false)),(6,some (cU ms)),(15,some (cU (pz 4))),(5,some (cU xs))] [(cU (pz 5))]),(31,.call [7,6,16,5] (sl 17 (pk 6) (pk 6)) [(7,some (.cells [(sl 6 l g)] 75 none false)),(6,some (cU ms)),(16,some (cU (pz 5))),(5,some (cU xs))] [(cU (pz 6))]),(31,.call [7,6,17,5] (sl 18 (pk 7) (pk 7)) [(7,some (.cells [(sl 6 l g)] 75 none false)),(6,some (cU ms)),(17,some (cU (pz 6))),(5,some (cU xs))] [(cU (pz 7))]),(31,.call [7,6,18,5] (sl 19 (pk 8) (pk 8)) [(7,some (.cells [(sl 6 l g)] 75 none false)),(6,some (cU ms)),(18,some (cU (pz 7))),(5,some (cU xs))] [(cU (pz 8))]),(31,.call [7,6,19,5] (sl 20 (pk 9) (pk 9)) [(7,some (.cells [(sl 6 l g)] 75 none false)),(6,some (cU ms)),(19,some (cU (pz 8))),(5,some (cU xs))] [(cU (pz 9))]),(29,.stay)]) kr (aI hc1 (aI (hp 0 de) (aI (hp 1 de) (aI (hp 2 de) (aI (hp 3 de) (aI (hp 4 de) (aI (hp 5 de) (aI (hp 6 de) (aI (hp 7 de) (aI (hp 8 de) tt))))))))))
theorem pm_r(b1 p d:Nat)(hb:B1 b1)(hp:P2 b1 p)(hd:D10 d)(ds xs ms ws:List Nat)(n c l g u q:Nat)(pz:Nat→List Nat)(pk:Nat→Nat)(j:List Value)(hq:q<(Aa ds).size)(he:Utf8.decode (Aa ds) q=(48+d,1))(hd10:d<10)(s1:List Nat)(k1:Nat)(hc1:(FT 180 #[(sl (rb b1 p) (ru b1 p (pk 0) u) (ru b1 p (pk 0) u)),(sl (rb b1 p) (ru b1 p (pk 0) u) (ru b1 p (pk 0) u)),(pt 7)] p [(7,(.cells [(sl 6 l g)] 75 none false)),(6,(cU ms)),((rb b1 p),(cU (rz b1 p (pz 0) ws)))] (sl p k1 k1) [(7,some (.cells [(sl 6 l g)] 75 none false)),(6,some (cU ms)),((rb b1 p),some (cU (rz b1 p (pz 0) ws)))] [(cU s1)]))(s2:List Nat)(k2:Nat)(hc3:(FT 180 #[(sl p k1 k1),(sl p k1 k1),(pt 7)] (p+1) [(7,(.cells [(sl 6 l g)] 75 none false)),(6,(cU ms)),(p,(cU s1))] (Sc p k2) [(7,some (.cells [(sl 6 l g)] 75 none false)),(6,some (cU ms)),(p,some (cU s1))] [(cU s2)]))(s3:List Nat)(k3:Nat)(hc5:(FT 180 #[(Sc p k2),(Sc p k2),(pt 7)] (p+2) [(7,(.cells [(sl 6 l g)] 75 none false)),(6,(cU ms)),(p+1,(cU s2))] (sl (p+2) k3 k3) [(7,some (.cells [(sl 6 l g)] 75 none false)),(6,some (cU ms)),(p+1,some (cU s2))] [(cU s3)]))(s4:List Nat)(k4:Nat)(hc7:(FT 180 #[(sl (p+2) k3 k3),(sl p k1 k1),(pt 7)] (p+3) [(7,(.cells [(sl 6 l g)] 75 none false)),(6,(cU ms)),(p+2,(cU s3)),(p,(cU s1))] (sl (p+3) k4 k4) [(7,some (.cells [(sl 6 l g)] 75 none false)),(6,some (cU ms)),(p+2,some (cU s3)),(p,some (cU s1))] [(cU s4)]))(s5:List Nat)(k5:Nat)(hc9:(FT 180 #[(sl (p+3) k4 k4),(sl (pb b1 d) (pk d) (pk d)),(pt 7)] (p+4) [(7,(.cells [(sl 6 l g)] 75 none false)),(6,(cU ms)),(p+3,(cU s4)),((pb b1 d),(cU (pz d)))] (sl (p+4) k5 k5) [(7,some (.cells [(sl 6 l g)] 75 none false)),(6,some (cU ms)),(p+3,some (cU s4)),((pb b1 d),some (cU (pz d)))] [(cU s5)])):GT (pmh b1 p ds xs ms ws n c l g u q pz pk j) (pmh b1 (p+5) ds xs ms s5 n c l g k5 (q+1) pz pk ([(J j 0),(J j 1),(nR (48+d)),(sl p k1 k1),(Sc p k2)]++(jj j 5 17 [(.tuple #[bT,(nI q),(nR (48+d))]),bT,(nR (48+d)),(.func (.func 180) #[] #[(pt 7)]),(sl (rb b1 p) (ru b1 p (pk 0) u) (ru b1 p (pk 0) u)),(sl (rb b1 p) (ru b1 p (pk 0) u) (ru b1 p (pk 0) u)),(sl p k1 k1),(.func (.func 180) #[] #[(pt 7)]),(sl p k1 k1),(sl p k1 k1),(Sc p k2),(.func (.func 180) #[] #[(pt 7)]),(.func (.func 180) #[] #[(pt 7)]),(Sc p k2),(Sc p k2),(sl (p+2) k3 k3),(sl p k1 k1),(sl (p+3) k4 k4),(.func (.func 180) #[] #[(pt 7)]),(sl (p+3) k4 k4),(nR (48+d)),(nR d),(pp (b1+1) d),(sl (pb b1 d) (pk d) (pk d)),(sl (p+4) k5 k5)]))):=by
 refine sR (sc:=[(2,.op (.nxtC (48+d) 1 (q+1))),(16,.call [7,6,(rb b1 p)] (sl p k1 k1) [(7,some (.cells [(sl 6 l g)] 75 none false)),(6,some (cU ms)),((rb b1 p),some (cU (rz b1 p (pz 0) ws)))] [(cU s1)]),(7,.call [7,6,p] (Sc p k2) [(7,some (.cells [(sl 6 l g)] 75 none false)),(6,some (cU ms)),(p,some (cU s1))] [(cU s2)]),(8,.call [7,6,(p+1)] (sl (p+2) k3 k3) [(7,some (.cells [(sl 6 l g)] 75 none false)),(6,some (cU ms)),(p+1,some (cU s2))] [(cU s3)]),(1,.call [7,6,(p+2),p] (sl (p+3) k4 k4) [(7,some (.cells [(sl 6 l g)] 75 none false)),(6,some (cU ms)),(p+2,some (cU s3)),(p,some (cU s1))] [(cU s4)]),(6,.op (.rwI (d:Int))),(0,.op (.idx d)),(0,.op (.ld (sl (pb b1 d) (pk d) (pk d)))),(0,.call [7,6,(p+3),(pb b1 d)] (sl (p+4) k5 k5) [(7,some (.cells [(sl 6 l g)] 75 none false)),(6,some (cU ms)),(p+3,some (cU s4)),((pb b1 d),some (cU (pz d)))] [(cU s5)]),(4,.stay)]) ?_ (aI (show q<(Aa ds).size∧Utf8.decode (Aa ds) q=((48+d),1)∧q+1=(q+1) from⟨hq,he,rfl⟩) (aI hc1 (aI hc3 (aI hc5 (aI hc7 (aI (wI32 (a:=((((48+d):Nat):Int)-(48:Int))) (r:=(d:Int))) (aI (ix (d:Int) ((10:Nat):Int) 0 1 d) (aI (show ([(sl b1 (pk 0) (pk 0)),(sl (b1+2) (pk 1) (pk 1)),(sl (b1+3) (pk 2) (pk 2)),(sl (b1+4) (pk 3) (pk 3)),(sl (b1+5) (pk 4) (pk 4)),(sl (b1+6) (pk 5) (pk 5)),(sl (b1+7) (pk 6) (pk 6)),(sl (b1+8) (pk 7) (pk 7)),(sl (b1+9) (pk 8) (pk 8)),(sl (b1+10) (pk 9) (pk 9))]:List Value)[d]? =some (sl (pb b1 d) (pk d) (pk d)) from (by rcases hd with rfl|rfl|rfl|rfl|rfl|rfl|rfl|rfl|rfl|rfl<;>rfl)) (aI hc9 tt)))))))))
 rcases hb with rfl|rfl<;>rcases hp with rfl|rfl<;>rcases hd with rfl|rfl|rfl|rfl|rfl|rfl|rfl|rfl|rfl|rfl<;>kernel_rfl
theorem pm_o(b1 p:Nat)(hb:B1 b1)(hp:P3 b1 p)(ds xs ms ws:List Nat)(n c l g u q:Nat)(pz:Nat→List Nat)(pk:Nat→Nat)(j:List Value)(hq:(Aa ds).size≤q)(hr:GT (Cg 141 #[(sl 5 n c),(.string (Aa ds)),(sl 6 l g)] 7 [(5,(cU xs)),(6,(cU ms))]) (pmh b1 p ds xs ms ws n c l g u q pz pk j)):CT 141 #[(sl 5 n c),(.string (Aa ds)),(sl 6 l g)] (Ag 7 [(5,(cU xs)),(6,(cU ms))]) (sl (rb b1 p) (ru b1 p (pk 0) u) (ru b1 p (pk 0) u)) (Ag p [(5,(cU xs)),(6,(cU ms)),((rb b1 p),(cU (rz b1 p (pz 0) ws)))]):=by
 refine sF (sc:=[(2,.op (.nxtE)),(11,.stay)]) ?_ (aI (show ¬q<(Aa ds).size from om) tt) hr
 rcases hb with rfl|rfl<;>rcases hp with (rfl|rfl)|rfl<;>kernel_rfl
theorem mm{a b x i k M:Nat}(h1:a=x^i%M)(h2:b=x^k%M):a*b%M=x^(i+k)%M:=by rw[h1,h2,←Nat.mul_mod,←Nat.pow_add]
def GP(xs ms:List Nat)(n l:Nat)(zs:List Nat)(t e:Nat):Prop:=Lim zs∧t≤zs.length∧(0<t→zs.getD (t-1) 0≠0)∧val (zs.take t)=val (xs.take n)^e%val (ms.take l)
theorem Tr{xs ms zs:List Nat}{n l t e:Nat}(hlm:Lim ms)(hl:l≤ms.length)(hM:0<val (ms.take l))(h:GP xs ms n l zs t e):t≤l:=by
 rcases Nat.lt_or_ge l t with g|g
 ·have h1:=val_lt_of_len hlm hl g h.2.2.1
  have h2:=h.2.2.2
  have h3:=Nat.mod_lt (val (xs.take n)^e) hM
  omega
 ·exact g
theorem chain{α:Type}{R:Nat→α→α→Prop}{Q:Nat→α→Prop}(a:α)(h0:Q 0 a)(hs: ∀i x,Q i x→ ∃y,Q (i+1) y∧R i x y): ∃f:Nat→α,f 0=a∧ ∀i,Q i (f i)∧R i (f i) (f (i+1)):=by
 let F:(i:Nat)→{x:α//Q i x}:=fun i=>Nat.rec ⟨a,h0⟩ (fun i x=>⟨Classical.choose (hs i x.1 x.2),(Classical.choose_spec (hs i x.1 x.2)).1⟩) i
 exact⟨fun i=>(F i).1,rfl,fun i=>⟨(F i).2,(Classical.choose_spec (hs i (F i).1 (F i).2)).2⟩⟩
theorem pq_eta{α:Type}(f:Nat→α):pq (f 0) f=f:=funext fun i=>by cases i<;>rfl
theorem rb_bd{b1 p:Nat}(hb:B1 b1)(hp:P2 b1 p):7<rb b1 p∧rb b1 p<p:=by
 rcases hb with rfl|rfl<;>rcases hp with rfl|rfl<;>decide
theorem pb_bd{b1 p d:Nat}(hb:B1 b1)(hp:P2 b1 p)(hd:d<10):7<pb b1 d∧pb b1 d<p:=by
 unfold pb
 cases h:Nat.beq d 0
 ·rcases hb with rfl|rfl<;>rcases hp with rfl|rfl<;>simp only[cond]<;>omega
 ·rcases hb with rfl|rfl<;>rcases hp with rfl|rfl<;>simp only[cond]<;>omega
theorem pb_bd0{b1 i:Nat}(hb:7<b1):7<pb b1 i∧pb b1 i<b1+2+i:=by
 unfold pb
 cases h:Nat.beq i 0<;>simp only[cond]<;>omega
theorem d10{d:Nat}(h:d<10):D10 d:=by unfold D10;omega
theorem rz5{b1 p:Nat}(hp:P2 b1 p)(a b:List Nat):rz b1 (p+5) a b=b:=by
 unfold rz
 cases h:Nat.beq (p+5) (b1+12)
 ·rfl
 ·have:=Nat.eq_of_beq_eq_true h
  unfold P2 at hp
  omega
theorem ru5{b1 p:Nat}(hp:P2 b1 p)(a b:Nat):ru b1 (p+5) a b=b:=by
 unfold ru
 cases h:Nat.beq (p+5) (b1+12)
 ·rfl
 ·have:=Nat.eq_of_beq_eq_true h
  unfold P2 at hp
  omega
theorem pm_digit{s0:AS}{b1 p d:Nat}(hb:B1 b1)(hp:P2 b1 p)(hd:d<10){ds xs ms ws:List Nat}{n c l g u q e:Nat}{pz:Nat→List Nat}{pk:Nat→Nat}{j:List Value}(hlm:Lim ms)(hl:l≤ms.length)(hl24:l<24)(hl0:0<l)(hmt:0<l→ms.getD (l-1) 0≠0)(hM:0<val (ms.take l))
  (hG: ∀i,GP xs ms n l (pz i) (pk i) i) (hg:GP xs ms n l (rz b1 p (pz 0) ws) (ru b1 p (pk 0) u) e) (hq:q<(Aa ds).size) (he:Utf8.decode (Aa ds) q=(48+d,1)) (hr:GT s0 (pmh b1 p ds xs ms ws n c l g u q pz pk j)):
  ∃ws' u' j',GP xs ms n l (rz b1 (p+5) (pz 0) ws') (ru b1 (p+5) (pk 0) u') (10*e+d)∧GT s0 (pmh b1 (p+5) ds xs ms ws' n c l g u' (q+1) pz pk j'):=by
 have hbd:=rb_bd hb hp
 have hpd:=pb_bd hb hp hd
 have l0:=Tr hlm hl hM hg
 obtain⟨s1,k1,a1,a2,a3,a4,T1⟩:=ps_c p 7 6 (rb b1 p) (rz b1 p (pz 0) ws) ms (ru b1 p (pk 0) u) (ru b1 p (pk 0) u) l g om om hg.1 hg.2.1 hlm hl om hl0 hmt
 have g1:GP xs ms n l s1 k1 (e+e):=⟨a1,a2,a3,by rw[a4];exact mm hg.2.2.2 hg.2.2.2⟩
 have l1:=Tr hlm hl hM g1
 obtain⟨s2,k2,b2,c2,d2,e2,T2⟩:=ps_c (p+1) 7 6 p s1 ms k1 k1 l g om om a1 a2 hlm hl om hl0 hmt
 have g2:GP xs ms n l s2 k2 (e+e+(e+e)):=⟨b2,c2,d2,by rw[e2];exact mm g1.2.2.2 g1.2.2.2⟩
 have l2:=Tr hlm hl hM g2
 obtain⟨s3,k3,b3,c3,d3,e3,T3⟩:=ps_c (p+2) 7 6 (p+1) s2 ms k2 k2 l g om om b2 c2 hlm hl om hl0 hmt
 have g3:GP xs ms n l s3 k3 (e+e+(e+e)+(e+e+(e+e))):=⟨b3,c3,d3,by rw[e3];exact mm g2.2.2.2 g2.2.2.2⟩
 have l3:=Tr hlm hl hM g3
 obtain⟨s4,k4,b4,c4,d4,e4,T4⟩:=pd_c (p+3) 7 6 (p+2) p s3 s1 ms k3 k3 k1 k1 l g om om b3 c3 om a1 a2 hlm hl om hl0 hmt
 have g4:GP xs ms n l s4 k4 (e+e+(e+e)+(e+e+(e+e))+(e+e)):=⟨b4,c4,d4,by rw[e4];exact mm g3.2.2.2 g1.2.2.2⟩
 have l4:=Tr hlm hl hM g4
 have gd:=hG d
 have ld:=Tr hlm hl hM gd
 obtain⟨s5,k5,b5,c5,d5,e5,T5⟩:=pd_c (p+4) 7 6 (p+3) (pb b1 d) s4 (pz d) ms k4 k4 (pk d) (pk d) l g om om b4 c4 om gd.1 gd.2.1 hlm hl om hl0 hmt
 have g5:GP xs ms n l s5 k5 (10*e+d):=⟨b5,c5,d5,by rw[e5,mm g4.2.2.2 gd.2.2.2];congr 2;omega⟩
 refine⟨s5,k5,_,by rw[rz5 hp,ru5 hp];exact g5,hr.trans (pm_r b1 p d hb hp (d10 hd) ds xs ms ws n c l g u q pz pk j hq he hd s1 k1 T1 s2 k2 T2 s3 k3 T3 s4 k4 T4 s5 k5 T5)⟩
def PM(n0 bx bm:Nat)(xs ms ds:List Nat)(n c l g:Nat):Prop:= ∃rs u,GP xs ms n l rs u (Bh ds)∧
 FT 141 #[sl bx n c,.string (Aa ds),sl bm l g] n0 [(bx,cU xs),(bm,cU ms)] (sl n0 u u) [(bx,some (cU xs)),(bm,some (cU ms))] [cU rs]
theorem pm_end(n0 bx bm:Nat)(hbb:5≤bx∧bx<n0∧5≤bm∧bm<n0∧bx≠bm){b1 p:Nat}(hb:B1 b1)(hp:P3 b1 p){ds xs ms ws:List Nat}{n c l g u q:Nat}{pz:Nat→List Nat}{pk:Nat→Nat}{j:List Value}(hq:(Aa ds).size≤q)(hg:GP xs ms n l (rz b1 p (pz 0) ws) (ru b1 p (pk 0) u) (Bh ds))(hr:GT (Cg 141 #[(sl 5 n c),(.string (Aa ds)),(sl 6 l g)] 7 [(5,(cU xs)),(6,(cU ms))]) (pmh b1 p ds xs ms ws n c l g u q pz pk j)):PM n0 bx bm xs ms ds n c l g:=by
 have S:=pm_o b1 p hb hp ds xs ms ws n c l g u q pz pk j hq hr
 refine⟨_,_,hg,?_⟩
 generalize rz b1 p (pz 0) ws=R at*
 generalize ru b1 p (pk 0) u=U at*
 have F:=Dd (args':= #[sl bx n c,.string (Aa ds),sl bm l g]) (v':=sl n0 U U) [bx,bm] [cU xs,cU ms] [cU xs,cU ms] [rb b1 p] [cU R] n0 S
 rcases hb with rfl|rfl<;>rcases hp with (rfl|rfl)|rfl<;>exact F rfl rfl rfl (by simp[hbb.2.2.2.2]) (by simp;omega) om (by simp[Bb,Ab]) (by simp[Bb,Ab]) (by simp[Bb,Ab,AObj.ro]) sm (by intro i hi;rw[List.mem_singleton]at hi;subst hi;exact Nat.le_of_ble_eq_true rfl) rfl rfl rfl
theorem dval_snoc2(a b:Nat):Bh [a,b]=10*Bh [a]+b:=by simp[Bh];omega
theorem len2: ∀{ds:List Nat},ds.length=2→ ∃a b,ds=[a,b]
 |[a,b],_=>⟨a,b,rfl⟩
theorem pm_c(n0 bx bm:Nat)(xs ms ds:List Nat)(n c l g:Nat)(hbb:5≤bx∧bx<n0∧5≤bm∧bm<n0∧bx≠bm)(hn:n<1000)(hlx:Lim xs)(hc:n≤xs.length)(hlm:Lim ms)(hl:l≤ms.length)(hl24:l<24)(hl0:0<l)(hmt:0<l→ms.getD (l-1) 0≠0)(hd:Dig ds)(hL:ds.length=1∨ds.length=2):PM n0 bx bm xs ms ds n c l g:=by
 have hM:0<val (ms.take l):=by
  rcases Nat.eq_zero_or_pos (val (ms.take l)) with h|h
  ·have:=val_lt_of_len (xs:=ms) (ys:=ms) (n:=0) (k:=l) hlm (Nat.zero_le _) hl0 hmt
   omega
  ·exact h
 have main: ∀(b1:Nat) (hb:B1 b1) (one:List Nat) (o1:Nat) (h1:GP xs ms n l one o1 0)
   (hin: ∀(pz:Nat→List Nat) (pk:Nat→Nat),pz 0=one→pk 0=o1→(∀i,i<9→FT 180 #[sl (pb b1 i) (pk i) (pk i),sl 5 n c,pt 7] (b1+2+i) [(7,.cells [sl 6 l g] 75 none false),(6,cU ms),(pb b1 i,cU (pz i)),(5,cU xs)] (sl (b1+2+i) (pk (i+1)) (pk (i+1))) [(7,some (.cells [sl 6 l g] 75 none false)),(6,some (cU ms)),(pb b1 i,some (cU (pz i))),(5,some (cU xs))] [cU (pz (i+1))])→ ∃j,GT (Cg 141 #[(sl 5 n c),(.string (Aa ds)),(sl 6 l g)] 7 [(5,(cU xs)),(6,(cU ms))]) (pmh b1 (b1+12) ds xs ms [] n c l g 0 0 pz pk j)),PM n0 bx bm xs ms ds n c l g:=by
  intro b1 hb one o1 h1 hin
  have h7:7<b1:=by unfold B1 at hb;omega
  obtain⟨F,hF0,hF⟩:=chain (α:=List Nat×Nat) (Q:=fun i x=>GP xs ms n l x.1 x.2 i) (R:=fun i x y=>i<9→FT 180 #[sl (pb b1 i) x.2 x.2,sl 5 n c,pt 7] (b1+2+i) [(7,.cells [sl 6 l g] 75 none false),(6,cU ms),(pb b1 i,.cells (ns .u32 x.1) 121 none false),(5,cU xs)] (sl (b1+2+i) y.2 y.2) [(7,some (.cells [sl 6 l g] 75 none false)),(6,some (cU ms)),(pb b1 i,some (.cells (ns .u32 x.1) 121 none false)),(5,some (cU xs))] [.cells (ns .u32 y.1) 121 none false]) (one,o1) h1 (fun i x hx=>by
   have hb0:=pb_bd0 (i:=i) h7
   have lx:=Tr hlm hl hM hx
   obtain⟨rs,u,r1,r2,r3,r4,T⟩:=pd_c (b1+2+i) 7 6 (pb b1 i) 5 x.1 xs ms x.2 x.2 n c l g om om hx.1 hx.2.1 hn hlx hc hlm hl om hl0 hmt
   refine⟨(rs,u),⟨r1,r2,r3,?_⟩,fun _=>T⟩
   rw[r4,hx.2.2.2,Nat.pow_succ]
   exact Nat.mod_mul_mod _ _ _)
  obtain⟨j,hr⟩:=hin (fun i=>(F i).1) (fun i=>(F i).2) (by rw[hF0]) (by rw[hF0]) (fun i hi=>(hF i).2 hi)
  have hG: ∀i,GP xs ms n l (F i).1 (F i).2 i:=fun i=>(hF i).1
  have e1: ∀a b:List Nat,rz b1 (b1+12) a b=a:=fun a b=>by simp[rz]
  have e2: ∀a b:Nat,ru b1 (b1+12) a b=a:=fun a b=>by simp[ru]
  have hg0:GP xs ms n l (rz b1 (b1+12) (F 0).1 []) (ru b1 (b1+12) (F 0).2 0) 0:=by rw[e1,e2];exact hG 0
  rcases hL with hL|hL
  ·obtain⟨a,rfl⟩: ∃a,ds=[a]:=List.length_eq_one_iff.1 hL
   have ha:a<10:=hd.get 0
   obtain⟨ws,u,j2,g2,r2⟩:=pm_digit hb (.inl rfl) ha hlm hl hl24 hl0 hmt hM hG hg0 (by simp[Af]) (Kj hd (p:=0) sm) hr
   exact pm_end n0 bx bm hbb hb (.inl (.inr rfl)) (by simp[Af]) (by simpa [Bh] using g2) r2
  ·obtain⟨a,b,rfl⟩: ∃a b,ds=[a,b]:=len2 hL
   have ha:a<10:=hd.get 0
   have hb':b<10:=hd.get 1
   obtain⟨ws,u,j2,g2,r2⟩:=pm_digit hb (.inl rfl) ha hlm hl hl24 hl0 hmt hM hG hg0 (by simp[Af]) (Kj hd (p:=0) sm) hr
   obtain⟨ws',u',j3,g3,r3⟩:=pm_digit hb (.inr rfl) hb' hlm hl hl24 hl0 hmt hM hG g2 (by simp[Af]) (Kj hd (p:=1) sm) r2
   exact pm_end n0 bx bm hbb hb (.inr rfl) (by simp[Af]) (by rw[dval_snoc2];simpa [Bh] using g3) r3
 rcases ov_c 9 8 6 [1] ms 1 1 l g om (by intro z hz;simp at hz;omega) hlm de hl de om de hmt hl0 with⟨hlt,o⟩|⟨_,zs,t,rs,v,_,_,_,_,_,r1,r2,r3,r4,r5,o⟩
 ·refine main 8 (.inl rfl) [1] 1 ⟨by intro z hz;simp at hz;omega,by decide,by decide,?_⟩ (fun pz pk h1 h2 hp=> ?_)
  ·rw[Nat.pow_zero,Nat.mod_eq_of_lt (by simpa [val] using hlt)]
   decide
  ·have e1:pq [1] pz=pz:=by rw[←h1];exact pq_eta pz
   have e2:pq 1 pk=pk:=by rw[←h2];exact pq_eta pk
   have:=pm_in1 ds xs ms n c l g pz pk o (by rw[e1,e2];exact hp)
   rw[e1,e2]at this
   exact⟨_,this⟩
 ·refine main 10 (.inr rfl) rs v ⟨r1,r2,r4,?_⟩ (fun pz pk h1 h2 hp=> ?_)
  ·rw[r5,Nat.pow_zero]
   rfl
  ·have e1:pq rs pz=pz:=by rw[←h1];exact pq_eta pz
   have e2:pq v pk=pk:=by rw[←h2];exact pq_eta pk
   have:=pm_in0 ds xs ms n c l g pz pk zs t rs v o (by rw[e1,e2];exact hp)
   rw[e1,e2]at this
   exact⟨_,this⟩
end Go.Proofs.YtldoiilgfcpipaaGreatDoor
