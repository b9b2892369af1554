import Derived.Test.YtjbflfbhfnkmlaaGreatDoorROver1
import Derived.Test.YtjbflfbhfnkmlaaGreatDoorPToInt
import Derived.Test.YtjbflfbhfnkmlaaGreatDoorLF
set_option linter.unusedVariables false
set_option linter.unusedSimpArgs false
set_option maxRecDepth 100000
namespace Go.Proofs.YtjbflfbhfnkmlaaGreatDoor
open Go Go.AE Seg
def OKJ(i:Nat):Bool:=Nat.blt i 16
def OSt(s0:AS)(o1 o2:Option Nat)(e1 e2:Nat)(xs ys:List Nat)(n k:Nat)(zs:List Nat)(i R:Nat):Prop:=
 (∃v8 v9 j,Aj v8=true∧Aj v9=true∧Gm OKJ j=true∧R=0∧GT s0 (oa o1 o2 e1 e2 xs ys zs n k ((i:Int)-1) v8 v9 j))∨
 ∃rs t v8 v9 j,Aj v8=true∧Aj v9=true∧Gm OKJ j=true∧F.Lim rs∧t≤rs.length∧(0<t→rs.getD (t-1) 0≠0)∧F.val (rs.take t)=R∧GT s0 (oc o1 o2 e1 e2 xs ys zs rs n k t ((i:Int)-1) v8 v9 j)
theorem okj_fix{b:Nat}(h:16≤b)(i:Nat)(hi:OKJ i=true):Ak b 2 i=i:=slide_fix h i hi
theorem Xg{q:Nat}(h:q<10000):F.Lim [q]:=fun x hx=>by
 rw[List.mem_singleton]at hx
 omega
theorem val1(q:Nat):F.val ([q].take 1)=q:=by simp[F.val]
theorem Ug{xs ys:List Nat}{n k:Nat}(hlx:F.Lim xs)(hn:n≤xs.length)(hx:0<n→xs.getD (n-1) 0≠0)(hly:F.Lim ys)(hk:k≤ys.length)(h:F.val (xs.take n)≤F.val (ys.take k)):n≤k:=by
 rcases Nat.lt_or_ge k n with g|g
 ·have:=F.val_lt_of_len hly hk g hx
  omega
 ·exact g
theorem ob0{s0:AS}(hs0:s0.h.next=7){o1 o2:Option Nat}{e1 e2:Nat}{xs ys zs ws:List Nat}{n k i a u q0 t:Nat}{jc j:List Value}{v8 v9:Value}(hn:n<70368744177)(hkm:k<70368744177)(hi:i<n)(hzl:zs.length=n)(hly:F.Lim ys)(hky:k≤ys.length)(hV:0<F.val (ys.take k))
  (hlw:F.Lim ws) (huw:u≤ws.length) (hum:u<1099511627776) (hut:0<u→ws.getD (u-1) 0≠0) (h8:Aj v8=true) (h9:Aj v9=true) (hjc:Cm (Ak 17 2) jc) (hqm:q0<10000) (hq:F.val (ws.take u)/F.val (ys.take k)≤q0)
  (hr:GT s0 (oi0 o1 o2 e1 e2 xs ys zs ws n k i a u q0 t q0 v8 v9 jc j)):
  OSt s0 o1 o2 e1 e2 xs ys n k (zs.set i (F.val (ws.take u)/F.val (ys.take k))) i (F.val (ws.take u)-F.val (ws.take u)/F.val (ys.take k)*F.val (ys.take k)):=by
 refine F.down_loop (I:=fun q=> ∃v8 v9 jc j,Aj v8=true∧Aj v9=true∧Cm (Ak 17 2) jc∧GT s0 (oi0 o1 o2 e1 e2 xs ys zs ws n k i a u q0 t q v8 v9 jc j)) (O:=fun q R=>OSt s0 o1 o2 e1 e2 xs ys n k (zs.set i q) i R) hV ?_ ?_ ?_ q0 hqm hq ⟨v8,v9,jc,j,h8,h9,hjc,hr⟩
 ·rintro q hq hqm hg ⟨v8,v9,jc,j,h8,h9,hjc,h⟩
  obtain⟨ps,p1,p2,p3,T⟩:=rtg_c o2 none e2 1 20 6 19 ys [q] k 1 om hly (Xg hqm) hky sm hkm om
  have C:=Sr none none (k+1) 1 ps ws (F.top ps (k+1)) u 21 20 16 om p1 hlw (by rw[p2];exact F.top_le _ _) huw (by have:=F.top_le ps (k+1);omega) hum (F.top_pos ps (k+1)) hut
  exact⟨_,_,_,_,rfl,rfl,(by unfold Cm;simp only[Qr,Ap _ hjc]),oi0_r hs0 o1 o2 e1 e2 xs ys zs ws n k i a u q0 t q v8 v9 jc j hn hkm hjc hq hqm ps _ T _ (by rw[p3,val1,Lc (by rw[Nat.mul_comm];exact hg)];decide) C h⟩
 ·rintro q hq hqm hg ⟨v8,v9,jc,j,h8,h9,hjc,h⟩
  obtain⟨ps,p1,p2,p3,T⟩:=rtg_c o2 none e2 1 20 6 19 ys [q] k 1 om hly (Xg hqm) hky sm hkm om
  have C:=Sr none none (k+1) 1 ps ws (F.top ps (k+1)) u 21 20 16 om p1 hlw (by rw[p2];exact F.top_le _ _) huw (by have:=F.top_le ps (k+1);omega) hum (F.top_pos ps (k+1)) hut
  have T2:=rtgz_c o2 none e2 1 22 6 21 ys [q] ps k 1 om p1 p2 p3 hly (Xg hqm) hky sm hkm om
  have hle:F.val (ps.take (F.top ps (k+1)))≤F.val (ws.take u):=by rw[p3,val1,Nat.mul_comm];exact hg
  have hpu:=Ug p1 (by rw[p2];exact F.top_le ps (k+1)) (F.top_pos ps (k+1)) hlw huw hle
  have hpos:0<F.val (ws.take u):=Nat.lt_of_lt_of_le (Nat.mul_pos hq hV) hg
  have hu0:0<u:=by
   rcases Nat.eq_zero_or_pos u with g|g
   ·rw[g]at hpos
    exact absurd hpos (by simp[F.val])
   ·exact g
  obtain⟨os,v,m1,m2,m3,m4,M⟩:=rmg_c none none 1 (k+1) ws ps u (F.top ps (k+1)) huw (by rw[p2];exact F.top_le ps (k+1)) hlw p1 hum (by have:=F.top_le ps (k+1);omega) hu0 hpu hle
  refine .inr ⟨os,v,v8,v9,_,h8,h9,by kernel_rfl,m1,by rw[m2];exact F.top_le _ _,by rw[m2];exact F.top_pos _ _,?_,oi0_q hs0 o1 o2 e1 e2 xs ys zs ws n k i a u q0 t q v8 v9 jc j hn hkm h8 h9 hq hi hzl ps _ T _ (F.cmpN_le hle) C T2 os v (M 23 16 22 om om om om om) h⟩
  rw[p3,val1,Nat.mul_comm]at m4
  omega
 ·rintro hlt ⟨v8,v9,jc,j,h8,h9,hjc,h⟩
  rcases Nat.eq_zero_or_pos u with hu0|hu0
  ·subst hu0
   have C:=Sr none none k 1 (List.replicate k 0) ws 0 0 20 19 16 om (F.Lim.replicate k) hlw (Nat.zero_le _) huw de de (fun h=>absurd h de) (fun h=>absurd h de)
   exact .inl ⟨v8,v9,_,h8,h9,by kernel_rfl,rfl,oi0_n hs0 o1 o2 e1 e2 xs ys zs ws n k i a q0 t v8 v9 jc j hn hkm h8 h9 hi hzl _ (F.cmpN_le (Nat.le_refl _)) C h⟩
  ·have C:=Sr none none k 1 (List.replicate k 0) ws 0 u 20 19 16 om (F.Lim.replicate k) hlw (Nat.zero_le _) huw de hum (fun h=>absurd h de) hut
   skip
   obtain⟨os,v,m1,m2,m3,m4,M⟩:=rmg_c none none 1 k ws (List.replicate k 0) u 0 huw (Nat.zero_le _) hlw (F.Lim.replicate k) hum de hu0 (Nat.zero_le _) (Nat.zero_le _)
   refine .inr ⟨os,v,v8,v9,_,h8,h9,by kernel_rfl,m1,by rw[m2];exact F.top_le _ _,by rw[m2];exact F.top_pos _ _,?_,oi0_z hs0 o1 o2 e1 e2 xs ys zs ws n k i a u q0 t v8 v9 jc j hn hkm h8 h9 hi hzl _ (F.cmpN_le (Nat.zero_le _)) C os v (M 21 16 20 om om om om om) h⟩
   simpa [F.val] using m4
theorem ob1{s0:AS}(hs0:s0.h.next=7){o1 o2:Option Nat}{e1 e2:Nat}{xs ys zs ws:List Nat}{n k i a u q0 t:Nat}{jc j:List Value}{v8 v9:Value}(hn:n<70368744177)(hkm:k<70368744177)(hi:i<n)(hzl:zs.length=n)(hly:F.Lim ys)(hky:k≤ys.length)(hV:0<F.val (ys.take k))
  (hlw:F.Lim ws) (huw:u≤ws.length) (hum:u<1099511627776) (hut:0<u→ws.getD (u-1) 0≠0) (h8:Aj v8=true) (h9:Aj v9=true) (hjc:Cm (Ak 17 2) jc) (hqm:q0<10000) (hq:F.val (ws.take u)/F.val (ys.take k)≤q0)
  (hr:GT s0 (oi1 o1 o2 e1 e2 xs ys zs ws n k i a u q0 t q0 v8 v9 jc j)):
  OSt s0 o1 o2 e1 e2 xs ys n k (zs.set i (F.val (ws.take u)/F.val (ys.take k))) i (F.val (ws.take u)-F.val (ws.take u)/F.val (ys.take k)*F.val (ys.take k)):=by
 refine F.down_loop (I:=fun q=> ∃v8 v9 jc j,Aj v8=true∧Aj v9=true∧Cm (Ak 17 2) jc∧GT s0 (oi1 o1 o2 e1 e2 xs ys zs ws n k i a u q0 t q v8 v9 jc j)) (O:=fun q R=>OSt s0 o1 o2 e1 e2 xs ys n k (zs.set i q) i R) hV ?_ ?_ ?_ q0 hqm hq ⟨v8,v9,jc,j,h8,h9,hjc,hr⟩
 ·rintro q hq hqm hg ⟨v8,v9,jc,j,h8,h9,hjc,h⟩
  obtain⟨ps,p1,p2,p3,T⟩:=rtg_c o2 none e2 1 20 6 19 ys [q] k 1 om hly (Xg hqm) hky sm hkm om
  have C:=Sr none none (k+1) 1 ps ws (F.top ps (k+1)) u 21 20 16 om p1 hlw (by rw[p2];exact F.top_le _ _) huw (by have:=F.top_le ps (k+1);omega) hum (F.top_pos ps (k+1)) hut
  exact⟨_,_,_,_,rfl,rfl,(by unfold Cm;simp only[Qr,Ap _ hjc]),oi1_r hs0 o1 o2 e1 e2 xs ys zs ws n k i a u q0 t q v8 v9 jc j hn hkm hjc hq hqm ps _ T _ (by rw[p3,val1,Lc (by rw[Nat.mul_comm];exact hg)];decide) C h⟩
 ·rintro q hq hqm hg ⟨v8,v9,jc,j,h8,h9,hjc,h⟩
  obtain⟨ps,p1,p2,p3,T⟩:=rtg_c o2 none e2 1 20 6 19 ys [q] k 1 om hly (Xg hqm) hky sm hkm om
  have C:=Sr none none (k+1) 1 ps ws (F.top ps (k+1)) u 21 20 16 om p1 hlw (by rw[p2];exact F.top_le _ _) huw (by have:=F.top_le ps (k+1);omega) hum (F.top_pos ps (k+1)) hut
  have T2:=rtgz_c o2 none e2 1 22 6 21 ys [q] ps k 1 om p1 p2 p3 hly (Xg hqm) hky sm hkm om
  have hle:F.val (ps.take (F.top ps (k+1)))≤F.val (ws.take u):=by rw[p3,val1,Nat.mul_comm];exact hg
  have hpu:=Ug p1 (by rw[p2];exact F.top_le ps (k+1)) (F.top_pos ps (k+1)) hlw huw hle
  have hpos:0<F.val (ws.take u):=Nat.lt_of_lt_of_le (Nat.mul_pos hq hV) hg
  have hu0:0<u:=by
   rcases Nat.eq_zero_or_pos u with g|g
   ·rw[g]at hpos
    exact absurd hpos (by simp[F.val])
   ·exact g
  obtain⟨os,v,m1,m2,m3,m4,M⟩:=rmg_c none none 1 (k+1) ws ps u (F.top ps (k+1)) huw (by rw[p2];exact F.top_le ps (k+1)) hlw p1 hum (by have:=F.top_le ps (k+1);omega) hu0 hpu hle
  refine .inr ⟨os,v,v8,v9,_,h8,h9,by kernel_rfl,m1,by rw[m2];exact F.top_le _ _,by rw[m2];exact F.top_pos _ _,?_,oi1_q hs0 o1 o2 e1 e2 xs ys zs ws n k i a u q0 t q v8 v9 jc j hn hkm h8 h9 hq hi hzl ps _ T _ (F.cmpN_le hle) C T2 os v (M 23 16 22 om om om om om) h⟩
  rw[p3,val1,Nat.mul_comm]at m4
  omega
 ·rintro hlt ⟨v8,v9,jc,j,h8,h9,hjc,h⟩
  rcases Nat.eq_zero_or_pos u with hu0|hu0
  ·subst hu0
   have C:=Sr none none k 1 (List.replicate k 0) ws 0 0 20 19 16 om (F.Lim.replicate k) hlw (Nat.zero_le _) huw de de (fun h=>absurd h de) (fun h=>absurd h de)
   exact .inl ⟨v8,v9,_,h8,h9,by kernel_rfl,rfl,oi1_n hs0 o1 o2 e1 e2 xs ys zs ws n k i a q0 t v8 v9 jc j hn hkm h8 h9 hi hzl _ (F.cmpN_le (Nat.le_refl _)) C h⟩
  ·have C:=Sr none none k 1 (List.replicate k 0) ws 0 u 20 19 16 om (F.Lim.replicate k) hlw (Nat.zero_le _) huw de hum (fun h=>absurd h de) hut
   skip
   obtain⟨os,v,m1,m2,m3,m4,M⟩:=rmg_c none none 1 k ws (List.replicate k 0) u 0 huw (Nat.zero_le _) hlw (F.Lim.replicate k) hum de hu0 (Nat.zero_le _) (Nat.zero_le _)
   refine .inr ⟨os,v,v8,v9,_,h8,h9,by kernel_rfl,m1,by rw[m2];exact F.top_le _ _,by rw[m2];exact F.top_pos _ _,?_,oi1_z hs0 o1 o2 e1 e2 xs ys zs ws n k i a u q0 t v8 v9 jc j hn hkm h8 h9 hi hzl _ (F.cmpN_le (Nat.zero_le _)) C os v (M 21 16 20 om om om om om) h⟩
   simpa [F.val] using m4
theorem Wq{s0:AS}(hs0:s0.h.next=7){o1 o2:Option Nat}{e1 e2:Nat}{xs ys zs ws:List Nat}{n k i a u q0 t:Nat}{jc j:List Value}{v8 v9:Value}(hn:n<70368744177)(hkm:k<70368744177)(hi:i<n)(hzl:zs.length=n)(hly:F.Lim ys)(hky:k≤ys.length)(hV:0<F.val (ys.take k))
  (hlw:F.Lim ws) (huw:u≤ws.length) (hum:u<1099511627776) (hut:0<u→ws.getD (u-1) 0≠0) (hu:0<u) (h8:Aj v8=true) (h9:Aj v9=true) (hjc:Cm (Ak 18 2) jc) (hqm:q0<10000) (hq:F.val (ws.take u)/F.val (ys.take k)≤q0)
  (hr:GT s0 (oi2 o1 o2 e1 e2 xs ys zs ws n k i a u q0 t q0 v8 v9 jc j)):
  OSt s0 o1 o2 e1 e2 xs ys n k (zs.set i (F.val (ws.take u)/F.val (ys.take k))) i (F.val (ws.take u)-F.val (ws.take u)/F.val (ys.take k)*F.val (ys.take k)):=by
 refine F.down_loop (I:=fun q=> ∃v8 v9 jc j,Aj v8=true∧Aj v9=true∧Cm (Ak 18 2) jc∧GT s0 (oi2 o1 o2 e1 e2 xs ys zs ws n k i a u q0 t q v8 v9 jc j)) (O:=fun q R=>OSt s0 o1 o2 e1 e2 xs ys n k (zs.set i q) i R) hV ?_ ?_ ?_ q0 hqm hq ⟨v8,v9,jc,j,h8,h9,hjc,hr⟩
 ·rintro q hq hqm hg ⟨v8,v9,jc,j,h8,h9,hjc,h⟩
  obtain⟨ps,p1,p2,p3,T⟩:=rtg_c o2 none e2 1 21 6 20 ys [q] k 1 om hly (Xg hqm) hky sm hkm om
  have C:=Sr none (some 1) (k+1) 0 ps ws (F.top ps (k+1)) u 22 21 17 om p1 hlw (by rw[p2];exact F.top_le _ _) huw (by have:=F.top_le ps (k+1);omega) hum (F.top_pos ps (k+1)) hut
  exact⟨_,_,_,_,rfl,rfl,(by unfold Cm;simp only[Qr,Ap _ hjc]),oi2_r hs0 o1 o2 e1 e2 xs ys zs ws n k i a u q0 t q v8 v9 jc j hn hkm hjc hq hqm ps _ T _ (by rw[p3,val1,Lc (by rw[Nat.mul_comm];exact hg)];decide) C h⟩
 ·rintro q hq hqm hg ⟨v8,v9,jc,j,h8,h9,hjc,h⟩
  obtain⟨ps,p1,p2,p3,T⟩:=rtg_c o2 none e2 1 21 6 20 ys [q] k 1 om hly (Xg hqm) hky sm hkm om
  have C:=Sr none (some 1) (k+1) 0 ps ws (F.top ps (k+1)) u 22 21 17 om p1 hlw (by rw[p2];exact F.top_le _ _) huw (by have:=F.top_le ps (k+1);omega) hum (F.top_pos ps (k+1)) hut
  have T2:=rtgz_c o2 none e2 1 23 6 22 ys [q] ps k 1 om p1 p2 p3 hly (Xg hqm) hky sm hkm om
  have hle:F.val (ps.take (F.top ps (k+1)))≤F.val (ws.take u):=by rw[p3,val1,Nat.mul_comm];exact hg
  have hpu:=Ug p1 (by rw[p2];exact F.top_le ps (k+1)) (F.top_pos ps (k+1)) hlw huw hle
  have hpos:0<F.val (ws.take u):=Nat.lt_of_lt_of_le (Nat.mul_pos hq hV) hg
  have hu0:0<u:=by
   rcases Nat.eq_zero_or_pos u with g|g
   ·rw[g]at hpos
    exact absurd hpos (by simp[F.val])
   ·exact g
  obtain⟨os,v,m1,m2,m3,m4,M⟩:=rmg_c (some 1) none 0 (k+1) ws ps u (F.top ps (k+1)) huw (by rw[p2];exact F.top_le ps (k+1)) hlw p1 hum (by have:=F.top_le ps (k+1);omega) hu0 hpu hle
  refine .inr ⟨os,v,v8,v9,_,h8,h9,by kernel_rfl,m1,by rw[m2];exact F.top_le _ _,by rw[m2];exact F.top_pos _ _,?_,oi2_q hs0 o1 o2 e1 e2 xs ys zs ws n k i a u q0 t q v8 v9 jc j hn hkm h8 h9 hq hi hzl ps _ T _ (F.cmpN_le hle) C T2 os v (M 24 17 23 om om om om om) h⟩
  rw[p3,val1,Nat.mul_comm]at m4
  omega
 ·rintro hlt ⟨v8,v9,jc,j,h8,h9,hjc,h⟩
  have C:=Sr none (some 1) k 0 (List.replicate k 0) ws 0 u 21 20 17 om (F.Lim.replicate k) hlw (Nat.zero_le _) huw de hum (fun h=>absurd h de) hut
  have hu0:0<u:=hu
  obtain⟨os,v,m1,m2,m3,m4,M⟩:=rmg_c (some 1) none 0 k ws (List.replicate k 0) u 0 huw (Nat.zero_le _) hlw (F.Lim.replicate k) hum de hu0 (Nat.zero_le _) (Nat.zero_le _)
  refine .inr ⟨os,v,v8,v9,_,h8,h9,by kernel_rfl,m1,by rw[m2];exact F.top_le _ _,by rw[m2];exact F.top_pos _ _,?_,oi2_z hs0 o1 o2 e1 e2 xs ys zs ws n k i a u q0 t v8 v9 jc j hn hkm h8 h9 hi hzl _ (F.cmpN_le (Nat.zero_le _)) C os v (M 22 17 21 om om om om om) h⟩
  simpa [F.val] using m4
theorem o_place{s0:AS}(hs0:s0.h.next=7){o1 o2:Option Nat}{e1 e2:Nat}{xs ys zs:List Nat}{n k i R:Nat}(hn:n<70368744177)(hkm:k<70368744177)(hi:i<n)(hzl:zs.length=n)(hlx:F.Lim xs)(hnx:n≤xs.length)(hly:F.Lim ys)(hky:k≤ys.length)(hk0:0<k)(hyt:ys.getD (k-1) 0≠0)(hRV:R<F.val (ys.take k))
  (h:OSt s0 o1 o2 e1 e2 xs ys n k zs (i+1) R):OSt s0 o1 o2 e1 e2 xs ys n k (zs.set i ((xs.getD i 0+10000*R)/F.val (ys.take k))) i (xs.getD i 0+10000*R-(xs.getD i 0+10000*R)/F.val (ys.take k)*F.val (ys.take k)):=by
 have hV:0<F.val (ys.take k):=by omega
 have ha:=hlx.get i
 have hx:(ns .i64 xs)[i]? =some (nI (xs.getD i 0)):=Aq om
 generalize xs.getD i 0=a at*
 unfold OSt at h
 rw[show ((i+1:Nat):Int)-1=(i:Int) by omega]at h
 rcases h with⟨v8,v9,j,h8,h9,hj,hR0,hr⟩|⟨rs,t,v8,v9,j,h8,h9,hj,hlr,htl,htt,htv,hr⟩
 ·have T:=rs_c 17 16 [a] 1 1 om sm de de
  have hval:F.val (([a]).take (F.top [a] 1))=a+10000*R:=by
   rw[F.top_val,List.take_of_length_le sm]
   rw[F.cons_val,hR0,show F.val []=0 from rfl]
  have S:=gs_c none o2 1 e2 [a] ys (F.top [a] 1) k 17 16 6 om (Xg ha) hly (by have:=F.top_le [a] 1;simp;omega) hky (by have:=F.top_le [a] 1;omega) om hk0 hyt
  have hq:=F.guessF_ge (t:=F.top [a] 1) (Xg ha) hly hky hk0 hyt (by rw[hval];exact F.over_up hRV ha)
  have r:=oi0_in hs0 o1 o2 e1 e2 xs ys zs n k i a v8 v9 j hn hkm om hx 0 _ T _ S hr
  have o:=ob0 hs0 hn hkm om hzl hly hky hV (Xg ha) (by have:=F.top_le [a] 1;simp;omega) (by have:=F.top_le [a] 1;omega) (F.top_pos _ _) h8 h9 (Uu (okj_fix de) _ (by simp[Gm,good_J hj,jj])) (F.guessF_le _ _ _ _) hq r
  rw[hval]at o
  exact o
 ·rcases Nat.eq_zero_or_pos t with ht0|ht0
  ·subst ht0
   have T:=rs_c 17 16 [a] 1 1 om sm de de
   have hval:F.val (([a]).take (F.top [a] 1))=a+10000*R:=by
    rw[F.top_val,List.take_of_length_le sm]
    rw[F.cons_val,←htv,show F.val []=0 from rfl,List.take_zero,show F.val []=0 from rfl]
   have S:=gs_c none o2 1 e2 [a] ys (F.top [a] 1) k 17 16 6 om (Xg ha) hly (by have:=F.top_le [a] 1;simp;omega) hky (by have:=F.top_le [a] 1;omega) om hk0 hyt
   have hq:=F.guessF_ge (t:=F.top [a] 1) (Xg ha) hly hky hk0 hyt (by rw[hval];exact F.over_up hRV ha)
   have r:=oi1_in hs0 o1 o2 e1 e2 xs ys zs rs n k 0 i a v8 v9 j hn hkm om hx rfl (Nat.zero_le _) _ T _ S hr
   have o:=ob1 hs0 hn hkm om hzl hly hky hV (Xg ha) (by have:=F.top_le [a] 1;simp;omega) (by have:=F.top_le [a] 1;omega) (F.top_pos _ _) h8 h9 (Uu (okj_fix de) _ (by simp[Gm,good_J hj,jj])) (F.guessF_le _ _ _ _) hq r
   rw[hval]at o
   exact o
  ·have htk:t≤k:=Ug hlr htl htt hly hky om
   have hlw:F.Lim (a::rs.take t):=fun x hx=>by
    rcases List.mem_cons.1 hx with g|g
    ·omega
    ·exact hlr x (List.mem_of_mem_take g)
   have hup:0<F.top (a::rs.take t) (t+1):=by
    have e:(a::rs.take t).getD t 0≠0:=by
     obtain⟨t',rfl⟩: ∃t',t=t'+1:=⟨t-1,by omega⟩
     rw[List.getD_cons_succ,F.getD_take om]
     exact htt ht0
    rw[F.top_some e]
    omega
   have T:=rt_c 18 17 (a::rs.take t) (t+1) om (by simp;omega) om
   have hval:F.val (((a::rs.take t)).take (F.top (a::rs.take t) (t+1)))=a+10000*R:=by
    rw[F.top_val,List.take_of_length_le (by simp;omega)]
    rw[F.cons_val,htv]
   have S:=gs_c (some 1) o2 0 e2 (a::rs.take t) ys (F.top (a::rs.take t) (t+1)) k 18 17 6 om hlw hly (by have:=F.top_le (a::rs.take t) (t+1);simp;omega) hky (by have:=F.top_le (a::rs.take t) (t+1);omega) om hk0 hyt
   have hq:=F.guessF_ge (t:=F.top (a::rs.take t) (t+1)) hlw hly hky hk0 hyt (by rw[hval];exact F.over_up hRV ha)
   have r:=oi2_in hs0 o1 o2 e1 e2 xs ys zs rs n k t i a v8 v9 j hn hkm om hx ht0 om htl _ T _ S hr
   have o:=Wq hs0 hn hkm om hzl hly hky hV hlw (by have:=F.top_le (a::rs.take t) (t+1);simp;omega) (by have:=F.top_le (a::rs.take t) (t+1);omega) (F.top_pos _ _) hup h8 h9 (Uu (okj_fix de) _ (by simp[Gm,good_J hj,jj])) (F.guessF_le _ _ _ _) hq r
   rw[hval]at o
   exact o
theorem o_all{s0:AS}(hs0:s0.h.next=7){o1 o2:Option Nat}{e1 e2:Nat}{xs ys:List Nat}{n k:Nat}(hn:n<70368744177)(hkm:k<70368744177)(hlx:F.Lim xs)(hnx:n≤xs.length)(hly:F.Lim ys)(hky:k≤ys.length)(hk0:0<k)(hyt:ys.getD (k-1) 0≠0):
  ∀(i R:Nat) (zs:List Nat),i≤n→zs.length=n→F.Lim zs→R<F.val (ys.take k)→F.val (zs.drop i)*F.val (ys.take k)+R=F.val ((xs.take n).drop i)→OSt s0 o1 o2 e1 e2 xs ys n k zs i R→
   ∃zs' R',zs'.length=n∧F.Lim zs'∧R'<F.val (ys.take k)∧F.val zs'*F.val (ys.take k)+R'=F.val (xs.take n)∧OSt s0 o1 o2 e1 e2 xs ys n k zs' 0 R':=by
 intro i
 induction i with
 |zero=>
  intro R zs hi hz hl hR hv h
  rw[List.drop_zero,List.drop_zero]at hv
  exact⟨zs,R,hz,hl,hR,hv,h⟩
 |succ i ih=>
  intro R zs hi hz hl hR hv h
  have ha:=hlx.get i
  have h2:=o_place hs0 hn hkm om hz hlx hnx hly hky hk0 hyt hR h
  have hV:0<F.val (ys.take k):=by omega
  have hq:(xs.getD i 0+10000*R)/F.val (ys.take k)<10000:=Nat.div_lt_of_lt_mul (F.over_up hR ha)
  refine ih _ _ om (by rw[List.length_set];exact hz) (hl.set hq) (F.over_lt hV rfl) ?_ h2
  rw[F.val_drop_set om,F.val_drop' (xs.take n) i,F.getD_take om]
  exact F.over_step (T:=0) hv rfl
theorem dropn{l:List Nat}{n:Nat}(h:l.length≤n):F.val (l.drop n)=0:=by rw[List.drop_eq_nil_of_le h];rfl
theorem ro_c(o1 o2:Option Nat)(e1 e2:Nat)(n0 bx byy:Nat)(xs ys:List Nat)(n k:Nat)(hb:5≤bx∧bx<n0∧5≤byy∧byy<n0∧bx≠byy)(hlx:F.Lim xs)(hnx:n≤xs.length)(hly:F.Lim ys)(hky:k≤ys.length)(hn:n<70368744177)(hkm:k<70368744177)(hk0:0<k)(hyt:ys.getD (k-1) 0≠0):
  ∃zs R,F.Lim zs∧zs.length=n∧F.val zs=F.val (xs.take n)/F.val (ys.take k)∧R=F.val (xs.take n)%F.val (ys.take k)∧
   ((R=0∧FT 96 #[sl bx n e1,sl byy k e2] n0 [(bx,.cells (ns .i64 xs) 3 o1 false),(byy,.cells (ns .i64 ys) 3 o2 false)] (.tuple #[sl n0 (F.top zs n) n,.slice none 0 0]) [(bx,some (cI xs o1)),(byy,some (cI ys o2))] [.cells (ns .i64 zs) 3 none false])∨
    ∃rs t,F.Lim rs∧t≤rs.length∧(0<t→rs.getD (t-1) 0≠0)∧F.val (rs.take t)=R∧FT 96 #[sl bx n e1,sl byy k e2] n0 [(bx,.cells (ns .i64 xs) 3 o1 false),(byy,.cells (ns .i64 ys) 3 o2 false)] (.tuple #[sl n0 (F.top zs n) n,sl (n0+1) t 0]) [(bx,some (cI xs o1)),(byy,some (cI ys o2))] [.cells (ns .i64 zs) 3 none false,.cells (ns .i64 rs) 3 (some 1) false]):=by
 have hV:0<F.val (ys.take k):=by
  obtain⟨k',rfl⟩: ∃k',k=k'+1:=⟨k-1,by omega⟩
  rw[F.val_take_succ]
  have h1:1*1≤ys.getD k' 0*10000^k':=Nat.mul_le_mul (Nat.pos_of_ne_zero hyt) (F.pow_pos k')
  omega
 have r0:=oa_in (s0:=(Ca 96 #[(sl 5 n e1),(sl 6 k e2)] 7 [(5,(cI xs o1)),(6,(cI ys o2))])) rfl o1 o2 e1 e2 xs ys n k hn hkm (Gets.refl _)
 obtain⟨zs,R,z1,z2,z3,z4,z5⟩:=o_all rfl hn hkm hlx hnx hly hky hk0 hyt n 0 (List.replicate n 0) (Nat.le_refl _) sm (F.Lim.replicate n) hV (by rw[dropn sm,dropn (by rw[List.length_take];exact Nat.min_le_left _ _),Nat.zero_mul]) (.inl ⟨_,_,_,rfl,rfl,by kernel_rfl,rfl,r0⟩)
 have hd:F.val zs=F.val (xs.take n)/F.val (ys.take k)∧R=F.val (xs.take n)%F.val (ys.take k):=by
  rw[←z4,Nat.mul_comm]
  exact⟨by rw[Nat.mul_add_div hV,Nat.div_eq_of_lt z3,Nat.add_zero],by rw[Nat.mul_add_mod,Nat.mod_eq_of_lt z3]⟩
 refine⟨zs,R,z2,z1,hd.1,hd.2,?_⟩
 rcases z5 with⟨v8,v9,j,h8,h9,hj,hR0,hr⟩|⟨rs,t,v8,v9,j,h8,h9,hj,hlr,htl,htt,htv,hr⟩
 ·have S:=oa_e o1 o2 e1 e2 xs ys zs n k _ v8 v9 j hn hkm om z1 hr
  exact .inl ⟨hR0,ff [bx,byy] [.cells (ns .i64 xs) 3 o1 false,.cells (ns .i64 ys) 3 o2 false] [.cells (ns .i64 xs) 3 o1 false,.cells (ns .i64 ys) 3 o2 false] [7] [.cells (ns .i64 zs) 3 none false] n0 S (hnd:=by simp[hb.2.2.2.2])⟩
 ·have S:=oc_e o1 o2 e1 e2 xs ys zs rs n k t _ v8 v9 j hn hkm om z1 hr
  exact .inr ⟨rs,t,hlr,htl,htt,htv,ff [bx,byy] [.cells (ns .i64 xs) 3 o1 false,.cells (ns .i64 ys) 3 o2 false] [.cells (ns .i64 xs) 3 o1 false,.cells (ns .i64 ys) 3 o2 false] [7,8] [.cells (ns .i64 zs) 3 none false,.cells (ns .i64 rs) 3 (some 1) false] n0 S (hnd:=by simp[hb.2.2.2.2])⟩
noncomputable section
abbrev z_664_0(i l q:Nat)(cs:List Nat):List Value:=[(nI i),(.string (Aa cs)),(nI ((Aa cs).size)),bT,(nI i),(nI (i+1)),(nI l),(nI (10*l)),(.string (Aa cs)),(nI i),(nB ((UInt8.ofNat (48+q)).toNat)),(nB q),(nI q),(nI ((10*l)+q))]
abbrev z_664_1(i:Nat)(cs:List Nat)(ji:List Value):List Value:=[(nI i),(.string (Aa cs)),(nI ((Aa cs).size)),bF,(J ji 4),(J ji 5),(J ji 6),(J ji 7),(J ji 8),(J ji 9),(J ji 10),(J ji 11),(J ji 12),(J ji 13)]
abbrev Vq(cs:List Nat):Value:=.int .i64 ((((Aa cs).size:Nat):Int)-(4:Int))
abbrev Wo(cs:List Nat)(b:Nat):Value:=.string (Aa (cs.take b))
end
noncomputable def lb_a_f(cs:List Nat)(b l i:Nat)(ji:List Value)(j2:List Value):Frame:=(Fr 87 ([(.string (Aa cs)),uu,nS,nS,(nI b),(nI l),(nI i),(.string (Aa cs)),(nI ((Aa cs).size)),bT,(.string (Aa cs)),(nI ((Aa cs).size)),(Vq cs),(nI b),(nI b),(J ji 0),(J ji 1),(J ji 2),(J ji 3),(J ji 4),(J ji 5),(J ji 6),(J ji 7),(J ji 8),(J ji 9),(J ji 10),(J ji 11),(J ji 12),(J ji 13)]++(uj 9 [])) [.code (cd Tryz.f87 [1,1,0,0,0,1,0,1,1,0,1,0,0]),.inLoop (cd Tryz.f87 [1,1,0,0,0,1,0,1,1,0,1,0,0]),.inBlock 2,.code (cd Tryz.f87 [1,1,0,0,0,1,0,1,1,1]),.inBlock 1,.inLoop (cd Tryz.f87 [1,1,0,0,0]),.inBlock 0,.code (cd Tryz.f87 [1,1,1])])
noncomputable def lb_a_o(cs:List Nat)(b l i:Nat)(ji:List Value):List (Nat×AObj):=[]
noncomputable def lb_a(cs:List Nat)(b l i:Nat)(ji:List Value)(j2:List Value):AS:=⟨lb_a_f cs b l i ji j2,[],Ac 5 (lb_a_o cs b l i ji)⟩
theorem lb_in(cs:List Nat)(b:Nat)(h0:0<(Aa cs).size)(hm:(Aa cs).size<1099511627776)(hb:b=(Aa cs).size-4):GT (Ca 87 #[(.string (Aa cs))] 5 []) (lb_a cs b 0 b ([undef,undef,undef,undef,undef,undef,undef,undef,undef,undef,undef,undef,undef,undef]) []):=
 sR (sc:=[(16,.op (.rwB true)),(8,.op (.rwI ((((Aa cs).size:Nat):Int)-(4:Int)))),(0,.op (.rwI (b:Int))),(14,.stay)]) kr (aI (dT (p:=(((Aa cs).size:Nat):Int)>(0:Int))) (aI (Am (a:=((((Aa cs).size:Nat):Int)-(4:Int))) (r:=((((Aa cs).size:Nat):Int)-(4:Int)))) (aI (show (if ((((Aa cs).size:Nat):Int)-(4:Int))>(0:Int) then ((((Aa cs).size:Nat):Int)-(4:Int)) else (0:Int))=(b:Int) from (by split<;>omega)) tt)))
theorem lb_a1(cs:List Nat)(b l i:Nat)(ji j2:List Value)(q:Nat)(hq:q<10)(hl:l<1000)(hi:i<(Aa cs).size)(hm:(Aa cs).size<1099511627776)(hx:(Aa cs)[i]? =some (UInt8.ofNat (48+q))):GT (lb_a cs b l i ji j2) (lb_a cs b ((10*l)+q) (i+1) ((z_664_0 i l q cs)) []):=
 sR (sc:=[(6,.op (.rwB true)),(7,.op (.rwI (((10*l):Nat):Int))),(2,.op (.sidx (UInt8.ofNat (48+q)))),(0,.op (.rwI (q:Int))),(0,.op (.rwI (q:Int))),(0,.op (.rwI ((((10*l)+q):Nat):Int))),(5,.op (.rwI (((i+1):Nat):Int))),(3,.stay)]) kr (aI (dT (p:=(i:Int)<(((Aa cs).size:Nat):Int))) (aI (Am (a:=((10:Int)*(l:Int))) (r:=(((10*l):Nat):Int))) (aI (show 0≤(i:Int)∧(Aa cs)[Int.toNat (i:Int)]? =some (UInt8.ofNat (48+q)) from⟨by omega,hx⟩) (aI (show IntKind.wrap .u8 ((((UInt8.ofNat (48+q)).toNat:Nat):Int)-(48:Int))=(q:Int) from (Zb hq)) (aI (Am (a:=(q:Int)) (r:=(q:Int))) (aI (Am (a:=((((10*l):Nat):Int)+(q:Int))) (r:=((((10*l)+q):Nat):Int))) (aI (Am (a:=((i:Int)+(1:Int))) (r:=(((i+1):Nat):Int))) tt)))))))
noncomputable def lb_h_f(st:ByteArray)(ls:List Nat)(k:Nat)(jc:List Value)(j:List Value):Frame:=(Fr 87 ([(.string st),uu,nS,(sl 6 k 0)]++(jj j 0 11 ([(J jc 0),(J jc 1),(J jc 2),(J jc 3),(J jc 4),(J jc 5),(J jc 6),(J jc 7),(J jc 8),(J jc 9),(J jc 10),(J jc 11),(J jc 12),(J jc 13)]++(jj j 11 7 [uu,uu])))) [.code (cd Tryz.f87 [1,1,0,0,0]),.inLoop (cd Tryz.f87 [1,1,0,0,0]),.inBlock 0,.code (cd Tryz.f87 [1,1,1])])
noncomputable def lb_h_o(st:ByteArray)(ls:List Nat)(k:Nat)(jc:List Value):List (Nat×AObj):=[(6,(cI ls (some 1)))]
noncomputable def lb_h(st:ByteArray)(ls:List Nat)(k:Nat)(jc:List Value)(j:List Value):AS:=⟨lb_h_f st ls k jc j,[],Ac 9 (lb_h_o st ls k jc)⟩
theorem lb_2{s0:AS}(hs0:s0.h.next=5)(cs:List Nat)(b l i:Nat)(ji j2:List Value)(hji:Cm (Ar 5 0) ji)(hb:b≤(Aa cs).size)(hi:(Aa cs).size≤i)(hm:(Aa cs).size<1099511627776)(hr:GT s0 (lb_a cs b l i ji j2)):GT s0 (lb_h (Aa (cs.take b)) ([l]) 1 ((z_664_1 i cs ji)) [(nI b),(nI l),(nI i),(.string (Aa cs)),(nI ((Aa cs).size)),bT,(.string (Aa cs)),(nI ((Aa cs).size)),(Vq cs),(nI b),(nI b),nS,(nI l),(sl 5 1 1),(sl 6 1 0),(.string (Aa cs)),(nI b),(Wo cs b)]):=by
 have h1:=hr.trans (sR (sc:=[(6,.op (.rwB false)),(3,.drwM [(6,.sslc (Aa (cs.take b)))] []),(2,.stay)]) (fr1:=(Fr 87 [(Wo cs b),uu,nS,(sl 6 1 0),(nI b),(nI l),(nI i),(.string (Aa cs)),(nI ((Aa cs).size)),bT,(.string (Aa cs)),(nI ((Aa cs).size)),(Vq cs),(nI b),(nI b),(nI i),(.string (Aa cs)),(nI ((Aa cs).size)),bF,(J ji 4),(J ji 5),(J ji 6),(J ji 7),(J ji 8),(J ji 9),(J ji 10),(J ji 11),(J ji 12),(J ji 13),nS,(nI l),(sl 5 1 1),(sl 6 1 0),(.string (Aa cs)),(nI b),(Wo cs b),uu,uu] [.code (cd Tryz.f87 [1,1,0,0,0]),.inLoop (cd Tryz.f87 [1,1,0,0,0]),.inBlock 0,.code (cd Tryz.f87 [1,1,1])])) (next:=7) (l:=[(6,(.cells [(nI l)] 3 (some 1) false))]) kr (aI (dF (p:=(i:Int)<(((Aa cs).size:Nat):Int))) (aI (aI tt (aI tt (aI tt (aI tt (aI (show 0≤(0:Int)∧(0:Int)≤(b:Int)∧(b:Int)≤(((Aa cs).size:Nat):Int)∧(Aa cs).extract (Int.toNat (0:Int)) (Int.toNat (b:Int))=(Aa (cs.take b)) from⟨by omega,by omega,by omega,by rw[Hz];rfl⟩) (aI tt (aI tt (aI tt (aI tt tt))))))))) tt)))
 rw[←Ap (Ar 5 0) hji 10]at h1
 rw[←Ap (Ar 5 0) hji 11]at h1
 rw[←Ap (Ar 5 0) hji 12]at h1
 rw[←Ap (Ar 5 0) hji 13]at h1
 rw[←Ap (Ar 5 0) hji 4]at h1
 rw[←Ap (Ar 5 0) hji 5]at h1
 rw[←Ap (Ar 5 0) hji 6]at h1
 rw[←Ap (Ar 5 0) hji 7]at h1
 rw[←Ap (Ar 5 0) hji 8]at h1
 rw[←Ap (Ar 5 0) hji 9]at h1
 exact Di (b:=5) (k:=0) h1 kr rfl rfl rfl kr (by rw[hs0];decide) (by rw[hs0];decide) de de (by rfl) (by simp only[lb_h_o,List.map_cons,List.map_nil,Ep,Ah _ _ (Af _ _)]) kr
noncomputable def lb_g_f(cs ls:List Nat)(k b l i:Nat)(j jc:List Value)(ji:List Value)(j2:List Value):Frame:=(Fr 87 ([(.string (Aa cs)),uu,nS,(sl 6 k 0),(nI b),(nI l),(nI i),(.string (Aa cs)),(nI ((Aa cs).size)),bT,(.string (Aa cs)),(nI ((Aa cs).size)),(Vq cs),(nI b),(nI b),(J ji 0),(J ji 1),(J ji 2),(J ji 3),(J ji 4),(J ji 5),(J ji 6),(J ji 7),(J ji 8),(J ji 9),(J ji 10),(J ji 11),(J ji 12),(J ji 13)]++(jj j 11 7 [uu,uu])) [.code (cd Tryz.f87 [1,1,0,0,0,1,0,1,1,0,1,0,0]),.inLoop (cd Tryz.f87 [1,1,0,0,0,1,0,1,1,0,1,0,0]),.inBlock 2,.code (cd Tryz.f87 [1,1,0,0,0,1,0,1,1,1]),.inBlock 1,.inLoop (cd Tryz.f87 [1,1,0,0,0]),.inBlock 0,.code (cd Tryz.f87 [1,1,1])])
noncomputable def lb_g_o(cs ls:List Nat)(k b l i:Nat)(j jc:List Value)(ji:List Value):List (Nat×AObj):=[(6,(cI ls (some 1)))]
noncomputable def lb_g(cs ls:List Nat)(k b l i:Nat)(j jc:List Value)(ji:List Value)(j2:List Value):AS:=⟨lb_g_f cs ls k b l i j jc ji j2,[],Ac 9 (lb_g_o cs ls k b l i j jc ji)⟩
theorem lb_3(cs ls:List Nat)(k b:Nat)(j jc:List Value)(h0:0<(Aa cs).size)(hm:(Aa cs).size<1099511627776)(hb:b=(Aa cs).size-4):GT (lb_h (Aa cs) ls k jc j) (lb_g cs ls k b 0 b j jc ([(J jc 0),(J jc 1),(J jc 2),(J jc 3),(J jc 4),(J jc 5),(J jc 6),(J jc 7),(J jc 8),(J jc 9),(J jc 10),(J jc 11),(J jc 12),(J jc 13)]) []):=
 sR (sc:=[(5,.op (.rwB true)),(8,.op (.rwI ((((Aa cs).size:Nat):Int)-(4:Int)))),(0,.op (.rwI (b:Int))),(14,.stay)]) kr (aI (dT (p:=(((Aa cs).size:Nat):Int)>(0:Int))) (aI (Am (a:=((((Aa cs).size:Nat):Int)-(4:Int))) (r:=((((Aa cs).size:Nat):Int)-(4:Int)))) (aI (show (if ((((Aa cs).size:Nat):Int)-(4:Int))>(0:Int) then ((((Aa cs).size:Nat):Int)-(4:Int)) else (0:Int))=(b:Int) from (by split<;>omega)) tt)))
theorem lb_g1(cs ls:List Nat)(k b l i:Nat)(j jc ji j2:List Value)(q:Nat)(hq:q<10)(hl:l<1000)(hi:i<(Aa cs).size)(hm:(Aa cs).size<1099511627776)(hx:(Aa cs)[i]? =some (UInt8.ofNat (48+q))):GT (lb_g cs ls k b l i j jc ji j2) (lb_g cs ls k b ((10*l)+q) (i+1) j jc ((z_664_0 i l q cs)) []):=
 sR (sc:=[(6,.op (.rwB true)),(7,.op (.rwI (((10*l):Nat):Int))),(2,.op (.sidx (UInt8.ofNat (48+q)))),(0,.op (.rwI (q:Int))),(0,.op (.rwI (q:Int))),(0,.op (.rwI ((((10*l)+q):Nat):Int))),(5,.op (.rwI (((i+1):Nat):Int))),(3,.stay)]) kr (aI (dT (p:=(i:Int)<(((Aa cs).size:Nat):Int))) (aI (Am (a:=((10:Int)*(l:Int))) (r:=(((10*l):Nat):Int))) (aI (show 0≤(i:Int)∧(Aa cs)[Int.toNat (i:Int)]? =some (UInt8.ofNat (48+q)) from⟨by omega,hx⟩) (aI (show IntKind.wrap .u8 ((((UInt8.ofNat (48+q)).toNat:Nat):Int)-(48:Int))=(q:Int) from (Zb hq)) (aI (Am (a:=(q:Int)) (r:=(q:Int))) (aI (Am (a:=((((10*l):Nat):Int)+(q:Int))) (r:=((((10*l)+q):Nat):Int))) (aI (Am (a:=((i:Int)+(1:Int))) (r:=(((i+1):Nat):Int))) tt)))))))
theorem lb_4{s0:AS}(hs0:s0.h.next=5)(cs ls:List Nat)(k b l i:Nat)(j jc ji j2:List Value)(hjc:Cm (Ar 5 2) jc)(hji:Cm (Ar 5 2) ji)(hb:b≤(Aa cs).size)(hi:(Aa cs).size≤i)(hm:(Aa cs).size<1099511627776)(hk:ls.length=k)(hk2:k<1099511627776)(hr:GT s0 (lb_g cs ls k b l i j jc ji j2)):GT s0 (lb_h (Aa (cs.take b)) (ls++[l]) (k+1) ((z_664_1 i cs ji)) [(nI b),(nI l),(nI i),(.string (Aa cs)),(nI ((Aa cs).size)),bT,(.string (Aa cs)),(nI ((Aa cs).size)),(Vq cs),(nI b),(nI b),(sl 8 k 0),(nI l),(sl 5 1 1),(sl 6 (k+1) 0),(.string (Aa cs)),(nI b),(Wo cs b)]):=by
 have h1:=hr.trans (sR (sc:=[(6,.op (.rwB false)),(3,.drwM [(6,.sslc (Aa (cs.take b))),(3,.appG (k+1) (ns .i64 (ls++[l])))] []),(2,.stay)]) (fr1:=(Fr 87 [(Wo cs b),uu,nS,(sl 10 (k+1) 0),(nI b),(nI l),(nI i),(.string (Aa cs)),(nI ((Aa cs).size)),bT,(.string (Aa cs)),(nI ((Aa cs).size)),(Vq cs),(nI b),(nI b),(nI i),(.string (Aa cs)),(nI ((Aa cs).size)),bF,(J ji 4),(J ji 5),(J ji 6),(J ji 7),(J ji 8),(J ji 9),(J ji 10),(J ji 11),(J ji 12),(J ji 13),(sl 6 k 0),(nI l),(sl 9 1 1),(sl 10 (k+1) 0),(.string (Aa cs)),(nI b),(Wo cs b),uu,uu] [.code (cd Tryz.f87 [1,1,0,0,0]),.inLoop (cd Tryz.f87 [1,1,0,0,0]),.inBlock 0,.code (cd Tryz.f87 [1,1,1])])) (next:=11) (l:=[(10,(cI (ls++[l]) (some 1)))]) kr (aI (dF (p:=(i:Int)<(((Aa cs).size:Nat):Int))) (aI (aI tt (aI tt (aI tt (aI tt (aI (show 0≤(0:Int)∧(0:Int)≤(b:Int)∧(b:Int)≤(((Aa cs).size:Nat):Int)∧(Aa cs).extract (Int.toNat (0:Int)) (Int.toNat (b:Int))=(Aa (cs.take b)) from⟨by omega,by omega,by omega,by rw[Hz];rfl⟩) (aI tt (aI (show k+1=(k+1)∧(k+1)*8≤140737488355328∧(k+1)≤9223372036854775807∧((ns .i64 ls):List Value).length=k*1∧((ns .i64 ls):List Value)++[(nI l)]=(ns .i64 (ls++[l])) from⟨by omega,by omega,by omega,by rw[Bh,Nat.mul_one];omega,Nd _ _ _⟩) (aI tt (aI tt tt))))))))) tt)))
 rw[←Ap (Ar 5 2) hji 10]at h1
 rw[←Ap (Ar 5 2) hji 11]at h1
 rw[←Ap (Ar 5 2) hji 12]at h1
 rw[←Ap (Ar 5 2) hji 13]at h1
 rw[←Ap (Ar 5 2) hji 4]at h1
 rw[←Ap (Ar 5 2) hji 5]at h1
 rw[←Ap (Ar 5 2) hji 6]at h1
 rw[←Ap (Ar 5 2) hji 7]at h1
 rw[←Ap (Ar 5 2) hji 8]at h1
 rw[←Ap (Ar 5 2) hji 9]at h1
 exact Di (b:=5) (k:=2) h1 kr rfl rfl rfl kr (by rw[hs0];decide) (by rw[hs0];decide) de de (by rfl) (by simp only[lb_h_o,List.map_cons,List.map_nil,Ep,Ah _ _ (Af _ _)]) kr
theorem lb_o(ds ls:List Nat)(k:Nat)(st:ByteArray)(j jc:List Value)(h0:st.size=0)(hk:k≤ls.length)(hk2:k<1099511627776)(hr:GT (Ca 87 #[(.string (Aa ds))] 5 []) (lb_h st ls k jc j)):CT 87 #[(.string (Aa ds))] (Ac 5 []) (sl 6 (F.top ls k) 0) (Ac 9 [(6,(cI ls (some 1)))]):=
 sF (sc:=[(5,.op (.rwB false)),(6,.call [6] (sl 6 (F.top ls k) 0) [(6,some (cI ls (some 1)))] []),(3,.stay)]) kr (aI (dF (p:=((st.size:Nat):Int)>(0:Int))) (aI (rt_c 9 6 ls k om om om) tt)) hr
theorem lb_inA{cs:List Nat}{b:Nat}{s0:AS}(hd:Dig cs)(hm:cs.length<1099511627776)(hb4:cs.length≤b+4): ∀(n i:Nat) (ji j2:List Value),n=cs.length-i→b≤i→i≤cs.length→(∀q,Cm (Ar 5 q) ji)→
  GT s0 (lb_a cs b (Az ((cs.take i).drop b)) i ji j2)→ ∃ji' j2',(∀q,Cm (Ar 5 q) ji')∧GT s0 (lb_a cs b (Az (cs.drop b)) cs.length ji' j2'):=by
 intro n
 induction n with
 |zero=>
  intro i ji j2 hn hb hi hji hr
  have:i=cs.length:=by omega
  subst this
  rw[List.take_length]at hr
  exact⟨ji,j2,hji,hr⟩
 |succ n ih=>
  intro i ji j2 hn hb hi hji hr
  have hl:Az ((cs.take i).drop b)<1000:=Wu (k:=3) ((hd.take i).drop b) (by rw[List.length_drop,List.length_take];omega)
  have r:=lb_a1 cs b _ i ji j2 (cs.getD i 0) (hd.get i) hl (by rw[Ad];omega) (by rw[Ad];exact hm) (Gi om)
  rw[dval_step hb om]at r
  exact ih (i+1) _ _ om om om (fun _=>by rfl) (hr.trans r)
theorem lb_inB{cs ls:List Nat}{k b:Nat}{j jc:List Value}{s0:AS}(hd:Dig cs)(hm:cs.length<1099511627776)(hb4:cs.length≤b+4): ∀(n i:Nat) (ji j2:List Value),n=cs.length-i→b≤i→i≤cs.length→Cm (Ar 5 2) ji→
  GT s0 (lb_g cs ls k b (Az ((cs.take i).drop b)) i j jc ji j2)→ ∃ji' j2',Cm (Ar 5 2) ji'∧GT s0 (lb_g cs ls k b (Az (cs.drop b)) cs.length j jc ji' j2'):=by
 intro n
 induction n with
 |zero=>
  intro i ji j2 hn hb hi hji hr
  have:i=cs.length:=by omega
  subst this
  rw[List.take_length]at hr
  exact⟨ji,j2,hji,hr⟩
 |succ n ih=>
  intro i ji j2 hn hb hi hji hr
  have hl:Az ((cs.take i).drop b)<1000:=Wu (k:=3) ((hd.take i).drop b) (by rw[List.length_drop,List.length_take];omega)
  have r:=lb_g1 cs ls k b _ i j jc ji j2 (cs.getD i 0) (hd.get i) hl (by rw[Ad];omega) (by rw[Ad];exact hm) (Gi om)
  rw[dval_step hb om]at r
  exact ih (i+1) _ _ om om om (by rfl) (hr.trans r)
theorem lb_all{ds:List Nat}(hd:Dig ds)(hm:ds.length<1099511627776): ∀(n e:Nat) (ls:List Nat) (jc j:List Value),e≤n→e≤ds.length→F.Lim ls→F.val ls=Az (ds.drop e)→(e=0∨ds.length-e=4*ls.length)→4*ls.length≤ds.length+3→Cm (Ar 5 2) jc→
  GT (Ca 87 #[(.string (Aa ds))] 5 []) (lb_h (Aa (ds.take e)) ls ls.length jc j)→
  ∃ls' jc' j',F.Lim ls'∧F.val ls'=Az ds∧4*ls'.length≤ds.length+3∧GT (Ca 87 #[(.string (Aa ds))] 5 []) (lb_h (Aa []) ls' ls'.length jc' j'):=by
 intro n
 induction n with
 |zero=>
  intro e ls jc j he hel hlim hv hr4 h4 hjc hr
  have:e=0:=by omega
  subst this
  rw[List.take_zero]at hr
  exact⟨ls,jc,j,hlim,hv,h4,hr⟩
 |succ n ih=>
  intro e ls jc j he hel hlim hv hr4 h4 hjc hr
  rcases Nat.eq_zero_or_pos e with h0|h0
  ·subst h0
   rw[List.take_zero]at hr
   exact⟨ls,jc,j,hlim,hv,h4,hr⟩
  ·have hlen:(ds.take e).length=e:=by rw[List.length_take];omega
   have hr4':ds.length-e=4*ls.length:=by omega
   have hsz:(Aa (ds.take e)).size=e:=by rw[Ad,hlen]
   obtain⟨b,hb⟩: ∃b,b=e-4:=⟨_,rfl⟩
   have a1:=lb_3 (ds.take e) ls ls.length b j jc om om (by rw[hsz];exact hb)
   have a1':GT (Ca 87 #[(.string (Aa ds))] 5 []) (lb_g (ds.take e) ls ls.length b (Az (((ds.take e).take b).drop b)) b j jc [(J jc 0),(J jc 1),(J jc 2),(J jc 3),(J jc 4),(J jc 5),(J jc 6),(J jc 7),(J jc 8),(J jc 9),(J jc 10),(J jc 11),(J jc 12),(J jc 13)] []):=by
    rw[List.drop_eq_nil_of_le (by rw[List.length_take];omega)]
    exact hr.trans a1
   obtain⟨ji',j2',hji,a2⟩:=lb_inB (hd.take e) om om _ b _ _ rfl (Nat.le_refl _) om (by unfold Cm;simp[Qr,Ap _ hjc,mv]) a1'
   have a3:=lb_4 (s0:=(Ca 87 #[(.string (Aa ds))] 5 [])) rfl (ds.take e) ls ls.length b (Az ((ds.take e).drop b)) (ds.take e).length j jc ji' j2' hjc hji om (by rw[hsz,hlen];exact Nat.le_refl _) om rfl om a2
   have hl:Az ((ds.take e).drop b)<10000:=Wu (k:=4) ((hd.take e).drop b) (by rw[List.length_drop,hlen];omega)
   rw[List.take_take,Nat.min_eq_left om,show ls.length+1=(ls++[Az ((ds.take e).drop b)]).length by rw[List.length_append];rfl]at a3
   refine ih b _ _ _ om om (hlim.append fun x hx=>by rw[List.mem_singleton]at hx;rw[hx];exact hl) (group_step hv rfl hr4' om hel rfl) ?_ ?_ (by unfold Cm;simp[Qr,Ap _ hji,mv]) a3
   ·rw[List.length_append,List.length_singleton];omega
   ·rw[List.length_append,List.length_singleton];omega
theorem lb_c(ds:List Nat)(hd:Dig ds)(h0:0<ds.length)(hm:ds.length<1099511627776):
  ∃ls t,F.Lim ls∧t≤ls.length∧4*ls.length≤ds.length+3∧F.val (ls.take t)=Az ds∧(0<t→ls.getD (t-1) 0≠0)∧ ∀n0,5≤n0→
   FT 87 #[.string (Aa ds)] n0 [] (sl n0 t 0) [] [.cells (ns .i64 ls) 3 (some 1) false]:=by
 obtain⟨b,hb⟩: ∃b,b=ds.length-4:=⟨_,rfl⟩
 have hsz:=Ad ds
 have a1:=lb_in ds b om om om
 have a1':GT (Ca 87 #[(.string (Aa ds))] 5 []) (lb_a ds b (Az ((ds.take b).drop b)) b [undef,undef,undef,undef,undef,undef,undef,undef,undef,undef,undef,undef,undef,undef] []):=by
  rw[List.drop_eq_nil_of_le (by rw[List.length_take];omega)]
  exact a1
 obtain⟨ji',j2',hji,a2⟩:=lb_inA hd hm om _ b _ _ rfl (Nat.le_refl _) om (fun _=>by rfl) a1'
 have a3:=lb_2 (s0:=(Ca 87 #[(.string (Aa ds))] 5 [])) rfl ds b (Az (ds.drop b)) ds.length ji' j2' (hji 0) om om om a2
 have hl:Az (ds.drop b)<10000:=Wu (k:=4) (hd.drop b) (by rw[List.length_drop];omega)
 obtain⟨ls,jc',j',h1,h2,h3,a4⟩:=lb_all hd hm _ b [Az (ds.drop b)] _ _ (Nat.le_refl _) om (fun x hx=>by rw[List.mem_singleton]at hx;rw[hx];exact hl) (by simp[F.val]) (by simp;omega) (by simp;omega) (by unfold Cm;simp[Qr,Ap _ (hji 2),mv]) a3
 have S:=lb_o ds ls ls.length (Aa []) j' jc' rfl (Nat.le_refl _) om a4
 have ht:=F.top_le ls ls.length
 refine⟨ls,F.top ls ls.length,h1,ht,h3,?_,F.top_pos ls _,fun n0 hG=> ?_⟩
 ·rw[F.top_val,List.take_length];exact h2
 ·exact ff [] [] [] [6] [.cells (ns .i64 ls) 3 (some 1) false] n0 S (hb:=sm) (hGn:=hG) (fo:=rfl) (fp:=rfl)
end Go.Proofs.YtjbflfbhfnkmlaaGreatDoor
