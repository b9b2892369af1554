import Derived.Test.YtldoiilgfcpipaaGreatDoorROver1
import Derived.Test.YtldoiilgfcpipaaGreatDoorPRPlusN
import Derived.Test.YtldoiilgfcpipaaGreatDoorLF
import Derived.Test.YtldoiilgfcpipaaGreatDoorPRTrim
import Derived.Test.YtldoiilgfcpipaaGreatDoorPWholeN
set_option linter.unusedVariables false
set_option linter.unusedSimpArgs false
set_option maxRecDepth 100000
namespace Go.Proofs.YtldoiilgfcpipaaGreatDoor
open Go Go.AE Seg
def OKJ(i:Nat):Bool:=Nat.blt i 16
def OSt(s0:AS)(o1 o2:Option Nat)(e1 e2:Nat)(xs ys:List Nat)(n k:Nat)(zs:List Nat)(i R:Nat):Prop:=
 (∃v8 v9 j,Am v8=true∧Am v9=true∧De OKJ j=true∧R=0∧GT s0 (oa o1 o2 e1 e2 xs ys zs n k ((i:Int)-1) v8 v9 j))∨
 ∃rs t v8 v9 j,Am v8=true∧Am v9=true∧De OKJ j=true∧F.Lim rs∧t≤rs.length∧(0<t→rs.getD (t-1) 0≠0)∧F.val (rs.take t)=R∧GT s0 (oc o1 o2 e1 e2 xs ys zs rs n k t ((i:Int)-1) v8 v9 j)
theorem okj_fix{b:Nat}(h:16≤b)(i:Nat)(hi:OKJ i=true):Ak b 2 i=i:=slide_fix h i hi
theorem Yg{q:Nat}(h:q<10000):F.Lim [q]:=fun x hx=>by
 rw[List.mem_singleton]at hx
 omega
theorem val1(q:Nat):F.val ([q].take 1)=q:=by simp[F.val]
theorem Vr{xs ys:List Nat}{n k:Nat}(hlx:F.Lim xs)(hn:n≤xs.length)(hx:0<n→xs.getD (n-1) 0≠0)(hly:F.Lim ys)(hk:k≤ys.length)(h:F.val (xs.take n)≤F.val (ys.take k)):n≤k:=by
 rcases Nat.lt_or_ge k n with g|g
 ·have:=F.val_lt_of_len hly hk g hx
  omega
 ·exact g
theorem ob0{s0:AS}(hs0:s0.h.next=7){o1 o2:Option Nat}{e1 e2:Nat}{xs ys zs ws:List Nat}{n k i a u q0 t:Nat}{jc j:List Value}{v8 v9:Value}(hn:n<70368744177)(hkm:k<70368744177)(hi:i<n)(hzl:zs.length=n)(hly:F.Lim ys)(hky:k≤ys.length)(hV:0<F.val (ys.take k))
  (hlw:F.Lim ws) (huw:u≤ws.length) (hum:u<1099511627776) (hut:0<u→ws.getD (u-1) 0≠0) (h8:Am v8=true) (h9:Am v9=true) (hjc:Cm (Ak 17 2) jc) (hqm:q0<10000) (hq:F.val (ws.take u)/F.val (ys.take k)≤q0)
  (hr:GT s0 (oi0 o1 o2 e1 e2 xs ys zs ws n k i a u q0 t q0 v8 v9 jc j)):
  OSt s0 o1 o2 e1 e2 xs ys n k (zs.set i (F.val (ws.take u)/F.val (ys.take k))) i (F.val (ws.take u)-F.val (ws.take u)/F.val (ys.take k)*F.val (ys.take k)):=by
 refine F.down_loop (I:=fun q=> ∃v8 v9 jc j,Am v8=true∧Am v9=true∧Cm (Ak 17 2) jc∧GT s0 (oi0 o1 o2 e1 e2 xs ys zs ws n k i a u q0 t q v8 v9 jc j)) (O:=fun q R=>OSt s0 o1 o2 e1 e2 xs ys n k (zs.set i q) i R) hV ?_ ?_ ?_ q0 hqm hq ⟨v8,v9,jc,j,h8,h9,hjc,hr⟩
 ·rintro q hq hqm hg ⟨v8,v9,jc,j,h8,h9,hjc,h⟩
  obtain⟨ps,p1,p2,p3,T⟩:=Zb o2 none e2 1 20 6 19 ys [q] k 1 om hly (Yg hqm) hky sm hkm om
  have C:=Ss none none (k+1) 1 ps ws (F.top ps (k+1)) u 21 20 16 om p1 hlw (by rw[p2];exact F.top_le _ _) huw (by have:=F.top_le ps (k+1);omega) hum (F.top_pos ps (k+1)) hut
  exact⟨_,_,_,_,rfl,rfl,(by unfold Cm;simp only[Ro,Aq _ hjc]),oi0_r hs0 o1 o2 e1 e2 xs ys zs ws n k i a u q0 t q v8 v9 jc j hn hkm hjc hq hqm ps _ T _ (by rw[p3,val1,Mc (by rw[Nat.mul_comm];exact hg)];decide) C h⟩
 ·rintro q hq hqm hg ⟨v8,v9,jc,j,h8,h9,hjc,h⟩
  obtain⟨ps,p1,p2,p3,T⟩:=Zb o2 none e2 1 20 6 19 ys [q] k 1 om hly (Yg hqm) hky sm hkm om
  have C:=Ss none none (k+1) 1 ps ws (F.top ps (k+1)) u 21 20 16 om p1 hlw (by rw[p2];exact F.top_le _ _) huw (by have:=F.top_le ps (k+1);omega) hum (F.top_pos ps (k+1)) hut
  have T2:=rtgz_c o2 none e2 1 22 6 21 ys [q] ps k 1 om p1 p2 p3 hly (Yg hqm) hky sm hkm om
  have hle:F.val (ps.take (F.top ps (k+1)))≤F.val (ws.take u):=by rw[p3,val1,Nat.mul_comm];exact hg
  have hpu:=Vr p1 (by rw[p2];exact F.top_le ps (k+1)) (F.top_pos ps (k+1)) hlw huw hle
  have hpos:0<F.val (ws.take u):=Nat.lt_of_lt_of_le (Nat.mul_pos hq hV) hg
  have hu0:0<u:=by
   rcases Nat.eq_zero_or_pos u with g|g
   ·rw[g]at hpos
    exact absurd hpos (by simp[F.val])
   ·exact g
  obtain⟨os,v,m1,m2,m3,m4,M⟩:=rmg_c none none 1 (k+1) ws ps u (F.top ps (k+1)) huw (by rw[p2];exact F.top_le ps (k+1)) hlw p1 hum (by have:=F.top_le ps (k+1);omega) hu0 hpu hle
  refine .inr ⟨os,v,v8,v9,_,h8,h9,by kernel_rfl,m1,by rw[m2];exact F.top_le _ _,by rw[m2];exact F.top_pos _ _,?_,oi0_q hs0 o1 o2 e1 e2 xs ys zs ws n k i a u q0 t q v8 v9 jc j hn hkm h8 h9 hq hi hzl ps _ T _ (F.cmpN_le hle) C T2 os v (M 23 16 22 om om om om om) h⟩
  rw[p3,val1,Nat.mul_comm]at m4
  omega
 ·rintro hlt ⟨v8,v9,jc,j,h8,h9,hjc,h⟩
  rcases Nat.eq_zero_or_pos u with hu0|hu0
  ·subst hu0
   have C:=Ss none none k 1 (List.replicate k 0) ws 0 0 20 19 16 om (F.Lim.replicate k) hlw (Nat.zero_le _) huw de de (fun h=>absurd h de) (fun h=>absurd h de)
   exact .inl ⟨v8,v9,_,h8,h9,by kernel_rfl,rfl,oi0_n hs0 o1 o2 e1 e2 xs ys zs ws n k i a q0 t v8 v9 jc j hn hkm h8 h9 hi hzl _ (F.cmpN_le (Nat.le_refl _)) C h⟩
  ·have C:=Ss none none k 1 (List.replicate k 0) ws 0 u 20 19 16 om (F.Lim.replicate k) hlw (Nat.zero_le _) huw de hum (fun h=>absurd h de) hut
   skip
   obtain⟨os,v,m1,m2,m3,m4,M⟩:=rmg_c none none 1 k ws (List.replicate k 0) u 0 huw (Nat.zero_le _) hlw (F.Lim.replicate k) hum de hu0 (Nat.zero_le _) (Nat.zero_le _)
   refine .inr ⟨os,v,v8,v9,_,h8,h9,by kernel_rfl,m1,by rw[m2];exact F.top_le _ _,by rw[m2];exact F.top_pos _ _,?_,oi0_z hs0 o1 o2 e1 e2 xs ys zs ws n k i a u q0 t v8 v9 jc j hn hkm h8 h9 hi hzl _ (F.cmpN_le (Nat.zero_le _)) C os v (M 21 16 20 om om om om om) h⟩
   simpa [F.val] using m4
theorem ob1{s0:AS}(hs0:s0.h.next=7){o1 o2:Option Nat}{e1 e2:Nat}{xs ys zs ws:List Nat}{n k i a u q0 t:Nat}{jc j:List Value}{v8 v9:Value}(hn:n<70368744177)(hkm:k<70368744177)(hi:i<n)(hzl:zs.length=n)(hly:F.Lim ys)(hky:k≤ys.length)(hV:0<F.val (ys.take k))
  (hlw:F.Lim ws) (huw:u≤ws.length) (hum:u<1099511627776) (hut:0<u→ws.getD (u-1) 0≠0) (h8:Am v8=true) (h9:Am v9=true) (hjc:Cm (Ak 17 2) jc) (hqm:q0<10000) (hq:F.val (ws.take u)/F.val (ys.take k)≤q0)
  (hr:GT s0 (oi1 o1 o2 e1 e2 xs ys zs ws n k i a u q0 t q0 v8 v9 jc j)):
  OSt s0 o1 o2 e1 e2 xs ys n k (zs.set i (F.val (ws.take u)/F.val (ys.take k))) i (F.val (ws.take u)-F.val (ws.take u)/F.val (ys.take k)*F.val (ys.take k)):=by
 refine F.down_loop (I:=fun q=> ∃v8 v9 jc j,Am v8=true∧Am v9=true∧Cm (Ak 17 2) jc∧GT s0 (oi1 o1 o2 e1 e2 xs ys zs ws n k i a u q0 t q v8 v9 jc j)) (O:=fun q R=>OSt s0 o1 o2 e1 e2 xs ys n k (zs.set i q) i R) hV ?_ ?_ ?_ q0 hqm hq ⟨v8,v9,jc,j,h8,h9,hjc,hr⟩
 ·rintro q hq hqm hg ⟨v8,v9,jc,j,h8,h9,hjc,h⟩
  obtain⟨ps,p1,p2,p3,T⟩:=Zb o2 none e2 1 20 6 19 ys [q] k 1 om hly (Yg hqm) hky sm hkm om
  have C:=Ss none none (k+1) 1 ps ws (F.top ps (k+1)) u 21 20 16 om p1 hlw (by rw[p2];exact F.top_le _ _) huw (by have:=F.top_le ps (k+1);omega) hum (F.top_pos ps (k+1)) hut
  exact⟨_,_,_,_,rfl,rfl,(by unfold Cm;simp only[Ro,Aq _ hjc]),oi1_r hs0 o1 o2 e1 e2 xs ys zs ws n k i a u q0 t q v8 v9 jc j hn hkm hjc hq hqm ps _ T _ (by rw[p3,val1,Mc (by rw[Nat.mul_comm];exact hg)];decide) C h⟩
 ·rintro q hq hqm hg ⟨v8,v9,jc,j,h8,h9,hjc,h⟩
  obtain⟨ps,p1,p2,p3,T⟩:=Zb o2 none e2 1 20 6 19 ys [q] k 1 om hly (Yg hqm) hky sm hkm om
  have C:=Ss none none (k+1) 1 ps ws (F.top ps (k+1)) u 21 20 16 om p1 hlw (by rw[p2];exact F.top_le _ _) huw (by have:=F.top_le ps (k+1);omega) hum (F.top_pos ps (k+1)) hut
  have T2:=rtgz_c o2 none e2 1 22 6 21 ys [q] ps k 1 om p1 p2 p3 hly (Yg hqm) hky sm hkm om
  have hle:F.val (ps.take (F.top ps (k+1)))≤F.val (ws.take u):=by rw[p3,val1,Nat.mul_comm];exact hg
  have hpu:=Vr p1 (by rw[p2];exact F.top_le ps (k+1)) (F.top_pos ps (k+1)) hlw huw hle
  have hpos:0<F.val (ws.take u):=Nat.lt_of_lt_of_le (Nat.mul_pos hq hV) hg
  have hu0:0<u:=by
   rcases Nat.eq_zero_or_pos u with g|g
   ·rw[g]at hpos
    exact absurd hpos (by simp[F.val])
   ·exact g
  obtain⟨os,v,m1,m2,m3,m4,M⟩:=rmg_c none none 1 (k+1) ws ps u (F.top ps (k+1)) huw (by rw[p2];exact F.top_le ps (k+1)) hlw p1 hum (by have:=F.top_le ps (k+1);omega) hu0 hpu hle
  refine .inr ⟨os,v,v8,v9,_,h8,h9,by kernel_rfl,m1,by rw[m2];exact F.top_le _ _,by rw[m2];exact F.top_pos _ _,?_,oi1_q hs0 o1 o2 e1 e2 xs ys zs ws n k i a u q0 t q v8 v9 jc j hn hkm h8 h9 hq hi hzl ps _ T _ (F.cmpN_le hle) C T2 os v (M 23 16 22 om om om om om) h⟩
  rw[p3,val1,Nat.mul_comm]at m4
  omega
 ·rintro hlt ⟨v8,v9,jc,j,h8,h9,hjc,h⟩
  rcases Nat.eq_zero_or_pos u with hu0|hu0
  ·subst hu0
   have C:=Ss none none k 1 (List.replicate k 0) ws 0 0 20 19 16 om (F.Lim.replicate k) hlw (Nat.zero_le _) huw de de (fun h=>absurd h de) (fun h=>absurd h de)
   exact .inl ⟨v8,v9,_,h8,h9,by kernel_rfl,rfl,oi1_n hs0 o1 o2 e1 e2 xs ys zs ws n k i a q0 t v8 v9 jc j hn hkm h8 h9 hi hzl _ (F.cmpN_le (Nat.le_refl _)) C h⟩
  ·have C:=Ss none none k 1 (List.replicate k 0) ws 0 u 20 19 16 om (F.Lim.replicate k) hlw (Nat.zero_le _) huw de hum (fun h=>absurd h de) hut
   skip
   obtain⟨os,v,m1,m2,m3,m4,M⟩:=rmg_c none none 1 k ws (List.replicate k 0) u 0 huw (Nat.zero_le _) hlw (F.Lim.replicate k) hum de hu0 (Nat.zero_le _) (Nat.zero_le _)
   refine .inr ⟨os,v,v8,v9,_,h8,h9,by kernel_rfl,m1,by rw[m2];exact F.top_le _ _,by rw[m2];exact F.top_pos _ _,?_,oi1_z hs0 o1 o2 e1 e2 xs ys zs ws n k i a u q0 t v8 v9 jc j hn hkm h8 h9 hi hzl _ (F.cmpN_le (Nat.zero_le _)) C os v (M 21 16 20 om om om om om) h⟩
   simpa [F.val] using m4
theorem Wm{s0:AS}(hs0:s0.h.next=7){o1 o2:Option Nat}{e1 e2:Nat}{xs ys zs ws:List Nat}{n k i a u q0 t:Nat}{jc j:List Value}{v8 v9:Value}(hn:n<70368744177)(hkm:k<70368744177)(hi:i<n)(hzl:zs.length=n)(hly:F.Lim ys)(hky:k≤ys.length)(hV:0<F.val (ys.take k))
  (hlw:F.Lim ws) (huw:u≤ws.length) (hum:u<1099511627776) (hut:0<u→ws.getD (u-1) 0≠0) (hu:0<u) (h8:Am v8=true) (h9:Am v9=true) (hjc:Cm (Ak 18 2) jc) (hqm:q0<10000) (hq:F.val (ws.take u)/F.val (ys.take k)≤q0)
  (hr:GT s0 (oi2 o1 o2 e1 e2 xs ys zs ws n k i a u q0 t q0 v8 v9 jc j)):
  OSt s0 o1 o2 e1 e2 xs ys n k (zs.set i (F.val (ws.take u)/F.val (ys.take k))) i (F.val (ws.take u)-F.val (ws.take u)/F.val (ys.take k)*F.val (ys.take k)):=by
 refine F.down_loop (I:=fun q=> ∃v8 v9 jc j,Am v8=true∧Am v9=true∧Cm (Ak 18 2) jc∧GT s0 (oi2 o1 o2 e1 e2 xs ys zs ws n k i a u q0 t q v8 v9 jc j)) (O:=fun q R=>OSt s0 o1 o2 e1 e2 xs ys n k (zs.set i q) i R) hV ?_ ?_ ?_ q0 hqm hq ⟨v8,v9,jc,j,h8,h9,hjc,hr⟩
 ·rintro q hq hqm hg ⟨v8,v9,jc,j,h8,h9,hjc,h⟩
  obtain⟨ps,p1,p2,p3,T⟩:=Zb o2 none e2 1 21 6 20 ys [q] k 1 om hly (Yg hqm) hky sm hkm om
  have C:=Ss none (some 1) (k+1) 0 ps ws (F.top ps (k+1)) u 22 21 17 om p1 hlw (by rw[p2];exact F.top_le _ _) huw (by have:=F.top_le ps (k+1);omega) hum (F.top_pos ps (k+1)) hut
  exact⟨_,_,_,_,rfl,rfl,(by unfold Cm;simp only[Ro,Aq _ hjc]),oi2_r hs0 o1 o2 e1 e2 xs ys zs ws n k i a u q0 t q v8 v9 jc j hn hkm hjc hq hqm ps _ T _ (by rw[p3,val1,Mc (by rw[Nat.mul_comm];exact hg)];decide) C h⟩
 ·rintro q hq hqm hg ⟨v8,v9,jc,j,h8,h9,hjc,h⟩
  obtain⟨ps,p1,p2,p3,T⟩:=Zb o2 none e2 1 21 6 20 ys [q] k 1 om hly (Yg hqm) hky sm hkm om
  have C:=Ss none (some 1) (k+1) 0 ps ws (F.top ps (k+1)) u 22 21 17 om p1 hlw (by rw[p2];exact F.top_le _ _) huw (by have:=F.top_le ps (k+1);omega) hum (F.top_pos ps (k+1)) hut
  have T2:=rtgz_c o2 none e2 1 23 6 22 ys [q] ps k 1 om p1 p2 p3 hly (Yg hqm) hky sm hkm om
  have hle:F.val (ps.take (F.top ps (k+1)))≤F.val (ws.take u):=by rw[p3,val1,Nat.mul_comm];exact hg
  have hpu:=Vr p1 (by rw[p2];exact F.top_le ps (k+1)) (F.top_pos ps (k+1)) hlw huw hle
  have hpos:0<F.val (ws.take u):=Nat.lt_of_lt_of_le (Nat.mul_pos hq hV) hg
  have hu0:0<u:=by
   rcases Nat.eq_zero_or_pos u with g|g
   ·rw[g]at hpos
    exact absurd hpos (by simp[F.val])
   ·exact g
  obtain⟨os,v,m1,m2,m3,m4,M⟩:=rmg_c (some 1) none 0 (k+1) ws ps u (F.top ps (k+1)) huw (by rw[p2];exact F.top_le ps (k+1)) hlw p1 hum (by have:=F.top_le ps (k+1);omega) hu0 hpu hle
  refine .inr ⟨os,v,v8,v9,_,h8,h9,by kernel_rfl,m1,by rw[m2];exact F.top_le _ _,by rw[m2];exact F.top_pos _ _,?_,oi2_q hs0 o1 o2 e1 e2 xs ys zs ws n k i a u q0 t q v8 v9 jc j hn hkm h8 h9 hq hi hzl ps _ T _ (F.cmpN_le hle) C T2 os v (M 24 17 23 om om om om om) h⟩
  rw[p3,val1,Nat.mul_comm]at m4
  omega
 ·rintro hlt ⟨v8,v9,jc,j,h8,h9,hjc,h⟩
  have C:=Ss none (some 1) k 0 (List.replicate k 0) ws 0 u 21 20 17 om (F.Lim.replicate k) hlw (Nat.zero_le _) huw de hum (fun h=>absurd h de) hut
  have hu0:0<u:=hu
  obtain⟨os,v,m1,m2,m3,m4,M⟩:=rmg_c (some 1) none 0 k ws (List.replicate k 0) u 0 huw (Nat.zero_le _) hlw (F.Lim.replicate k) hum de hu0 (Nat.zero_le _) (Nat.zero_le _)
  refine .inr ⟨os,v,v8,v9,_,h8,h9,by kernel_rfl,m1,by rw[m2];exact F.top_le _ _,by rw[m2];exact F.top_pos _ _,?_,oi2_z hs0 o1 o2 e1 e2 xs ys zs ws n k i a u q0 t v8 v9 jc j hn hkm h8 h9 hi hzl _ (F.cmpN_le (Nat.zero_le _)) C os v (M 22 17 21 om om om om om) h⟩
  simpa [F.val] using m4
theorem o_place{s0:AS}(hs0:s0.h.next=7){o1 o2:Option Nat}{e1 e2:Nat}{xs ys zs:List Nat}{n k i R:Nat}(hn:n<70368744177)(hkm:k<70368744177)(hi:i<n)(hzl:zs.length=n)(hlx:F.Lim xs)(hnx:n≤xs.length)(hly:F.Lim ys)(hky:k≤ys.length)(hk0:0<k)(hyt:ys.getD (k-1) 0≠0)(hRV:R<F.val (ys.take k))
  (h:OSt s0 o1 o2 e1 e2 xs ys n k zs (i+1) R):OSt s0 o1 o2 e1 e2 xs ys n k (zs.set i ((xs.getD i 0+10000*R)/F.val (ys.take k))) i (xs.getD i 0+10000*R-(xs.getD i 0+10000*R)/F.val (ys.take k)*F.val (ys.take k)):=by
 have hV:0<F.val (ys.take k):=by omega
 have ha:=hlx.get i
 have hx:(ns .i64 xs)[i]? =some (nI (xs.getD i 0)):=Ar om
 generalize xs.getD i 0=a at*
 unfold OSt at h
 rw[show ((i+1:Nat):Int)-1=(i:Int) by omega]at h
 rcases h with⟨v8,v9,j,h8,h9,hj,hR0,hr⟩|⟨rs,t,v8,v9,j,h8,h9,hj,hlr,htl,htt,htv,hr⟩
 ·have T:=rs_c 17 16 [a] 1 1 om sm de de
  have hval:F.val (([a]).take (F.top [a] 1))=a+10000*R:=by
   rw[F.top_val,List.take_of_length_le sm]
   rw[F.cons_val,hR0,show F.val []=0 from rfl]
  have S:=gs_c none o2 1 e2 [a] ys (F.top [a] 1) k 17 16 6 om (Yg ha) hly (by have:=F.top_le [a] 1;simp;omega) hky (by have:=F.top_le [a] 1;omega) om hk0 hyt
  have hq:=F.guessF_ge (t:=F.top [a] 1) (Yg ha) hly hky hk0 hyt (by rw[hval];exact F.over_up hRV ha)
  have r:=oi0_in hs0 o1 o2 e1 e2 xs ys zs n k i a v8 v9 j hn hkm om hx 0 _ T _ S hr
  have o:=ob0 hs0 hn hkm om hzl hly hky hV (Yg ha) (by have:=F.top_le [a] 1;simp;omega) (by have:=F.top_le [a] 1;omega) (F.top_pos _ _) h8 h9 (Vq (okj_fix de) _ (by simp[De,good_J hj,jj])) (F.guessF_le _ _ _ _) hq r
  rw[hval]at o
  exact o
 ·rcases Nat.eq_zero_or_pos t with ht0|ht0
  ·subst ht0
   have T:=rs_c 17 16 [a] 1 1 om sm de de
   have hval:F.val (([a]).take (F.top [a] 1))=a+10000*R:=by
    rw[F.top_val,List.take_of_length_le sm]
    rw[F.cons_val,←htv,show F.val []=0 from rfl,List.take_zero,show F.val []=0 from rfl]
   have S:=gs_c none o2 1 e2 [a] ys (F.top [a] 1) k 17 16 6 om (Yg ha) hly (by have:=F.top_le [a] 1;simp;omega) hky (by have:=F.top_le [a] 1;omega) om hk0 hyt
   have hq:=F.guessF_ge (t:=F.top [a] 1) (Yg ha) hly hky hk0 hyt (by rw[hval];exact F.over_up hRV ha)
   have r:=oi1_in hs0 o1 o2 e1 e2 xs ys zs rs n k 0 i a v8 v9 j hn hkm om hx rfl (Nat.zero_le _) _ T _ S hr
   have o:=ob1 hs0 hn hkm om hzl hly hky hV (Yg ha) (by have:=F.top_le [a] 1;simp;omega) (by have:=F.top_le [a] 1;omega) (F.top_pos _ _) h8 h9 (Vq (okj_fix de) _ (by simp[De,good_J hj,jj])) (F.guessF_le _ _ _ _) hq r
   rw[hval]at o
   exact o
  ·have htk:t≤k:=Vr hlr htl htt hly hky om
   have hlw:F.Lim (a::rs.take t):=fun x hx=>by
    rcases List.mem_cons.1 hx with g|g
    ·omega
    ·exact hlr x (List.mem_of_mem_take g)
   have hup:0<F.top (a::rs.take t) (t+1):=by
    have e:(a::rs.take t).getD t 0≠0:=by
     obtain⟨t',rfl⟩: ∃t',t=t'+1:=⟨t-1,by omega⟩
     rw[List.getD_cons_succ,F.getD_take om]
     exact htt ht0
    rw[F.top_some e]
    omega
   have T:=rt_c 18 17 (a::rs.take t) (t+1) om (by simp;omega) om
   have hval:F.val (((a::rs.take t)).take (F.top (a::rs.take t) (t+1)))=a+10000*R:=by
    rw[F.top_val,List.take_of_length_le (by simp;omega)]
    rw[F.cons_val,htv]
   have S:=gs_c (some 1) o2 0 e2 (a::rs.take t) ys (F.top (a::rs.take t) (t+1)) k 18 17 6 om hlw hly (by have:=F.top_le (a::rs.take t) (t+1);simp;omega) hky (by have:=F.top_le (a::rs.take t) (t+1);omega) om hk0 hyt
   have hq:=F.guessF_ge (t:=F.top (a::rs.take t) (t+1)) hlw hly hky hk0 hyt (by rw[hval];exact F.over_up hRV ha)
   have r:=oi2_in hs0 o1 o2 e1 e2 xs ys zs rs n k t i a v8 v9 j hn hkm om hx ht0 om htl _ T _ S hr
   have o:=Wm hs0 hn hkm om hzl hly hky hV hlw (by have:=F.top_le (a::rs.take t) (t+1);simp;omega) (by have:=F.top_le (a::rs.take t) (t+1);omega) (F.top_pos _ _) hup h8 h9 (Vq (okj_fix de) _ (by simp[De,good_J hj,jj])) (F.guessF_le _ _ _ _) hq r
   rw[hval]at o
   exact o
theorem o_all{s0:AS}(hs0:s0.h.next=7){o1 o2:Option Nat}{e1 e2:Nat}{xs ys:List Nat}{n k:Nat}(hn:n<70368744177)(hkm:k<70368744177)(hlx:F.Lim xs)(hnx:n≤xs.length)(hly:F.Lim ys)(hky:k≤ys.length)(hk0:0<k)(hyt:ys.getD (k-1) 0≠0):
  ∀(i R:Nat) (zs:List Nat),i≤n→zs.length=n→F.Lim zs→R<F.val (ys.take k)→F.val (zs.drop i)*F.val (ys.take k)+R=F.val ((xs.take n).drop i)→OSt s0 o1 o2 e1 e2 xs ys n k zs i R→
   ∃zs' R',zs'.length=n∧F.Lim zs'∧R'<F.val (ys.take k)∧F.val zs'*F.val (ys.take k)+R'=F.val (xs.take n)∧OSt s0 o1 o2 e1 e2 xs ys n k zs' 0 R':=by
 intro i
 induction i with
 |zero=>
  intro R zs hi hz hl hR hv h
  rw[List.drop_zero,List.drop_zero]at hv
  exact⟨zs,R,hz,hl,hR,hv,h⟩
 |succ i ih=>
  intro R zs hi hz hl hR hv h
  have ha:=hlx.get i
  have h2:=o_place hs0 hn hkm om hz hlx hnx hly hky hk0 hyt hR h
  have hV:0<F.val (ys.take k):=by omega
  have hq:(xs.getD i 0+10000*R)/F.val (ys.take k)<10000:=Nat.div_lt_of_lt_mul (F.over_up hR ha)
  refine ih _ _ om (by rw[List.length_set];exact hz) (hl.set hq) (F.over_lt hV rfl) ?_ h2
  rw[F.val_drop_set om,F.val_drop' (xs.take n) i,F.getD_take om]
  exact F.over_step (T:=0) hv rfl
theorem dropn{l:List Nat}{n:Nat}(h:l.length≤n):F.val (l.drop n)=0:=by rw[List.drop_eq_nil_of_le h];rfl
theorem ro_c(o1 o2:Option Nat)(e1 e2:Nat)(n0 bx byy:Nat)(xs ys:List Nat)(n k:Nat)(hb:5≤bx∧bx<n0∧5≤byy∧byy<n0∧bx≠byy)(hlx:F.Lim xs)(hnx:n≤xs.length)(hly:F.Lim ys)(hky:k≤ys.length)(hn:n<70368744177)(hkm:k<70368744177)(hk0:0<k)(hyt:ys.getD (k-1) 0≠0):
  ∃zs R,F.Lim zs∧zs.length=n∧F.val zs=F.val (xs.take n)/F.val (ys.take k)∧R=F.val (xs.take n)%F.val (ys.take k)∧
   ((R=0∧FT 96 #[sl bx n e1,sl byy k e2] n0 [(bx,.cells (ns .i64 xs) 3 o1 false),(byy,.cells (ns .i64 ys) 3 o2 false)] (.tuple #[sl n0 (F.top zs n) n,.slice none 0 0]) [(bx,some (cI xs o1)),(byy,some (cI ys o2))] [.cells (ns .i64 zs) 3 none false])∨
    ∃rs t,F.Lim rs∧t≤rs.length∧(0<t→rs.getD (t-1) 0≠0)∧F.val (rs.take t)=R∧FT 96 #[sl bx n e1,sl byy k e2] n0 [(bx,.cells (ns .i64 xs) 3 o1 false),(byy,.cells (ns .i64 ys) 3 o2 false)] (.tuple #[sl n0 (F.top zs n) n,sl (n0+1) t 0]) [(bx,some (cI xs o1)),(byy,some (cI ys o2))] [.cells (ns .i64 zs) 3 none false,.cells (ns .i64 rs) 3 (some 1) false]):=by
 have hV:0<F.val (ys.take k):=by
  obtain⟨k',rfl⟩: ∃k',k=k'+1:=⟨k-1,by omega⟩
  rw[F.val_take_succ]
  have h1:1*1≤ys.getD k' 0*10000^k':=Nat.mul_le_mul (Nat.pos_of_ne_zero hyt) (F.pow_pos k')
  omega
 have r0:=oa_in (s0:=(Cg 96 #[(sl 5 n e1),(sl 6 k e2)] 7 [(5,(cI xs o1)),(6,(cI ys o2))])) rfl o1 o2 e1 e2 xs ys n k hn hkm (Gets.refl _)
 obtain⟨zs,R,z1,z2,z3,z4,z5⟩:=o_all rfl hn hkm hlx hnx hly hky hk0 hyt n 0 (List.replicate n 0) (Nat.le_refl _) sm (F.Lim.replicate n) hV (by rw[dropn sm,dropn (by rw[List.length_take];exact Nat.min_le_left _ _),Nat.zero_mul]) (.inl ⟨_,_,_,rfl,rfl,by kernel_rfl,rfl,r0⟩)
 have hd:F.val zs=F.val (xs.take n)/F.val (ys.take k)∧R=F.val (xs.take n)%F.val (ys.take k):=by
  rw[←z4,Nat.mul_comm]
  exact⟨by rw[Nat.mul_add_div hV,Nat.div_eq_of_lt z3,Nat.add_zero],by rw[Nat.mul_add_mod,Nat.mod_eq_of_lt z3]⟩
 refine⟨zs,R,z2,z1,hd.1,hd.2,?_⟩
 rcases z5 with⟨v8,v9,j,h8,h9,hj,hR0,hr⟩|⟨rs,t,v8,v9,j,h8,h9,hj,hlr,htl,htt,htv,hr⟩
 ·have S:=oa_e o1 o2 e1 e2 xs ys zs n k _ v8 v9 j hn hkm om z1 hr
  exact .inl ⟨hR0,ff [bx,byy] [.cells (ns .i64 xs) 3 o1 false,.cells (ns .i64 ys) 3 o2 false] [.cells (ns .i64 xs) 3 o1 false,.cells (ns .i64 ys) 3 o2 false] [7] [.cells (ns .i64 zs) 3 none false] n0 S (hnd:=by simp[hb.2.2.2.2])⟩
 ·have S:=oc_e o1 o2 e1 e2 xs ys zs rs n k t _ v8 v9 j hn hkm om z1 hr
  exact .inr ⟨rs,t,hlr,htl,htt,htv,ff [bx,byy] [.cells (ns .i64 xs) 3 o1 false,.cells (ns .i64 ys) 3 o2 false] [.cells (ns .i64 xs) 3 o1 false,.cells (ns .i64 ys) 3 o2 false] [7,8] [.cells (ns .i64 zs) 3 none false,.cells (ns .i64 rs) 3 (some 1) false] n0 S (hnd:=by simp[hb.2.2.2.2])⟩
noncomputable section
abbrev Dh(l1:List Nat):AObj:=.cells (ns .i64 l1) 3 (some 1) false
abbrev Dk(l2:List Nat):AObj:=.cells (ns .i64 l2) 3 (some 1) false
abbrev Dj(zs:List Nat):AObj:=.cells (ns .i64 zs) 3 none false
abbrev Cj(x y:Int):Value:=.string (Ad (Int.tdiv x y))
abbrev Rr:Value:=.tuple #[.int .i64 0,.int .i64 0,.bool false]
abbrev Li(rs:List Nat):AObj:=.cells (ns .i64 rs) 3 (some 1) false
abbrev Hk(x y:Int):Value:=.string (Ad (Int.tmod x y))
abbrev Qh(x y:Int):Array Value:= #[(.string (Ad x)),(.string (Ad y))]
abbrev Qk(x y:Int):Array Value:= #[.string (Ad x),.string (Ad y)]
abbrev Ry:Value:=.tuple #[(lI 0),(lI 0),bF]
abbrev Nd(x:Int):Array Value:= #[.string (Aa (Ae x.natAbs))]
abbrev Mz(y:Int):Array Value:= #[.string (Aa (Ae y.natAbs))]
abbrev Nf(x:Int):Value:=.string (Aa (Ae x.natAbs))
abbrev Nh(y:Int):Value:=.string (Aa (Ae y.natAbs))
end
theorem ai_inj{a b:Int}(h:(#[.int .i64 a]:Array Value)= #[.int .i64 b]):Value.string (Ad b)=Value.string (Ad a):=by
 simp at h
 rw[h]
theorem qu_s(x y:Int)(hsm: ∀n0,5≤n0→FT 86 (Qk x y) n0 [] (.tuple #[.int .i64 x,.int .i64 y,.bool true]) [] [])(hy0:y≠0)(hq1:(Int.tdiv x y).natAbs<1000000000000000001)(hq2:(Int.tmod x y).natAbs<1000000000000000001):CT 46 (Qh x y) (Ag 5 []) (.tuple #[(Cj x y),(Hk x y)]) (Ag 5 []):=
 sF (sc:=[(10,.call [] (.tuple #[(.int .i64 x),(.int .i64 y),bT]) [] []),(14,.drwM [(2,.div (Int.tdiv x y)),(6,.div (Int.tmod x y))] [⟨3,[],(Cj x y),[],[]⟩,⟨7,[],(Hk x y),[],[]⟩]),(1,.stay)]) kr (aI (hsm 5 om) (aI (aI (aI tt (aI tt (aI (show y≠0∧IntKind.wrap .i64 (Int.tdiv x y)=(Int.tdiv x y) from⟨hy0,by rw[Bw om om]⟩) (aI tt (aI tt (aI (show y≠0∧(Int.tmod x y)=(Int.tmod x y) from⟨hy0,rfl⟩) (aI (oi_i (Int.tdiv x y) 5 om om) (aI (oi_i (Int.tmod x y) 5 om om) (aI tt (aI tt tt)))))))))) (show ((((#[(.int .i64 (Int.tdiv x y))]:Array Value)= #[(.int .i64 (Int.tmod x y))]→((Hk x y):Value)=(Cj x y))∧True)∧(True∧True)) from⟨⟨ai_inj,tt⟩,⟨tt,tt⟩⟩)) tt)) (Gets.refl _)
theorem qu_ppr(x y:Int)(l1 l2 zs rs:List Nat)(t1 t2 tq t:Nat)(hsm: ∀n0,5≤n0→FT 86 (Qk x y) n0 [] Rr [] [])(hl1: ∀n0,5≤n0→FT 87 (Nd x) n0 [] (sl n0 t1 0) [] [.cells (ns .i64 l1) 3 (some 1) false])(hl2: ∀n0,5≤n0→FT 87 (Mz y) n0 [] (sl n0 t2 0) [] [.cells (ns .i64 l2) 3 (some 1) false])(hov:(FT 96 #[sl 5 t1 0,sl 6 t2 0] 7 [(5,.cells (ns .i64 l1) 3 (some 1) false),(6,.cells (ns .i64 l2) 3 (some 1) false)] (.tuple #[sl 7 tq t1,sl 8 t 0]) [(5,some (Dh l1)),(6,some (Dk l2))] [.cells (ns .i64 zs) 3 none false,.cells (ns .i64 rs) 3 (some 1) false]))(hxs:decide (x<0)=false)(hys:decide (y<0)=false)(hs: ∀n0 b,5≤b∧b<n0→FT 88 #[.bool false,sl b tq t1] n0 [(b,.cells (ns .i64 zs) 3 none false)] (Cj x y) [(b,some (Dj zs))] [])(hre: ∀n0 b,5≤b∧b<n0→FT 88 #[.bool false,sl b t 0] n0 [(b,.cells (ns .i64 rs) 3 (some 1) false)] (Hk x y) [(b,some (Li rs))] []):CT 46 (Qh x y) (Ag 5 []) (.tuple #[(Cj x y),(Hk x y)]) (Ag 9 []):=
 sF (sc:=[(10,.call [] Ry [] []),(17,.call [] (Nf x) [] []),(0,.call [] (sl 5 t1 0) [] [(Dh l1)]),(1,.call [] (Nh y) [] []),(0,.call [] (sl 6 t2 0) [] [(Dk l2)]),(0,.call [5,6] (.tuple #[(sl 7 tq t1),(sl 8 t 0)]) [(5,some (Dh l1)),(6,some (Dk l2))] [(Dj zs),(Li rs)]),(9,.call [] bF [] []),(1,.call [] bF [] []),(2,.call [7] (Cj x y) [(7,some (Dj zs))] []),(1,.call [] bF [] []),(1,.call [8] (Hk x y) [(8,some (Li rs))] []),(4,.stay)]) kr (aI (hsm 5 om) (aI (Gq x 5 om) (aI (hl1 5 om) (aI (Gq y 6 om) (aI (hl2 6 om) (aI hov (aI (Cb x false hxs 9 om) (aI (Cb y false hys 9 om) (aI (hs 9 7 om) (aI (Cb x false hxs 9 om) (aI (hre 9 8 om) tt))))))))))) (Gets.refl _)
theorem qu_ppn(x y:Int)(l1 l2 zs rs:List Nat)(t1 t2 tq t:Nat)(hsm: ∀n0,5≤n0→FT 86 (Qk x y) n0 [] Rr [] [])(hl1: ∀n0,5≤n0→FT 87 (Nd x) n0 [] (sl n0 t1 0) [] [.cells (ns .i64 l1) 3 (some 1) false])(hl2: ∀n0,5≤n0→FT 87 (Mz y) n0 [] (sl n0 t2 0) [] [.cells (ns .i64 l2) 3 (some 1) false])(hov:(FT 96 #[sl 5 t1 0,sl 6 t2 0] 7 [(5,.cells (ns .i64 l1) 3 (some 1) false),(6,.cells (ns .i64 l2) 3 (some 1) false)] (.tuple #[sl 7 tq t1,.slice none 0 0]) [(5,some (Dh l1)),(6,some (Dk l2))] [.cells (ns .i64 zs) 3 none false]))(hxs:decide (x<0)=false)(hys:decide (y<0)=false)(hs: ∀n0 b,5≤b∧b<n0→FT 88 #[.bool false,sl b tq t1] n0 [(b,.cells (ns .i64 zs) 3 none false)] (Cj x y) [(b,some (Dj zs))] []):CT 46 (Qh x y) (Ag 5 []) (.tuple #[(Cj x y),(.string (bts [48]))]) (Ag 8 []):=
 sF (sc:=[(10,.call [] Ry [] []),(17,.call [] (Nf x) [] []),(0,.call [] (sl 5 t1 0) [] [(Dh l1)]),(1,.call [] (Nh y) [] []),(0,.call [] (sl 6 t2 0) [] [(Dk l2)]),(0,.call [5,6] (.tuple #[(sl 7 tq t1),nS]) [(5,some (Dh l1)),(6,some (Dk l2))] [(Dj zs)]),(9,.call [] bF [] []),(1,.call [] bF [] []),(2,.call [7] (Cj x y) [(7,some (Dj zs))] []),(1,.call [] bF [] []),(48,.stay)]) kr (aI (hsm 5 om) (aI (Gq x 5 om) (aI (hl1 5 om) (aI (Gq y 6 om) (aI (hl2 6 om) (aI hov (aI (Cb x false hxs 8 om) (aI (Cb y false hys 8 om) (aI (hs 8 7 om) (aI (Cb x false hxs 8 om) tt)))))))))) (Gets.refl _)
theorem qu_pmr(x y:Int)(l1 l2 zs rs:List Nat)(t1 t2 tq t:Nat)(hsm: ∀n0,5≤n0→FT 86 (Qk x y) n0 [] Rr [] [])(hl1: ∀n0,5≤n0→FT 87 (Nd x) n0 [] (sl n0 t1 0) [] [.cells (ns .i64 l1) 3 (some 1) false])(hl2: ∀n0,5≤n0→FT 87 (Mz y) n0 [] (sl n0 t2 0) [] [.cells (ns .i64 l2) 3 (some 1) false])(hov:(FT 96 #[sl 5 t1 0,sl 6 t2 0] 7 [(5,.cells (ns .i64 l1) 3 (some 1) false),(6,.cells (ns .i64 l2) 3 (some 1) false)] (.tuple #[sl 7 tq t1,sl 8 t 0]) [(5,some (Dh l1)),(6,some (Dk l2))] [.cells (ns .i64 zs) 3 none false,.cells (ns .i64 rs) 3 (some 1) false]))(hxs:decide (x<0)=false)(hys:decide (y<0)=true)(hs: ∀n0 b,5≤b∧b<n0→FT 88 #[.bool true,sl b tq t1] n0 [(b,.cells (ns .i64 zs) 3 none false)] (Cj x y) [(b,some (Dj zs))] [])(hre: ∀n0 b,5≤b∧b<n0→FT 88 #[.bool false,sl b t 0] n0 [(b,.cells (ns .i64 rs) 3 (some 1) false)] (Hk x y) [(b,some (Li rs))] []):CT 46 (Qh x y) (Ag 5 []) (.tuple #[(Cj x y),(Hk x y)]) (Ag 9 []):=
 sF (sc:=[(10,.call [] Ry [] []),(17,.call [] (Nf x) [] []),(0,.call [] (sl 5 t1 0) [] [(Dh l1)]),(1,.call [] (Nh y) [] []),(0,.call [] (sl 6 t2 0) [] [(Dk l2)]),(0,.call [5,6] (.tuple #[(sl 7 tq t1),(sl 8 t 0)]) [(5,some (Dh l1)),(6,some (Dk l2))] [(Dj zs),(Li rs)]),(9,.call [] bF [] []),(1,.call [] bT [] []),(2,.call [7] (Cj x y) [(7,some (Dj zs))] []),(1,.call [] bF [] []),(1,.call [8] (Hk x y) [(8,some (Li rs))] []),(4,.stay)]) kr (aI (hsm 5 om) (aI (Gq x 5 om) (aI (hl1 5 om) (aI (Gq y 6 om) (aI (hl2 6 om) (aI hov (aI (Cb x false hxs 9 om) (aI (Cb y true hys 9 om) (aI (hs 9 7 om) (aI (Cb x false hxs 9 om) (aI (hre 9 8 om) tt))))))))))) (Gets.refl _)
theorem qu_pmn(x y:Int)(l1 l2 zs rs:List Nat)(t1 t2 tq t:Nat)(hsm: ∀n0,5≤n0→FT 86 (Qk x y) n0 [] Rr [] [])(hl1: ∀n0,5≤n0→FT 87 (Nd x) n0 [] (sl n0 t1 0) [] [.cells (ns .i64 l1) 3 (some 1) false])(hl2: ∀n0,5≤n0→FT 87 (Mz y) n0 [] (sl n0 t2 0) [] [.cells (ns .i64 l2) 3 (some 1) false])(hov:(FT 96 #[sl 5 t1 0,sl 6 t2 0] 7 [(5,.cells (ns .i64 l1) 3 (some 1) false),(6,.cells (ns .i64 l2) 3 (some 1) false)] (.tuple #[sl 7 tq t1,.slice none 0 0]) [(5,some (Dh l1)),(6,some (Dk l2))] [.cells (ns .i64 zs) 3 none false]))(hxs:decide (x<0)=false)(hys:decide (y<0)=true)(hs: ∀n0 b,5≤b∧b<n0→FT 88 #[.bool true,sl b tq t1] n0 [(b,.cells (ns .i64 zs) 3 none false)] (Cj x y) [(b,some (Dj zs))] []):CT 46 (Qh x y) (Ag 5 []) (.tuple #[(Cj x y),(.string (bts [48]))]) (Ag 8 []):=
 sF (sc:=[(10,.call [] Ry [] []),(17,.call [] (Nf x) [] []),(0,.call [] (sl 5 t1 0) [] [(Dh l1)]),(1,.call [] (Nh y) [] []),(0,.call [] (sl 6 t2 0) [] [(Dk l2)]),(0,.call [5,6] (.tuple #[(sl 7 tq t1),nS]) [(5,some (Dh l1)),(6,some (Dk l2))] [(Dj zs)]),(9,.call [] bF [] []),(1,.call [] bT [] []),(2,.call [7] (Cj x y) [(7,some (Dj zs))] []),(1,.call [] bF [] []),(48,.stay)]) kr (aI (hsm 5 om) (aI (Gq x 5 om) (aI (hl1 5 om) (aI (Gq y 6 om) (aI (hl2 6 om) (aI hov (aI (Cb x false hxs 8 om) (aI (Cb y true hys 8 om) (aI (hs 8 7 om) (aI (Cb x false hxs 8 om) tt)))))))))) (Gets.refl _)
theorem qu_mpr(x y:Int)(l1 l2 zs rs:List Nat)(t1 t2 tq t:Nat)(hsm: ∀n0,5≤n0→FT 86 (Qk x y) n0 [] Rr [] [])(hl1: ∀n0,5≤n0→FT 87 (Nd x) n0 [] (sl n0 t1 0) [] [.cells (ns .i64 l1) 3 (some 1) false])(hl2: ∀n0,5≤n0→FT 87 (Mz y) n0 [] (sl n0 t2 0) [] [.cells (ns .i64 l2) 3 (some 1) false])(hov:(FT 96 #[sl 5 t1 0,sl 6 t2 0] 7 [(5,.cells (ns .i64 l1) 3 (some 1) false),(6,.cells (ns .i64 l2) 3 (some 1) false)] (.tuple #[sl 7 tq t1,sl 8 t 0]) [(5,some (Dh l1)),(6,some (Dk l2))] [.cells (ns .i64 zs) 3 none false,.cells (ns .i64 rs) 3 (some 1) false]))(hxs:decide (x<0)=true)(hys:decide (y<0)=false)(hs: ∀n0 b,5≤b∧b<n0→FT 88 #[.bool true,sl b tq t1] n0 [(b,.cells (ns .i64 zs) 3 none false)] (Cj x y) [(b,some (Dj zs))] [])(hre: ∀n0 b,5≤b∧b<n0→FT 88 #[.bool true,sl b t 0] n0 [(b,.cells (ns .i64 rs) 3 (some 1) false)] (Hk x y) [(b,some (Li rs))] []):CT 46 (Qh x y) (Ag 5 []) (.tuple #[(Cj x y),(Hk x y)]) (Ag 9 []):=
 sF (sc:=[(10,.call [] Ry [] []),(17,.call [] (Nf x) [] []),(0,.call [] (sl 5 t1 0) [] [(Dh l1)]),(1,.call [] (Nh y) [] []),(0,.call [] (sl 6 t2 0) [] [(Dk l2)]),(0,.call [5,6] (.tuple #[(sl 7 tq t1),(sl 8 t 0)]) [(5,some (Dh l1)),(6,some (Dk l2))] [(Dj zs),(Li rs)]),(9,.call [] bT [] []),(1,.call [] bF [] []),(2,.call [7] (Cj x y) [(7,some (Dj zs))] []),(1,.call [] bT [] []),(1,.call [8] (Hk x y) [(8,some (Li rs))] []),(4,.stay)]) kr (aI (hsm 5 om) (aI (Gq x 5 om) (aI (hl1 5 om) (aI (Gq y 6 om) (aI (hl2 6 om) (aI hov (aI (Cb x true hxs 9 om) (aI (Cb y false hys 9 om) (aI (hs 9 7 om) (aI (Cb x true hxs 9 om) (aI (hre 9 8 om) tt))))))))))) (Gets.refl _)
theorem qu_mpn(x y:Int)(l1 l2 zs rs:List Nat)(t1 t2 tq t:Nat)(hsm: ∀n0,5≤n0→FT 86 (Qk x y) n0 [] Rr [] [])(hl1: ∀n0,5≤n0→FT 87 (Nd x) n0 [] (sl n0 t1 0) [] [.cells (ns .i64 l1) 3 (some 1) false])(hl2: ∀n0,5≤n0→FT 87 (Mz y) n0 [] (sl n0 t2 0) [] [.cells (ns .i64 l2) 3 (some 1) false])(hov:(FT 96 #[sl 5 t1 0,sl 6 t2 0] 7 [(5,.cells (ns .i64 l1) 3 (some 1) false),(6,.cells (ns .i64 l2) 3 (some 1) false)] (.tuple #[sl 7 tq t1,.slice none 0 0]) [(5,some (Dh l1)),(6,some (Dk l2))] [.cells (ns .i64 zs) 3 none false]))(hxs:decide (x<0)=true)(hys:decide (y<0)=false)(hs: ∀n0 b,5≤b∧b<n0→FT 88 #[.bool true,sl b tq t1] n0 [(b,.cells (ns .i64 zs) 3 none false)] (Cj x y) [(b,some (Dj zs))] []):CT 46 (Qh x y) (Ag 5 []) (.tuple #[(Cj x y),(.string (bts [48]))]) (Ag 8 []):=
 sF (sc:=[(10,.call [] Ry [] []),(17,.call [] (Nf x) [] []),(0,.call [] (sl 5 t1 0) [] [(Dh l1)]),(1,.call [] (Nh y) [] []),(0,.call [] (sl 6 t2 0) [] [(Dk l2)]),(0,.call [5,6] (.tuple #[(sl 7 tq t1),nS]) [(5,some (Dh l1)),(6,some (Dk l2))] [(Dj zs)]),(9,.call [] bT [] []),(1,.call [] bF [] []),(2,.call [7] (Cj x y) [(7,some (Dj zs))] []),(1,.call [] bT [] []),(48,.stay)]) kr (aI (hsm 5 om) (aI (Gq x 5 om) (aI (hl1 5 om) (aI (Gq y 6 om) (aI (hl2 6 om) (aI hov (aI (Cb x true hxs 8 om) (aI (Cb y false hys 8 om) (aI (hs 8 7 om) (aI (Cb x true hxs 8 om) tt)))))))))) (Gets.refl _)
theorem qu_mmr(x y:Int)(l1 l2 zs rs:List Nat)(t1 t2 tq t:Nat)(hsm: ∀n0,5≤n0→FT 86 (Qk x y) n0 [] Rr [] [])(hl1: ∀n0,5≤n0→FT 87 (Nd x) n0 [] (sl n0 t1 0) [] [.cells (ns .i64 l1) 3 (some 1) false])(hl2: ∀n0,5≤n0→FT 87 (Mz y) n0 [] (sl n0 t2 0) [] [.cells (ns .i64 l2) 3 (some 1) false])(hov:(FT 96 #[sl 5 t1 0,sl 6 t2 0] 7 [(5,.cells (ns .i64 l1) 3 (some 1) false),(6,.cells (ns .i64 l2) 3 (some 1) false)] (.tuple #[sl 7 tq t1,sl 8 t 0]) [(5,some (Dh l1)),(6,some (Dk l2))] [.cells (ns .i64 zs) 3 none false,.cells (ns .i64 rs) 3 (some 1) false]))(hxs:decide (x<0)=true)(hys:decide (y<0)=true)(hs: ∀n0 b,5≤b∧b<n0→FT 88 #[.bool false,sl b tq t1] n0 [(b,.cells (ns .i64 zs) 3 none false)] (Cj x y) [(b,some (Dj zs))] [])(hre: ∀n0 b,5≤b∧b<n0→FT 88 #[.bool true,sl b t 0] n0 [(b,.cells (ns .i64 rs) 3 (some 1) false)] (Hk x y) [(b,some (Li rs))] []):CT 46 (Qh x y) (Ag 5 []) (.tuple #[(Cj x y),(Hk x y)]) (Ag 9 []):=
 sF (sc:=[(10,.call [] Ry [] []),(17,.call [] (Nf x) [] []),(0,.call [] (sl 5 t1 0) [] [(Dh l1)]),(1,.call [] (Nh y) [] []),(0,.call [] (sl 6 t2 0) [] [(Dk l2)]),(0,.call [5,6] (.tuple #[(sl 7 tq t1),(sl 8 t 0)]) [(5,some (Dh l1)),(6,some (Dk l2))] [(Dj zs),(Li rs)]),(9,.call [] bT [] []),(1,.call [] bT [] []),(2,.call [7] (Cj x y) [(7,some (Dj zs))] []),(1,.call [] bT [] []),(1,.call [8] (Hk x y) [(8,some (Li rs))] []),(4,.stay)]) kr (aI (hsm 5 om) (aI (Gq x 5 om) (aI (hl1 5 om) (aI (Gq y 6 om) (aI (hl2 6 om) (aI hov (aI (Cb x true hxs 9 om) (aI (Cb y true hys 9 om) (aI (hs 9 7 om) (aI (Cb x true hxs 9 om) (aI (hre 9 8 om) tt))))))))))) (Gets.refl _)
theorem qu_mmn(x y:Int)(l1 l2 zs rs:List Nat)(t1 t2 tq t:Nat)(hsm: ∀n0,5≤n0→FT 86 (Qk x y) n0 [] Rr [] [])(hl1: ∀n0,5≤n0→FT 87 (Nd x) n0 [] (sl n0 t1 0) [] [.cells (ns .i64 l1) 3 (some 1) false])(hl2: ∀n0,5≤n0→FT 87 (Mz y) n0 [] (sl n0 t2 0) [] [.cells (ns .i64 l2) 3 (some 1) false])(hov:(FT 96 #[sl 5 t1 0,sl 6 t2 0] 7 [(5,.cells (ns .i64 l1) 3 (some 1) false),(6,.cells (ns .i64 l2) 3 (some 1) false)] (.tuple #[sl 7 tq t1,.slice none 0 0]) [(5,some (Dh l1)),(6,some (Dk l2))] [.cells (ns .i64 zs) 3 none false]))(hxs:decide (x<0)=true)(hys:decide (y<0)=true)(hs: ∀n0 b,5≤b∧b<n0→FT 88 #[.bool false,sl b tq t1] n0 [(b,.cells (ns .i64 zs) 3 none false)] (Cj x y) [(b,some (Dj zs))] []):CT 46 (Qh x y) (Ag 5 []) (.tuple #[(Cj x y),(.string (bts [48]))]) (Ag 8 []):=
 sF (sc:=[(10,.call [] Ry [] []),(17,.call [] (Nf x) [] []),(0,.call [] (sl 5 t1 0) [] [(Dh l1)]),(1,.call [] (Nh y) [] []),(0,.call [] (sl 6 t2 0) [] [(Dk l2)]),(0,.call [5,6] (.tuple #[(sl 7 tq t1),nS]) [(5,some (Dh l1)),(6,some (Dk l2))] [(Dj zs)]),(9,.call [] bT [] []),(1,.call [] bT [] []),(2,.call [7] (Cj x y) [(7,some (Dj zs))] []),(1,.call [] bT [] []),(48,.stay)]) kr (aI (hsm 5 om) (aI (Gq x 5 om) (aI (hl1 5 om) (aI (Gq y 6 om) (aI (hl2 6 om) (aI hov (aI (Cb x true hxs 8 om) (aI (Cb y true hys 8 om) (aI (hs 8 7 om) (aI (Cb x true hxs 8 om) tt)))))))))) (Gets.refl _)
theorem Mo:Ad 0=Seg.bts [48]:=by rw[show (0:Int)=((0:Nat):Int) from rfl,Df,Gi];rfl
theorem tdv(x y:Int):Int.tdiv x y=if (decide (x<0) !=decide (y<0))=true then -((x.natAbs/y.natAbs:Nat):Int) else ((x.natAbs/y.natAbs:Nat):Int):=by
 rcases Gz x with⟨a,rfl,ha⟩|⟨a,h0,rfl,ha⟩<;>rcases Gz y with⟨b,rfl,hb⟩|⟨b,g0,rfl,hb⟩<;>rw[ha,hb]
 ·rw[decide_eq_false om,decide_eq_false om];exact tdiv_pp a b
 ·rw[decide_eq_false om,decide_eq_true om];exact tdiv_pm a b
 ·rw[decide_eq_true om,decide_eq_false om];exact tdiv_mp a b
 ·rw[decide_eq_true om,decide_eq_true om];exact tdiv_mm a b
theorem tmv(x y:Int):Int.tmod x y=if decide (x<0)=true then -((x.natAbs%y.natAbs:Nat):Int) else ((x.natAbs%y.natAbs:Nat):Int):=by
 rcases Gz x with⟨a,rfl,ha⟩|⟨a,h0,rfl,ha⟩<;>rcases Gz y with⟨b,rfl,hb⟩|⟨b,g0,rfl,hb⟩<;>rw[ha,hb]
 ·rw[decide_eq_false om];exact tmod_pp a b
 ·rw[decide_eq_false om];exact tmod_pm a b
 ·rw[decide_eq_true om];exact tmod_mp a b
 ·rw[decide_eq_true om];exact tmod_mm a b
theorem vpos{rs:List Nat}{t:Nat}(h:0<t→rs.getD (t-1) 0≠0)(h0:0<t):0<F.val (rs.take t):=by
 have h1:=h h0
 obtain⟨q,rfl⟩: ∃q,t=q+1:=⟨t-1,by omega⟩
 rw[Nat.add_sub_cancel]at h1
 rw[F.val_take_succ]
 have h2:1*1≤rs.getD q 0*10000^q:=Nat.mul_le_mul om (F.pow_pos q)
 omega
theorem Nb(zs:List Nat)(n:Nat):0<F.top zs n→0<F.val (zs.take (F.top zs n)):=vpos (F.top_pos zs n)
theorem qu_i(x y:Int)(hy:y≠0)(n0:Nat)(hG:5≤n0)(hdx:(Ae x.natAbs).length≤1000000)(hdy:(Ae y.natAbs).length≤1000000):FT 46 #[.string (Ad x),.string (Ad y)] n0 [] (.tuple #[.string (Ad (Int.tdiv x y)),.string (Ad (Int.tmod x y))]) [] []:=by
 by_cases hsml:(Ae x.natAbs).length≤9∧(Ae y.natAbs).length≤9
 ·have h1:=Da hsml.1
  have h9:(10:Nat)^9=1000000000:=by decide
  rw[h9]at h1
  have h3:=tdiv_le x y
  have h4:=tmod_le x y
  exact Lv n0 (qu_s x y (fun n0 h=>sm_t x y n0 h hsml.1 hsml.2) hy om om) hG
 have hsm:=fun n0 h=>sm_f x y n0 h hsml om om
 obtain⟨l1,t1,a1,a2,a3,av,at1,ha⟩:=lb_c (Ae x.natAbs) (Bx _) (Be _) om
 obtain⟨l2,t2,b1,b2,b3,bv,bt1,hb⟩:=lb_c (Ae y.natAbs) (Bx _) (Be _) om
 rw[Gb]at av bv
 have ht2:0<t2:=by
  rcases Nat.eq_zero_or_pos t2 with h|h
  ·rw[h,List.take_zero]at bv
   exact absurd bv (by simp only[F.val];omega)
  ·exact h
 have hVp:0<y.natAbs:=by omega
 obtain⟨zs,R,z1,z2,z3,hR',hov⟩:=ro_c (some 1) (some 1) 0 0 7 5 6 l1 l2 t1 t2 om a1 a2 b1 b2 om om ht2 (bt1 ht2)
 rw[av,bv]at hR'
 cases hx0:decide (x<0)<;>cases hy0:decide (y<0)
 ·rcases hov with⟨hR0,hov⟩|⟨rs,t,r1,r2,r3,r4,hov⟩
  ·have e:Int.tmod x y=0:=by rw[tmv,←hR',hR0];split<;>rfl
   rw[e,Mo]
   exact Lv n0 (qu_ppn x y l1 l2 zs [] t1 t2 (F.top zs t1) 0 hsm ha hb hov hx0 hy0 (fun n0 b h=>Uq n0 b zs (F.top zs t1) t1 false _ h (by rw[z2];exact F.top_le _ _) (by have:=F.top_le zs t1;omega) z1 (Nb zs t1) (by rw[F.top_val,List.take_of_length_le om,z3,av,bv,tdv,hx0,hy0]<;>rfl))) hG
  ·have htk:t≤t2:=Vr r1 r2 r3 b1 b2 (by rw[r4,hR',bv];exact Nat.le_of_lt (Nat.mod_lt _ hVp))
   exact Lv n0 (qu_ppr x y l1 l2 zs rs t1 t2 (F.top zs t1) t hsm ha hb hov hx0 hy0 (fun n0 b h=>Uq n0 b zs (F.top zs t1) t1 false _ h (by rw[z2];exact F.top_le _ _) (by have:=F.top_le zs t1;omega) z1 (Nb zs t1) (by rw[F.top_val,List.take_of_length_le om,z3,av,bv,tdv,hx0,hy0]<;>rfl)) (fun n0 b h=>sg_i n0 b rs t false _ h r2 om r1 (vpos r3) (by rw[r4,hR',tmv,hx0]<;>rfl))) hG
 ·rcases hov with⟨hR0,hov⟩|⟨rs,t,r1,r2,r3,r4,hov⟩
  ·have e:Int.tmod x y=0:=by rw[tmv,←hR',hR0];split<;>rfl
   rw[e,Mo]
   exact Lv n0 (qu_pmn x y l1 l2 zs [] t1 t2 (F.top zs t1) 0 hsm ha hb hov hx0 hy0 (fun n0 b h=>Uq n0 b zs (F.top zs t1) t1 true _ h (by rw[z2];exact F.top_le _ _) (by have:=F.top_le zs t1;omega) z1 (Nb zs t1) (by rw[F.top_val,List.take_of_length_le om,z3,av,bv,tdv,hx0,hy0]<;>rfl))) hG
  ·have htk:t≤t2:=Vr r1 r2 r3 b1 b2 (by rw[r4,hR',bv];exact Nat.le_of_lt (Nat.mod_lt _ hVp))
   exact Lv n0 (qu_pmr x y l1 l2 zs rs t1 t2 (F.top zs t1) t hsm ha hb hov hx0 hy0 (fun n0 b h=>Uq n0 b zs (F.top zs t1) t1 true _ h (by rw[z2];exact F.top_le _ _) (by have:=F.top_le zs t1;omega) z1 (Nb zs t1) (by rw[F.top_val,List.take_of_length_le om,z3,av,bv,tdv,hx0,hy0]<;>rfl)) (fun n0 b h=>sg_i n0 b rs t false _ h r2 om r1 (vpos r3) (by rw[r4,hR',tmv,hx0]<;>rfl))) hG
 ·rcases hov with⟨hR0,hov⟩|⟨rs,t,r1,r2,r3,r4,hov⟩
  ·have e:Int.tmod x y=0:=by rw[tmv,←hR',hR0];split<;>rfl
   rw[e,Mo]
   exact Lv n0 (qu_mpn x y l1 l2 zs [] t1 t2 (F.top zs t1) 0 hsm ha hb hov hx0 hy0 (fun n0 b h=>Uq n0 b zs (F.top zs t1) t1 true _ h (by rw[z2];exact F.top_le _ _) (by have:=F.top_le zs t1;omega) z1 (Nb zs t1) (by rw[F.top_val,List.take_of_length_le om,z3,av,bv,tdv,hx0,hy0]<;>rfl))) hG
  ·have htk:t≤t2:=Vr r1 r2 r3 b1 b2 (by rw[r4,hR',bv];exact Nat.le_of_lt (Nat.mod_lt _ hVp))
   exact Lv n0 (qu_mpr x y l1 l2 zs rs t1 t2 (F.top zs t1) t hsm ha hb hov hx0 hy0 (fun n0 b h=>Uq n0 b zs (F.top zs t1) t1 true _ h (by rw[z2];exact F.top_le _ _) (by have:=F.top_le zs t1;omega) z1 (Nb zs t1) (by rw[F.top_val,List.take_of_length_le om,z3,av,bv,tdv,hx0,hy0]<;>rfl)) (fun n0 b h=>sg_i n0 b rs t true _ h r2 om r1 (vpos r3) (by rw[r4,hR',tmv,hx0]<;>rfl))) hG
 ·rcases hov with⟨hR0,hov⟩|⟨rs,t,r1,r2,r3,r4,hov⟩
  ·have e:Int.tmod x y=0:=by rw[tmv,←hR',hR0];split<;>rfl
   rw[e,Mo]
   exact Lv n0 (qu_mmn x y l1 l2 zs [] t1 t2 (F.top zs t1) 0 hsm ha hb hov hx0 hy0 (fun n0 b h=>Uq n0 b zs (F.top zs t1) t1 false _ h (by rw[z2];exact F.top_le _ _) (by have:=F.top_le zs t1;omega) z1 (Nb zs t1) (by rw[F.top_val,List.take_of_length_le om,z3,av,bv,tdv,hx0,hy0]<;>rfl))) hG
  ·have htk:t≤t2:=Vr r1 r2 r3 b1 b2 (by rw[r4,hR',bv];exact Nat.le_of_lt (Nat.mod_lt _ hVp))
   exact Lv n0 (qu_mmr x y l1 l2 zs rs t1 t2 (F.top zs t1) t hsm ha hb hov hx0 hy0 (fun n0 b h=>Uq n0 b zs (F.top zs t1) t1 false _ h (by rw[z2];exact F.top_le _ _) (by have:=F.top_le zs t1;omega) z1 (Nb zs t1) (by rw[F.top_val,List.take_of_length_le om,z3,av,bv,tdv,hx0,hy0]<;>rfl)) (fun n0 b h=>sg_i n0 b rs t true _ h r2 om r1 (vpos r3) (by rw[r4,hR',tmv,hx0]<;>rfl))) hG
noncomputable section
abbrev Rt(x y:Int):Value:=.tuple #[(.string (Ad (Int.tdiv x y))),(.string (Ad (Int.tmod x y)))]
end
theorem dl_mono{a b k:Nat}(h:a≤b)(hb:(Ae b).length≤k)(hk:0<k):(Ae a).length≤k:=Ej (Es k a (Nat.lt_of_le_of_lt h (Da hb))) hk
theorem istr_m1:Ad (-1)=Seg.bts [45,49]:=by kernel_rfl
theorem opw(k:Nat)(h:0<k):(Ae (-1:Int).natAbs).length≤k:=Ej (Es k _ (by rw[show (-1:Int).natAbs=1 from rfl];exact Nat.one_lt_pow (by omega) (by decide))) h
theorem pl_m1(z:Int)(n0:Nat)(hG:5≤n0)(hz:(Ae z.natAbs).length≤100000000):FT 40 #[.string (Ad z),.string (Seg.bts [45,49])] n0 [] (.string (Ad (z-1))) [] []:=by
 have:=pl_i z (-1) n0 hG hz (opw _ de)
 rw[istr_m1]at this
 exact this
theorem neT{z:Int}(h:z≠0):(!((Ad z).toList==(Seg.bts [48]).toList))=true:=by rw[←Mo,txt_eqF h];rfl
theorem neF{z:Int}(h:z=0):(!((Ad z).toList==(Seg.bts [48]).toList))=false:=by rw[←Mo,txt_eqT h];rfl
theorem fo_z(x y:Int)(hy:y≠0)(hdx:(Ae x.natAbs).length≤1000000)(hdy:(Ae y.natAbs).length≤1000000)(hr0:(Int.tmod x y)=0):CT 50 #[(.string (Ad x)),(.string (Ad y))] (Ag 5 []) (Rt x y) (Ag 5 []):=
 sF (sc:=[(9,.call [] (Rt x y) [] []),(10,.op (.rwB false)),(18,.stay)]) kr (aI (qu_i x y hy 5 om hdx hdy) (aI (show (!((Ad (Int.tmod x y)).toList==(bts [48]).toList))=false from (neF hr0)) tt)) (Gets.refl _)
theorem fo_pp(x y:Int)(hy:y≠0)(hdx:(Ae x.natAbs).length≤1000000)(hdy:(Ae y.natAbs).length≤1000000)(hr0:(Int.tmod x y)≠0)(hrs:decide ((Int.tmod x y)<0)=false)(hys:decide (y<0)=false):CT 50 #[(.string (Ad x)),(.string (Ad y))] (Ag 5 []) (Rt x y) (Ag 5 []):=
 sF (sc:=[(9,.call [] (Rt x y) [] []),(10,.op (.rwB true)),(2,.call [] bF [] []),(1,.call [] bF [] []),(13,.stay)]) kr (aI (qu_i x y hy 5 om hdx hdy) (aI (show (!((Ad (Int.tmod x y)).toList==(bts [48]).toList))=true from (neT hr0)) (aI (Cb (Int.tmod x y) false hrs 5 om) (aI (Cb y false hys 5 om) tt)))) (Gets.refl _)
theorem fo_pm(x y:Int)(hy:y≠0)(hdx:(Ae x.natAbs).length≤1000000)(hdy:(Ae y.natAbs).length≤1000000)(hr0:(Int.tmod x y)≠0)(hrs:decide ((Int.tmod x y)<0)=false)(hys:decide (y<0)=true)(hdq:(Ae (Int.tdiv x y).natAbs).length≤100000000)(hdr:(Ae (Int.tmod x y).natAbs).length≤100000000):CT 50 #[(.string (Ad x)),(.string (Ad y))] (Ag 5 []) (.tuple #[(.string (Ad ((Int.tdiv x y)-1))),(.string (Ad ((Int.tmod x y)+y)))]) (Ag 5 []):=
 sF (sc:=[(9,.call [] (Rt x y) [] []),(10,.op (.rwB true)),(2,.call [] bF [] []),(1,.call [] bT [] []),(63,.call [] (.string (Ad ((Int.tdiv x y)-1))) [] []),(6,.call [] (.string (Ad ((Int.tmod x y)+y))) [] []),(4,.stay)]) kr (aI (qu_i x y hy 5 om hdx hdy) (aI (show (!((Ad (Int.tmod x y)).toList==(bts [48]).toList))=true from (neT hr0)) (aI (Cb (Int.tmod x y) false hrs 5 om) (aI (Cb y true hys 5 om) (aI (pl_m1 (Int.tdiv x y) 5 om hdq) (aI (pl_i (Int.tmod x y) y 5 om hdr om) tt)))))) (Gets.refl _)
theorem fo_mp(x y:Int)(hy:y≠0)(hdx:(Ae x.natAbs).length≤1000000)(hdy:(Ae y.natAbs).length≤1000000)(hr0:(Int.tmod x y)≠0)(hrs:decide ((Int.tmod x y)<0)=true)(hys:decide (y<0)=false)(hdq:(Ae (Int.tdiv x y).natAbs).length≤100000000)(hdr:(Ae (Int.tmod x y).natAbs).length≤100000000):CT 50 #[(.string (Ad x)),(.string (Ad y))] (Ag 5 []) (.tuple #[(.string (Ad ((Int.tdiv x y)-1))),(.string (Ad ((Int.tmod x y)+y)))]) (Ag 5 []):=
 sF (sc:=[(9,.call [] (Rt x y) [] []),(10,.op (.rwB true)),(2,.call [] bT [] []),(1,.call [] bF [] []),(63,.call [] (.string (Ad ((Int.tdiv x y)-1))) [] []),(6,.call [] (.string (Ad ((Int.tmod x y)+y))) [] []),(4,.stay)]) kr (aI (qu_i x y hy 5 om hdx hdy) (aI (show (!((Ad (Int.tmod x y)).toList==(bts [48]).toList))=true from (neT hr0)) (aI (Cb (Int.tmod x y) true hrs 5 om) (aI (Cb y false hys 5 om) (aI (pl_m1 (Int.tdiv x y) 5 om hdq) (aI (pl_i (Int.tmod x y) y 5 om hdr om) tt)))))) (Gets.refl _)
theorem fo_mm(x y:Int)(hy:y≠0)(hdx:(Ae x.natAbs).length≤1000000)(hdy:(Ae y.natAbs).length≤1000000)(hr0:(Int.tmod x y)≠0)(hrs:decide ((Int.tmod x y)<0)=true)(hys:decide (y<0)=true):CT 50 #[(.string (Ad x)),(.string (Ad y))] (Ag 5 []) (Rt x y) (Ag 5 []):=
 sF (sc:=[(9,.call [] (Rt x y) [] []),(10,.op (.rwB true)),(2,.call [] bT [] []),(1,.call [] bT [] []),(13,.stay)]) kr (aI (qu_i x y hy 5 om hdx hdy) (aI (show (!((Ad (Int.tmod x y)).toList==(bts [48]).toList))=true from (neT hr0)) (aI (Cb (Int.tmod x y) true hrs 5 om) (aI (Cb y true hys 5 om) tt)))) (Gets.refl _)
theorem fo_i2(x y:Int)(hy:y≠0)(n0:Nat)(hG:5≤n0)(hdx:(Ae x.natAbs).length≤1000000)(hdy:(Ae y.natAbs).length≤1000000):FT 50 #[.string (Ad x),.string (Ad y)] n0 [] (.tuple #[.string (Ad (flQ x y)),.string (Ad (Xh x y))]) [] []:=by
 have hdq:=Nat.le_trans (dl_mono (tdiv_le x y) hdx de) (show 1000000≤100000000 by decide)
 have hdr:=Nat.le_trans (dl_mono (tmod_le x y) hdx de) (show 1000000≤100000000 by decide)
 by_cases hr0:(Int.tmod x y)=0
 ·have ha: ¬adj x y:=fun h=>h.1 hr0
  rw[flQ,Xh,if_neg ha,if_neg ha]
  exact Lv n0 (fo_z x y hy hdx hdy hr0) hG
 ·cases hrs:decide ((Int.tmod x y)<0)<;>cases hys:decide (y<0)
  ·have ha: ¬adj x y:=by unfold adj;simp only[decide_eq_true_eq,decide_eq_false_iff_not]at hrs hys;omega
   rw[flQ,Xh,if_neg ha,if_neg ha]
   exact Lv n0 (fo_pp x y hy hdx hdy hr0 hrs hys) hG
  ·have ha:adj x y:=by unfold adj;simp only[decide_eq_true_eq,decide_eq_false_iff_not]at hrs hys;omega
   rw[flQ,Xh,if_pos ha,if_pos ha]
   exact Lv n0 (fo_pm x y hy hdx hdy hr0 hrs hys hdq hdr) hG
  ·have ha:adj x y:=by unfold adj;simp only[decide_eq_true_eq,decide_eq_false_iff_not]at hrs hys;omega
   rw[flQ,Xh,if_pos ha,if_pos ha]
   exact Lv n0 (fo_mp x y hy hdx hdy hr0 hrs hys hdq hdr) hG
  ·have ha: ¬adj x y:=by unfold adj;simp only[decide_eq_true_eq,decide_eq_false_iff_not]at hrs hys;omega
   rw[flQ,Xh,if_neg ha,if_neg ha]
   exact Lv n0 (fo_mm x y hy hdx hdy hr0 hrs hys) hG
theorem fo_i(z:Int)(n0:Nat)(hG:5≤n0)(hz:(Ae z.natAbs).length<1099511627776):FT 104 #[.string (Ad z)] n0 [] bT [] []:=by
 rcases Gz z with⟨k,rfl,hm⟩|⟨k,h0,rfl,hm⟩
 ·rw[Df]
  rw[hm]at hz
  exact fo_pc n0 _ hG (Bx _) (Be _) hz (fun h=>Lu k (by
   rcases Nat.eq_zero_or_pos k with q|q
   ·rw[q,Gi]at h
    exact absurd h de
   ·exact q))
 ·rw[Hp h0]
  rw[hm]at hz
  exact fo_mc n0 _ hG (Bx _) (Be _) hz (fun _=>Lu k h0) (Lu k h0)
theorem ck_o(z:Int)(hz:(Ae z.natAbs).length≤400):CT 74 #[(.string (Ad z))] (Ag 5 []) (lI 0) (Ag 5 []):=
 sF (sc:=[(8,.call [] bT [] []),(8,.call [] (.string (Aa (Ae z.natAbs))) [] []),(1,.op (.rwB false)),(8,.stay)]) kr (aI (fo_i z 5 om om) (aI (Gq z 5 om) (aI (show decide ((((Aa (Ae z.natAbs)).size:Nat):Int)>(400:Int))=false from (by simp only[decide_eq_true_eq,decide_eq_false_iff_not,Af,gt_iff_lt]<;>omega)) tt))) (Gets.refl _)
theorem ck_i(z:Int)(n0:Nat)(hG:5≤n0)(hz:(Ae z.natAbs).length≤400):FT 74 #[.string (Ad z)] n0 [] (lI 0) [] []:=
 Lv n0 (ck_o z hz) hG
end Go.Proofs.YtldoiilgfcpipaaGreatDoor
