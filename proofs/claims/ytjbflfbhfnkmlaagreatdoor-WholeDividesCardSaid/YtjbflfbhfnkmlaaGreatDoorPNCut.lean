import Derived.Test.YtjbflfbhfnkmlaaGreatDoorPLongDiv
import Derived.Test.YtjbflfbhfnkmlaaGreatDoorLF
import Derived.Test.YtjbflfbhfnkmlaaGreatDoorK
import Derived.Test.YtjbflfbhfnkmlaaGreatDoorPTrim
import Derived.Test.YtjbflfbhfnkmlaaGreatDoorPGiveBack
set_option linter.unusedVariables false
set_option linter.unusedSimpArgs false
set_option maxRecDepth 100000
namespace Go.Proofs.YtjbflfbhfnkmlaaGreatDoor
open Go Go.AE Seg
noncomputable section
abbrev Lu:Value:=.agg #[bF,nS]
end
theorem sgn_f:CT 117 #[bF,nS] (Ac 5 []) Lu (Ac 6 []):=
 sF (sc:=[(17,.stay)]) kr tt (Gets.refl _)
theorem sgn_fc(n0:Nat)(hG:5≤n0):FT 117 #[bF,nS] n0 [] (.agg #[bF,nS]) [] []:=
 Dy n0 (sgn_f) hG
theorem sgn_t:CT 117 #[bT,nS] (Ac 5 []) Lu (Ac 6 []):=
 sF (sc:=[(17,.stay)]) kr tt (Gets.refl _)
theorem sgn_tc(n0:Nat)(hG:5≤n0):FT 117 #[bT,nS] n0 [] (.agg #[bF,nS]) [] []:=
 Dy n0 (sgn_t) hG
theorem ct_0ff(xs ys:List Nat)(n c k e:Nat)(hov:(FT 116 #[sl 5 n c,sl 6 k e] 11 [(5,cU xs),(6,cU ys)] (.tuple #[.slice none 0 0,sl 5 n c]) [(5,some (cU xs)),(6,some (cU ys))] [])):CT 63 #[(.agg #[bF,(sl 5 n c)]),(.agg #[bF,(sl 6 k e)])] (Ac 7 [(5,(cU xs)),(6,(cU ys))]) (.tuple #[Lu,(.agg #[bF,(sl 5 n c)])]) (Ac 11 [(5,(cU xs)),(6,(cU ys))]):=
 sF (sc:=[(13,.call [5,6] (.tuple #[nS,(sl 5 n c)]) [(5,some (cU xs)),(6,some (cU ys))] []),(7,.drwM [] [⟨4,[],bF,[],[]⟩,⟨6,[],Lu,[],[]⟩,⟨10,[5],(.agg #[bF,(sl 5 n c)]),[(5,some (cU xs))],[]⟩]),(1,.stay)]) kr (aI hov (aI (aI tt (aI tt (aI tt (aI tt (aI tt (aI tt (aI tt (aI tt (aI (wi_ffc 11 om) (aI (sgn_fc 11 om) (aI (Wz 11 5 xs n c om) (aI tt (aI tt tt))))))))))))) tt)) (Gets.refl _)
theorem ct_0ft(xs ys:List Nat)(n c k e:Nat)(hov:(FT 116 #[sl 5 n c,sl 6 k e] 11 [(5,cU xs),(6,cU ys)] (.tuple #[.slice none 0 0,sl 5 n c]) [(5,some (cU xs)),(6,some (cU ys))] [])):CT 63 #[(.agg #[bF,(sl 5 n c)]),(.agg #[bT,(sl 6 k e)])] (Ac 7 [(5,(cU xs)),(6,(cU ys))]) (.tuple #[Lu,(.agg #[bF,(sl 5 n c)])]) (Ac 11 [(5,(cU xs)),(6,(cU ys))]):=
 sF (sc:=[(13,.call [5,6] (.tuple #[nS,(sl 5 n c)]) [(5,some (cU xs)),(6,some (cU ys))] []),(7,.drwM [] [⟨4,[],bT,[],[]⟩,⟨6,[],Lu,[],[]⟩,⟨10,[5],(.agg #[bF,(sl 5 n c)]),[(5,some (cU xs))],[]⟩]),(1,.stay)]) kr (aI hov (aI (aI tt (aI tt (aI tt (aI tt (aI tt (aI tt (aI tt (aI tt (aI (wi_ftc 11 om) (aI (sgn_tc 11 om) (aI (Wz 11 5 xs n c om) (aI tt (aI tt tt))))))))))))) tt)) (Gets.refl _)
theorem ct_0tf(xs ys:List Nat)(n c k e:Nat)(hxn:0<n)(hov:(FT 116 #[sl 5 n c,sl 6 k e] 11 [(5,cU xs),(6,cU ys)] (.tuple #[.slice none 0 0,sl 5 n c]) [(5,some (cU xs)),(6,some (cU ys))] [])):CT 63 #[(.agg #[bT,(sl 5 n c)]),(.agg #[bF,(sl 6 k e)])] (Ac 7 [(5,(cU xs)),(6,(cU ys))]) (.tuple #[Lu,(.agg #[bT,(sl 5 n c)])]) (Ac 11 [(5,(cU xs)),(6,(cU ys))]):=
 sF (sc:=[(13,.call [5,6] (.tuple #[nS,(sl 5 n c)]) [(5,some (cU xs)),(6,some (cU ys))] []),(7,.drwM [] [⟨4,[],bT,[],[]⟩,⟨6,[],Lu,[],[]⟩,⟨10,[5],(.agg #[bT,(sl 5 n c)]),[(5,some (cU xs))],[]⟩]),(1,.stay)]) kr (aI hov (aI (aI tt (aI tt (aI tt (aI tt (aI tt (aI tt (aI tt (aI tt (aI (wi_tfc 11 om) (aI (sgn_tc 11 om) (aI (Tz 11 5 xs n c om hxn) (aI tt (aI tt tt))))))))))))) tt)) (Gets.refl _)
theorem ct_0tt(xs ys:List Nat)(n c k e:Nat)(hxn:0<n)(hov:(FT 116 #[sl 5 n c,sl 6 k e] 11 [(5,cU xs),(6,cU ys)] (.tuple #[.slice none 0 0,sl 5 n c]) [(5,some (cU xs)),(6,some (cU ys))] [])):CT 63 #[(.agg #[bT,(sl 5 n c)]),(.agg #[bT,(sl 6 k e)])] (Ac 7 [(5,(cU xs)),(6,(cU ys))]) (.tuple #[Lu,(.agg #[bT,(sl 5 n c)])]) (Ac 11 [(5,(cU xs)),(6,(cU ys))]):=
 sF (sc:=[(13,.call [5,6] (.tuple #[nS,(sl 5 n c)]) [(5,some (cU xs)),(6,some (cU ys))] []),(7,.drwM [] [⟨4,[],bF,[],[]⟩,⟨6,[],Lu,[],[]⟩,⟨10,[5],(.agg #[bT,(sl 5 n c)]),[(5,some (cU xs))],[]⟩]),(1,.stay)]) kr (aI hov (aI (aI tt (aI tt (aI tt (aI tt (aI tt (aI tt (aI tt (aI tt (aI (wi_ttc 11 om) (aI (sgn_fc 11 om) (aI (Tz 11 5 xs n c om hxn) (aI tt (aI tt tt))))))))))))) tt)) (Gets.refl _)
theorem ct_1ff(xs ys:List Nat)(n c k e:Nat)(zs rs:List Nat)(t u:Nat)(ht:0<t)(hov:(FT 116 #[sl 5 n c,sl 6 k e] 11 [(5,cU xs),(6,cU ys)] (.tuple #[sl 11 t t,sl 12 u u]) [(5,some (cU xs)),(6,some (cU ys))] [cU zs,cU rs])):CT 63 #[(.agg #[bF,(sl 5 n c)]),(.agg #[bF,(sl 6 k e)])] (Ac 7 [(5,(cU xs)),(6,(cU ys))]) (.tuple #[(.agg #[bF,(sl 11 t t)]),(.agg #[bF,(sl 12 u u)])]) (Ac 13 [(5,(cU xs)),(6,(cU ys)),(11,(cU zs)),(12,(cU rs))]):=
 sF (sc:=[(13,.call [5,6] (.tuple #[(sl 11 t t),(sl 12 u u)]) [(5,some (cU xs)),(6,some (cU ys))] [(cU zs),(cU rs)]),(7,.drwM [] [⟨4,[],bF,[],[]⟩,⟨6,[11],(.agg #[bF,(sl 11 t t)]),[(11,some (cU zs))],[]⟩,⟨10,[12],(.agg #[bF,(sl 12 u u)]),[(12,some (cU rs))],[]⟩]),(1,.stay)]) kr (aI hov (aI (aI tt (aI tt (aI tt (aI tt (aI tt (aI tt (aI tt (aI tt (aI (wi_ffc 13 om) (aI (Wz 13 11 zs t t om) (aI (Wz 13 12 rs u u om) (aI tt (aI tt tt))))))))))))) tt)) (Gets.refl _)
theorem ct_1ft(xs ys:List Nat)(n c k e:Nat)(zs rs:List Nat)(t u:Nat)(ht:0<t)(hov:(FT 116 #[sl 5 n c,sl 6 k e] 11 [(5,cU xs),(6,cU ys)] (.tuple #[sl 11 t t,sl 12 u u]) [(5,some (cU xs)),(6,some (cU ys))] [cU zs,cU rs])):CT 63 #[(.agg #[bF,(sl 5 n c)]),(.agg #[bT,(sl 6 k e)])] (Ac 7 [(5,(cU xs)),(6,(cU ys))]) (.tuple #[(.agg #[bT,(sl 11 t t)]),(.agg #[bF,(sl 12 u u)])]) (Ac 13 [(5,(cU xs)),(6,(cU ys)),(11,(cU zs)),(12,(cU rs))]):=
 sF (sc:=[(13,.call [5,6] (.tuple #[(sl 11 t t),(sl 12 u u)]) [(5,some (cU xs)),(6,some (cU ys))] [(cU zs),(cU rs)]),(7,.drwM [] [⟨4,[],bT,[],[]⟩,⟨6,[11],(.agg #[bT,(sl 11 t t)]),[(11,some (cU zs))],[]⟩,⟨10,[12],(.agg #[bF,(sl 12 u u)]),[(12,some (cU rs))],[]⟩]),(1,.stay)]) kr (aI hov (aI (aI tt (aI tt (aI tt (aI tt (aI tt (aI tt (aI tt (aI tt (aI (wi_ftc 13 om) (aI (Tz 13 11 zs t t om ht) (aI (Wz 13 12 rs u u om) (aI tt (aI tt tt))))))))))))) tt)) (Gets.refl _)
theorem ct_1tf(xs ys:List Nat)(n c k e:Nat)(zs rs:List Nat)(t u:Nat)(ht:0<t)(hu:0<u)(hov:(FT 116 #[sl 5 n c,sl 6 k e] 11 [(5,cU xs),(6,cU ys)] (.tuple #[sl 11 t t,sl 12 u u]) [(5,some (cU xs)),(6,some (cU ys))] [cU zs,cU rs])):CT 63 #[(.agg #[bT,(sl 5 n c)]),(.agg #[bF,(sl 6 k e)])] (Ac 7 [(5,(cU xs)),(6,(cU ys))]) (.tuple #[(.agg #[bT,(sl 11 t t)]),(.agg #[bT,(sl 12 u u)])]) (Ac 13 [(5,(cU xs)),(6,(cU ys)),(11,(cU zs)),(12,(cU rs))]):=
 sF (sc:=[(13,.call [5,6] (.tuple #[(sl 11 t t),(sl 12 u u)]) [(5,some (cU xs)),(6,some (cU ys))] [(cU zs),(cU rs)]),(7,.drwM [] [⟨4,[],bT,[],[]⟩,⟨6,[11],(.agg #[bT,(sl 11 t t)]),[(11,some (cU zs))],[]⟩,⟨10,[12],(.agg #[bT,(sl 12 u u)]),[(12,some (cU rs))],[]⟩]),(1,.stay)]) kr (aI hov (aI (aI tt (aI tt (aI tt (aI tt (aI tt (aI tt (aI tt (aI tt (aI (wi_tfc 13 om) (aI (Tz 13 11 zs t t om ht) (aI (Tz 13 12 rs u u om hu) (aI tt (aI tt tt))))))))))))) tt)) (Gets.refl _)
theorem ct_1tfz(xs ys:List Nat)(n c k e:Nat)(zs rs:List Nat)(t u:Nat)(ht:0<t)(hu:u=0)(hov:(FT 116 #[sl 5 n c,sl 6 k e] 11 [(5,cU xs),(6,cU ys)] (.tuple #[sl 11 t t,sl 12 u u]) [(5,some (cU xs)),(6,some (cU ys))] [cU zs,cU rs])):CT 63 #[(.agg #[bT,(sl 5 n c)]),(.agg #[bF,(sl 6 k e)])] (Ac 7 [(5,(cU xs)),(6,(cU ys))]) (.tuple #[(.agg #[bT,(sl 11 t t)]),(.agg #[bF,(sl 12 u u)])]) (Ac 13 [(5,(cU xs)),(6,(cU ys)),(11,(cU zs)),(12,(cU rs))]):=
 sF (sc:=[(13,.call [5,6] (.tuple #[(sl 11 t t),(sl 12 u u)]) [(5,some (cU xs)),(6,some (cU ys))] [(cU zs),(cU rs)]),(7,.drwM [] [⟨4,[],bT,[],[]⟩,⟨6,[11],(.agg #[bT,(sl 11 t t)]),[(11,some (cU zs))],[]⟩,⟨10,[12],(.agg #[bF,(sl 12 u u)]),[(12,some (cU rs))],[]⟩]),(1,.stay)]) kr (aI hov (aI (aI tt (aI tt (aI tt (aI tt (aI tt (aI tt (aI tt (aI tt (aI (wi_tfc 13 om) (aI (Tz 13 11 zs t t om ht) (aI (sg_zc 13 12 rs u u om hu) (aI tt (aI tt tt))))))))))))) tt)) (Gets.refl _)
theorem ct_1tt(xs ys:List Nat)(n c k e:Nat)(zs rs:List Nat)(t u:Nat)(ht:0<t)(hu:0<u)(hov:(FT 116 #[sl 5 n c,sl 6 k e] 11 [(5,cU xs),(6,cU ys)] (.tuple #[sl 11 t t,sl 12 u u]) [(5,some (cU xs)),(6,some (cU ys))] [cU zs,cU rs])):CT 63 #[(.agg #[bT,(sl 5 n c)]),(.agg #[bT,(sl 6 k e)])] (Ac 7 [(5,(cU xs)),(6,(cU ys))]) (.tuple #[(.agg #[bF,(sl 11 t t)]),(.agg #[bT,(sl 12 u u)])]) (Ac 13 [(5,(cU xs)),(6,(cU ys)),(11,(cU zs)),(12,(cU rs))]):=
 sF (sc:=[(13,.call [5,6] (.tuple #[(sl 11 t t),(sl 12 u u)]) [(5,some (cU xs)),(6,some (cU ys))] [(cU zs),(cU rs)]),(7,.drwM [] [⟨4,[],bF,[],[]⟩,⟨6,[11],(.agg #[bF,(sl 11 t t)]),[(11,some (cU zs))],[]⟩,⟨10,[12],(.agg #[bT,(sl 12 u u)]),[(12,some (cU rs))],[]⟩]),(1,.stay)]) kr (aI hov (aI (aI tt (aI tt (aI tt (aI tt (aI tt (aI tt (aI tt (aI tt (aI (wi_ttc 13 om) (aI (Wz 13 11 zs t t om) (aI (Tz 13 12 rs u u om hu) (aI tt (aI tt tt))))))))))))) tt)) (Gets.refl _)
theorem ct_1ttz(xs ys:List Nat)(n c k e:Nat)(zs rs:List Nat)(t u:Nat)(ht:0<t)(hu:u=0)(hov:(FT 116 #[sl 5 n c,sl 6 k e] 11 [(5,cU xs),(6,cU ys)] (.tuple #[sl 11 t t,sl 12 u u]) [(5,some (cU xs)),(6,some (cU ys))] [cU zs,cU rs])):CT 63 #[(.agg #[bT,(sl 5 n c)]),(.agg #[bT,(sl 6 k e)])] (Ac 7 [(5,(cU xs)),(6,(cU ys))]) (.tuple #[(.agg #[bF,(sl 11 t t)]),(.agg #[bF,(sl 12 u u)])]) (Ac 13 [(5,(cU xs)),(6,(cU ys)),(11,(cU zs)),(12,(cU rs))]):=
 sF (sc:=[(13,.call [5,6] (.tuple #[(sl 11 t t),(sl 12 u u)]) [(5,some (cU xs)),(6,some (cU ys))] [(cU zs),(cU rs)]),(7,.drwM [] [⟨4,[],bF,[],[]⟩,⟨6,[11],(.agg #[bF,(sl 11 t t)]),[(11,some (cU zs))],[]⟩,⟨10,[12],(.agg #[bF,(sl 12 u u)]),[(12,some (cU rs))],[]⟩]),(1,.stay)]) kr (aI hov (aI (aI tt (aI tt (aI tt (aI tt (aI tt (aI tt (aI tt (aI tt (aI (wi_ttc 13 om) (aI (Wz 13 11 zs t t om) (aI (sg_zc 13 12 rs u u om hu) (aI tt (aI tt tt))))))))))))) tt)) (Gets.refl _)
theorem ct_c(n0 bx byy:Nat)(xs ys:List Nat)(n c k e:Nat)(sx sy:Bool)(hb:5≤bx∧bx<n0∧5≤byy∧byy<n0∧bx≠byy)(hlx:Lim xs)(hly:Lim ys)(hc:n≤xs.length)(hk:k≤ys.length)(hn:n<1000000)(hkm:k<1000000)(hx:0<n→xs.getD (n-1) 0≠0)(hy:0<k→ys.getD (k-1) 0≠0)(hsx:sx=true→0<n)(hsy:sy=true→0<k)(h0:0<k):
  ((val (xs.take n)<val (ys.take k))∧FT 63 #[.agg #[.bool sx,sl bx n c],.agg #[.bool sy,sl byy k e]] n0 [(bx,cU xs),(byy,cU ys)] (.tuple #[.agg #[.bool false,.slice none 0 0],.agg #[.bool sx,sl bx n c]]) [(bx,some (cU xs)),(byy,some (cU ys))] [])∨
  (∃sq zs t sr rs u,Lim zs∧t≤zs.length∧t≤n+5∧(0<t→zs.getD (t-1) 0≠0)∧(sq=true→0<t)∧iv sq (val (zs.take t))=Int.tdiv (iv sx (val (xs.take n))) (iv sy (val (ys.take k)))∧
   Lim rs∧u≤rs.length∧u≤n+k+5∧(0<u→rs.getD (u-1) 0≠0)∧(sr=true→0<u)∧iv sr (val (rs.take u))=Int.tmod (iv sx (val (xs.take n))) (iv sy (val (ys.take k)))∧
   FT 63 #[.agg #[.bool sx,sl bx n c],.agg #[.bool sy,sl byy k e]] n0 [(bx,cU xs),(byy,cU ys)] (.tuple #[.agg #[.bool sq,sl n0 t t],.agg #[.bool sr,sl (n0+1) u u]]) [(bx,some (cU xs)),(byy,some (cU ys))] [cU zs,cU rs]):=by
 rcases ov_c 11 5 6 xs ys n c k e om hlx hly hc hk om om hx hy h0 with⟨hlt,T⟩|⟨hge,zs,t,rs,u,a1,a2,a3,a4,a5,b1,b2,b3,b4,b5,T⟩
 ·cases sx<;>cases sy
  ·exact .inl ⟨hlt,ff [bx,byy] [cU xs,cU ys] [cU xs,cU ys] [] [] n0 (ct_0ff xs ys n c k e T) (hnd:=by simp[hb.2.2.2.2])⟩
  ·exact .inl ⟨hlt,ff [bx,byy] [cU xs,cU ys] [cU xs,cU ys] [] [] n0 (ct_0ft xs ys n c k e T) (hnd:=by simp[hb.2.2.2.2])⟩
  ·exact .inl ⟨hlt,ff [bx,byy] [cU xs,cU ys] [cU xs,cU ys] [] [] n0 (ct_0tf xs ys n c k e (hsx rfl) T) (hnd:=by simp[hb.2.2.2.2])⟩
  ·exact .inl ⟨hlt,ff [bx,byy] [cU xs,cU ys] [cU xs,cU ys] [] [] n0 (ct_0tt xs ys n c k e (hsx rfl) T) (hnd:=by simp[hb.2.2.2.2])⟩
 ·have hyp:0<val (ys.take k):=Rj h0 hy
  have hq:0<val (zs.take t):=by
   rw[a5]
   exact Nat.div_pos hge hyp
  have ht:0<t:=by
   rcases Nat.eq_zero_or_pos t with q|q
   ·rw[q,List.take_zero]at hq
    exact absurd hq de
   ·exact q
  cases sx<;>cases sy
  · · exact .inr ⟨false,zs,t,false,rs,u,a1,a2,by omega,a4,(by intro q;cases q),by simp only[Ez,Gc];rw[tdiv_pp,a5],b1,b2,by omega,b4,(by intro q;cases q),by simp only[Ez,Gc];rw[tmod_pp,b5],ff [bx,byy] [cU xs,cU ys] [cU xs,cU ys] [11,12] [cU zs,cU rs] n0 (ct_1ff xs ys n c k e zs rs t u ht T) (hnd:=by simp[hb.2.2.2.2])⟩
  · · exact .inr ⟨true,zs,t,false,rs,u,a1,a2,by omega,a4,(fun _=>ht),by simp only[Ez,Gc];rw[tdiv_pm,a5],b1,b2,by omega,b4,(by intro q;cases q),by simp only[Ez,Gc];rw[tmod_pm,b5],ff [bx,byy] [cU xs,cU ys] [cU xs,cU ys] [11,12] [cU zs,cU rs] n0 (ct_1ft xs ys n c k e zs rs t u ht T) (hnd:=by simp[hb.2.2.2.2])⟩
  · · rcases Nat.eq_zero_or_pos u with hu|hu
      ·exact .inr ⟨true,zs,t,false,rs,u,a1,a2,by omega,a4,(fun _=>ht),by simp only[Ez,Gc];rw[tdiv_mp,a5],b1,b2,by omega,b4,(by intro q;cases q),by simp only[Ez,Gc];rw[tmod_mp,←b5,hu,List.take_zero];rfl,ff [bx,byy] [cU xs,cU ys] [cU xs,cU ys] [11,12] [cU zs,cU rs] n0 (ct_1tfz xs ys n c k e zs rs t u ht hu T) (hnd:=by simp[hb.2.2.2.2])⟩
      ·exact .inr ⟨true,zs,t,true,rs,u,a1,a2,by omega,a4,(fun _=>ht),by simp only[Ez,Gc];rw[tdiv_mp,a5],b1,b2,by omega,b4,(fun _=>hu),by simp only[Ez,Gc];rw[tmod_mp,b5],ff [bx,byy] [cU xs,cU ys] [cU xs,cU ys] [11,12] [cU zs,cU rs] n0 (ct_1tf xs ys n c k e zs rs t u ht hu T) (hnd:=by simp[hb.2.2.2.2])⟩
  · · rcases Nat.eq_zero_or_pos u with hu|hu
      ·exact .inr ⟨false,zs,t,false,rs,u,a1,a2,by omega,a4,(by intro q;cases q),by simp only[Ez,Gc];rw[tdiv_mm,a5],b1,b2,by omega,b4,(by intro q;cases q),by simp only[Ez,Gc];rw[tmod_mm,←b5,hu,List.take_zero];rfl,ff [bx,byy] [cU xs,cU ys] [cU xs,cU ys] [11,12] [cU zs,cU rs] n0 (ct_1ttz xs ys n c k e zs rs t u ht hu T) (hnd:=by simp[hb.2.2.2.2])⟩
      ·exact .inr ⟨false,zs,t,true,rs,u,a1,a2,by omega,a4,(by intro q;cases q),by simp only[Ez,Gc];rw[tdiv_mm,a5],b1,b2,by omega,b4,(fun _=>hu),by simp only[Ez,Gc];rw[tmod_mm,b5],ff [bx,byy] [cU xs,cU ys] [cU xs,cU ys] [11,12] [cU zs,cU rs] n0 (ct_1tt xs ys n c k e zs rs t u ht hu T) (hnd:=by simp[hb.2.2.2.2])⟩
noncomputable def gain_h_f(xs ys:List Nat)(n c k e:Nat)(q i:Nat)(j:List Value):Frame:=(Fr 189 ([(sl 5 n c),(sl 6 k e),uu,uu,(nW q),(nI i)]++(jj j 0 34 [])) [.code (cd Tryz.f189 [1,1,0,0]),.inLoop (cd Tryz.f189 [1,1,0,0]),.inBlock 0])
noncomputable def gain_h_o(xs ys:List Nat)(n c k e:Nat)(q i:Nat):List (Nat×AObj):=[(5,(cU xs)),(6,(cU ys))]
noncomputable def Ur(xs ys:List Nat)(n c k e:Nat)(q i:Nat)(j:List Value):AS:=⟨gain_h_f xs ys n c k e q i j,[],Ac 7 (gain_h_o xs ys n c k e q i)⟩
theorem gain_in(xs ys:List Nat)(n c k e:Nat):GT (Ca 189 #[(sl 5 n c),(sl 6 k e)] 7 [(5,(cU xs)),(6,(cU ys))]) (Ur xs ys n c k e 0 0 [undef,undef,undef,undef,undef,undef,undef,undef,undef,undef,undef,undef,undef,undef,undef,undef,undef,undef,undef,undef,undef,undef,undef,undef,undef,undef,undef,undef,undef,undef,undef,undef,undef,undef]):=
 sR (sc:=[(10,.stay)]) kr tt
theorem gain_r1(xs ys:List Nat)(n c k e q i a b:Nat)(j:List Value)(hi:i<k)(hn:i<n)(hc:n≤xs.length)(hm:n<9223372036854775807)(hkm:k<9223372036854775807)(hb:b<1000000000)(ha:a<1000000000)(hq:q≤1)(hx:(ns .u32 xs)[i]? =some (nW a))(hy:(ns .u32 ys)[i]? =some (nW b)):GT (Ur xs ys n c k e q i j) (Ur (xs.set i (((a+q)+b)%1000000000)) ys n c k e (((a+q)+b)/1000000000) (i+1) [(nW ((a+q)+b)),(nI i),(sl 6 k e),(nI k),bT,bT,undef,undef,bT,(nI i),(nI (i+1)),(sl 5 n c),(nI i),(pp 5 i),(nW a),(nW q),(nW (a+q)),(nI i),(sl 6 k e),(nI k),bT,(nW (a+q)),(sl 6 k e),(nI i),(pp 6 i),(nW b),(nW ((a+q)+b)),(nW ((a+q)+b)),(nW (((a+q)+b)/1000000000)),(sl 5 n c),(nI i),(nW ((a+q)+b)),(nW (((a+q)+b)%1000000000)),(pp 5 i)]):=
 sR (sc:=[(6,.op (.rwB true)),(13,.op (.idx i)),(0,.op (.ld (nW a))),(1,.op (.rwI (((a+q):Nat):Int))),(8,.op (.rwB true)),(6,.op (.idx i)),(0,.op (.ld (nW b))),(0,.op (.rwI ((((a+q)+b):Nat):Int))),(5,.op (.rwI (((((a+q)+b)/1000000000):Nat):Int))),(6,.op (.rwI (((((a+q)+b)%1000000000):Nat):Int))),(0,.op (.idx i)),(0,.op (.st (ns .u32 (xs.set i (((a+q)+b)%1000000000))))),(4,.op (.rwI (((i+1):Nat):Int))),(3,.stay)]) kr (aI (dT (p:=(i:Int)<(k:Int))) (aI (ix (i:Int) (n:Int) 0 1 i) (aI hx (aI (Br (a:=((a:Int)+(q:Int))) (r:=(((a+q):Nat):Int))) (aI (dT (p:=(i:Int)<(k:Int))) (aI (ix (i:Int) (k:Int) 0 1 i) (aI hy (aI (Br (a:=((((a+q):Nat):Int)+(b:Int))) (r:=((((a+q)+b):Nat):Int))) (aI (show IntKind.wrap .u32 (Int.tdiv ((((a+q)+b):Nat):Int) (1000000000:Int))=(((((a+q)+b)/1000000000):Nat):Int) from (by rw[Int.tdiv_eq_ediv_of_nonneg om,Bk om om]<;>omega)) (aI (show (Int.tmod ((((a+q)+b):Nat):Int) (1000000000:Int))=(((((a+q)+b)%1000000000):Nat):Int) from (by rw[Int.tmod_eq_emod_of_nonneg om]<;>omega)) (aI (ix (i:Int) (n:Int) 0 1 i) (aI (show i+1≤(ns .u32 xs).length∧Bq (ns .u32 xs) i [(nW (((a+q)+b)%1000000000))]=(ns .u32 (xs.set i (((a+q)+b)%1000000000))) from (Dw)) (aI (Am (a:=((i:Int)+(1:Int))) (r:=(((i+1):Nat):Int))) tt)))))))))))))
theorem gain_r2(xs ys:List Nat)(n c k e q i a:Nat)(j:List Value)(hi:k≤i)(hn:i<n)(hc:n≤xs.length)(hm:n<9223372036854775807)(hq:q=1)(ha:a<1000000000)(hx:(ns .u32 xs)[i]? =some (nW a)):GT (Ur xs ys n c k e q i j) (Ur (xs.set i ((a+q)%1000000000)) ys n c k e ((a+q)/1000000000) (i+1) ([(nW (a+q)),(nI i),(sl 6 k e),(nI k),bF,bF,(nW q),bT,bT,(nI i),(nI (i+1)),(sl 5 n c),(nI i),(pp 5 i),(nW a),(nW q),(nW (a+q)),(nI i),(sl 6 k e),(nI k),bF]++(jj j 21 6 [(nW (a+q)),(nW ((a+q)/1000000000)),(sl 5 n c),(nI i),(nW (a+q)),(nW ((a+q)%1000000000)),(pp 5 i)]))):=
 sR (sc:=[(6,.op (.rwB false)),(2,.op (.rwB true)),(10,.op (.idx i)),(0,.op (.ld (nW a))),(1,.op (.rwI (((a+q):Nat):Int))),(8,.op (.rwB false)),(6,.op (.rwI ((((a+q)/1000000000):Nat):Int))),(6,.op (.rwI ((((a+q)%1000000000):Nat):Int))),(0,.op (.idx i)),(0,.op (.st (ns .u32 (xs.set i ((a+q)%1000000000))))),(4,.op (.rwI (((i+1):Nat):Int))),(3,.stay)]) kr (aI (dF (p:=(i:Int)<(k:Int))) (aI (dT (p:=(q:Int)>(0:Int))) (aI (ix (i:Int) (n:Int) 0 1 i) (aI hx (aI (Br (a:=((a:Int)+(q:Int))) (r:=(((a+q):Nat):Int))) (aI (dF (p:=(i:Int)<(k:Int))) (aI (show IntKind.wrap .u32 (Int.tdiv (((a+q):Nat):Int) (1000000000:Int))=((((a+q)/1000000000):Nat):Int) from (by rw[Int.tdiv_eq_ediv_of_nonneg om,Bk om om]<;>omega)) (aI (show (Int.tmod (((a+q):Nat):Int) (1000000000:Int))=((((a+q)%1000000000):Nat):Int) from (by rw[Int.tmod_eq_emod_of_nonneg om]<;>omega)) (aI (ix (i:Int) (n:Int) 0 1 i) (aI (show i+1≤(ns .u32 xs).length∧Bq (ns .u32 xs) i [(nW ((a+q)%1000000000))]=(ns .u32 (xs.set i ((a+q)%1000000000))) from (Dw)) (aI (Am (a:=((i:Int)+(1:Int))) (r:=(((i+1):Nat):Int))) tt)))))))))))
theorem gain_out(xs0 xs ys:List Nat)(n c k e q i:Nat)(j:List Value)(hi:k≤i)(hq:q=0)(hr:GT (Ca 189 #[(sl 5 n c),(sl 6 k e)] 7 [(5,(cU xs0)),(6,(cU ys))]) (Ur xs ys n c k e q i j)):CT 189 #[(sl 5 n c),(sl 6 k e)] (Ac 7 [(5,(cU xs0)),(6,(cU ys))]) undef (Ac 7 [(5,(cU xs)),(6,(cU ys))]):=
 sF (sc:=[(6,.op (.rwB false)),(2,.op (.rwB false)),(5,.stay)]) kr (aI (dF (p:=(i:Int)<(k:Int))) (aI (dF (p:=(q:Int)>(0:Int))) tt)) hr
theorem gain_loop{s0:AS}{ys:List Nat}{n k e T:Nat}(hly:Lim ys)(hk:k≤ys.length)(hkn:k≤n)(hn:n<9223372036854775807)(hT:T<1000000000^n):
  ∀(m:Nat) (xs:List Nat) (q i:Nat) (j:List Value),m=n-i→xs.length=n→Lim xs→i≤n→q≤1→val xs+q*1000000000^i+1000000000^i*val ((ys.take k).drop i)=T→
   GT s0 (Ur xs ys n n k e q i j)→ ∃zs i' j',k≤i'∧zs.length=n∧Lim zs∧val zs=T∧GT s0 (Ur zs ys n n k e 0 i' j'):=by
 intro m
 induction m with
 |zero=>
  intro xs q i j hm hx hl hi hq hv hr
  have hin:i=n:=by omega
  subst hin
  have hq0:q=0:=by
   rcases Nat.eq_zero_or_pos q with h|h
   ·exact h
   ·have:=Nat.mul_le_mul_right (1000000000^i) h
    omega
  subst hq0
  refine⟨xs,i,j,hkn,hx,hl,?_,hr⟩
  rw[List.drop_eq_nil_of_le (by rw[List.length_take];omega)]at hv
  exact Ze hv
 |succ m ih=>
  intro xs q i j hm hx hl hi hq hv hr
  have hP:1000000000^(i+1)=1000000000^i*1000000000:=Nat.pow_succ ..
  by_cases hik:i<k
  ·have ha:=hl.get i
   have hb:=hly.get i
   have r:=gain_r1 xs ys n n k e q i (xs.getD i 0) (ys.getD i 0) j hik om om hn om hb ha hq (Aq) (Aq)
   refine ih _ _ _ _ om (by simpa using hx) (hl.set (Nat.mod_lt _ de)) om om ?_ (hr.trans r)
   have h1:=val_set xs i ((xs.getD i 0+q+ys.getD i 0)%1000000000) om
   have h2:val ((ys.take k).drop i)=ys.getD i 0+1000000000*val ((ys.take k).drop (i+1)):=by
    rw[val_drop (by rw[List.length_take];omega),getD_take hik]
   rw[h2]at hv
   rw[hP]
   exact carry_step h1 hv
  ·by_cases hq1:q=1
   ·subst hq1
    have hin:i<n:=by
     rcases Nat.lt_or_ge i n with h|h
     ·exact h
     ·have:=Tu h
      omega
    have ha:=hl.get i
    have r:=gain_r2 xs ys n n k e 1 i (xs.getD i 0) j om hin om hn rfl ha (Aq)
    refine ih _ _ _ _ om (by simpa using hx) (hl.set (Nat.mod_lt _ de)) om om ?_ (hr.trans r)
    have h1:=val_set xs i ((xs.getD i 0+1)%1000000000) om
    rw[List.drop_eq_nil_of_le (by rw[List.length_take];omega)]at hv ⊢
    rw[hP]
    exact nil_add (carry_step0 h1 (nil_one hv))
   ·have hq0:q=0:=by omega
    subst hq0
    refine⟨xs,i,j,by omega,hx,hl,?_,hr⟩
    rw[List.drop_eq_nil_of_le (by rw[List.length_take];omega)]at hv
    exact Ze hv
theorem gain_c(n0 bx byy:Nat)(xs ys:List Nat)(k e:Nat)(hb:5≤bx∧bx<n0∧5≤byy∧byy<n0∧bx≠byy)(hlx:Lim xs)(hly:Lim ys)(hk:k≤ys.length)(hkn:k≤xs.length)(hn:xs.length<9223372036854775807)
  (hT:val xs+val (ys.take k)<1000000000^xs.length):
  ∃zs,zs.length=xs.length∧Lim zs∧val zs=val xs+val (ys.take k)∧
   FT 189 #[sl bx xs.length xs.length,sl byy k e] n0 [(bx,cU xs),(byy,cU ys)] undef
    [(bx,some (cU zs)),(byy,some (cU ys))] []:=by
 have r:=gain_in xs ys xs.length xs.length k e
 obtain⟨zs,i',j',h1,h2,h3,h4,h5⟩:=gain_loop (T:=val xs+val (ys.take k)) hly hk hkn hn hT _ xs 0 0 _ rfl rfl hlx om om sm r
 have S:=gain_out xs zs ys xs.length xs.length k e 0 i' j' h1 rfl h5
 refine⟨zs,h2,h3,h4,ff [bx,byy] [cU xs,cU ys] [cU zs,cU ys] [] [] n0 S (hnd:= ?_) (hb:= ?_) (fo:= ?_) (fp:= ?_)⟩
 ·simp[hb.2.2.2.2]
 ·simp;omega
 ·simp[Bj,Af]
 ·simp[Bj,Af]
theorem plus_o(xs ys:List Nat)(n c k e:Nat)(hc:n≤xs.length)(hk:k≤ys.length)(hn:n<1099511627776)(hkm:k<1099511627776)(zs0:List Nat)(hz:zs0.length=max n k+1)(hc1:FT 189 #[(sl 7 ((max n k)+1) ((max n k)+1)),(sl 6 k e)] 8 [(7,(.cells (ns .u32 (xs.take n++List.replicate (((max n k)+1)-n) 0)) 121 none false)),(6,(cU ys))] undef [(7,some (cU zs0)),(6,some (cU ys))] []):CT 151 #[(sl 5 n c),(sl 6 k e)] (Ac 7 [(5,(cU xs)),(6,(cU ys))]) (sl 7 (top zs0 ((max n k)+1)) (top zs0 ((max n k)+1))) (Ac 8 [(5,(cU xs)),(6,(cU ys)),(7,(cU zs0))]):=
 sF (sc:=[(11,.op (.rwI (((max n k):Nat):Int))),(0,.op (.rwI ((((max n k)+1):Nat):Int))),(0,.call [5] (sl 7 ((max n k)+1) ((max n k)+1)) [(5,some (cU xs))] [(.cells (ns .u32 (xs.take n++List.replicate (((max n k)+1)-n) 0)) 121 none false)]),(6,.call [7,6] uu [(7,some (cU zs0)),(6,some (cU ys))] []),(4,.call [7] (sl 7 (top zs0 ((max n k)+1)) (top zs0 ((max n k)+1))) [(7,some (cU zs0))] []),(3,.stay)]) kr (aI (show (if (k:Int)>(n:Int) then (k:Int) else (n:Int))=(((max n k):Nat):Int) from om) (aI (Am (a:=((((max n k):Nat):Int)+(1:Int))) (r:=((((max n k)+1):Nat):Int))) (aI (Sp 7 5 xs n c ((max n k)+1) om om om om) (aI hc1 (aI (Uq 8 7 zs0 ((max n k)+1) ((max n k)+1) om (by rw[hz];exact Nat.le_refl _) om om) tt))))) (Gets.refl _)
theorem plus_c(n0 bx byy:Nat)(xs ys:List Nat)(n c k e:Nat)(hb:5≤bx∧bx<n0∧5≤byy∧byy<n0∧bx≠byy)(hlx:Lim xs)(hly:Lim ys)(hc:n≤xs.length)(hk:k≤ys.length)(hn:n<1099511627776)(hkm:k<1099511627776):
  ∃zs t,Lim zs∧t≤zs.length∧t≤max n k+1∧(0<t→zs.getD (t-1) 0≠0)∧val (zs.take t)=val (xs.take n)+val (ys.take k)∧
   FT 151 #[sl bx n c,sl byy k e] n0 [(bx,cU xs),(byy,cU ys)] (sl n0 t t)
    [(bx,some (cU xs)),(byy,some (cU ys))] [cU zs]:=by
 have hl1:(xs.take n++List.replicate (max n k+1-n) 0).length=max n k+1:=by rw[List.length_append,List.length_take,List.length_replicate];omega
 have hv1:val (xs.take n++List.replicate (max n k+1-n) 0)=val (xs.take n):=by rw[val_append,val_replicate,Nat.mul_zero,Nat.add_zero]
 have hx1:=val_lt (hlx.take n)
 have hy1:=val_lt (hly.take k)
 have hx2:val (xs.take n)<1000000000^max n k:=Nat.lt_of_lt_of_le hx1 (Tu (by rw[List.length_take];omega))
 have hy2:val (ys.take k)<1000000000^max n k:=Nat.lt_of_lt_of_le hy1 (Tu (by rw[List.length_take];omega))
 obtain⟨zs,h1,h2,h3,h4⟩:=gain_c 8 7 6 (xs.take n++List.replicate (max n k+1-n) 0) ys k e om ((hlx.take n).append (Lim.replicate _)) hly hk (by rw[hl1];omega) (by rw[hl1];omega) (by rw[hl1,hv1];exact sum_lt hx2 hy2)
 rw[hl1]at h1 h4
 have S:=plus_o xs ys n c k e hc hk hn hkm zs h1 h4
 have htl:=top_le zs (max n k+1)
 refine⟨zs,top zs (max n k+1),h2,by rw[h1];exact htl,htl,top_pos zs _,?_,ff [bx,byy] [cU xs,cU ys] [cU xs,cU ys] [7] [cU zs] n0 S (hnd:= ?_) (hb:= ?_) (fo:= ?_) (fp:= ?_) (fq:= ?_)⟩
 ·rw[top_val,List.take_of_length_le (by rw[h1];exact Nat.le_refl _),h3,hv1]
 ·simp[hb.2.2.2.2]
 ·simp;omega
 ·simp[Bj,Af]
 ·simp[Bj,Af]
 ·simp[Bj,Af,AObj.ro]
noncomputable section
abbrev Gh(i:Nat):Value:=pp 5 i
end
noncomputable def lose_h_f(xs ys:List Nat)(n c k e:Nat)(q i:Nat)(j:List Value):Frame:=(Fr 192 ([(sl 5 n c),(sl 6 k e),uu,uu,(nW q),(nI i)]++(jj j 0 41 [])) [.code (cd Tryz.f192 [1,1,0,0]),.inLoop (cd Tryz.f192 [1,1,0,0]),.inBlock 0])
noncomputable def lose_h_o(xs ys:List Nat)(n c k e:Nat)(q i:Nat):List (Nat×AObj):=[(5,(cU xs)),(6,(cU ys))]
noncomputable def Mr(xs ys:List Nat)(n c k e:Nat)(q i:Nat)(j:List Value):AS:=⟨lose_h_f xs ys n c k e q i j,[],Ac 7 (lose_h_o xs ys n c k e q i)⟩
theorem lose_in(xs ys:List Nat)(n c k e:Nat):GT (Ca 192 #[(sl 5 n c),(sl 6 k e)] 7 [(5,(cU xs)),(6,(cU ys))]) (Mr xs ys n c k e 0 0 [undef,undef,undef,undef,undef,undef,undef,undef,undef,undef,undef,undef,undef,undef,undef,undef,undef,undef,undef,undef,undef,undef,undef,undef,undef,undef,undef,undef,undef,undef,undef,undef,undef,undef,undef,undef,undef,undef,undef,undef,undef]):=
 sR (sc:=[(10,.stay)]) kr tt
theorem lose_t1(xs ys:List Nat)(n c k e q i a b v:Nat)(j:List Value)(hi:i<k)(hn:i<n)(hc:n≤xs.length)(hm:n<9223372036854775807)(hkm:k<9223372036854775807)(hb:b<1000000000)(ha:a<1000000000)(hq:q≤1)(hx:(ns .u32 xs)[i]? =some (nW a))(hy:(ns .u32 ys)[i]? =some (nW b))(hlt:a<q+b)(hv:v+(q+b)=a+1000000000):GT (Mr xs ys n c k e q i j) (Mr (xs.set i v) ys n c k e 1 (i+1) [(nW (q+b)),(nI i),(sl 6 k e),(nI k),bT,bT,undef,undef,bT,(nI i),(nI (i+1)),(nW q),(nI i),(sl 6 k e),(nI k),bT,(nW q),(sl 6 k e),(nI i),(pp 6 i),(nW b),(nW (q+b)),(sl 5 n c),(nI i),(Gh i),(nW a),(nW (q+b)),bT,(sl 5 n c),(nI i),(Gh i),(nW a),(nW (a+1000000000)),(Gh i),(sl 5 n c),(nI i),(Gh i),(nW (a+1000000000)),(nW (q+b)),(nW v),(Gh i)]):=
 sR (sc:=[(6,.op (.rwB true)),(20,.op (.rwB true)),(6,.op (.idx i)),(0,.op (.ld (nW b))),(0,.op (.rwI (((q+b):Nat):Int))),(11,.op (.idx i)),(0,.op (.ld (nW a))),(1,.op (.rwB true)),(9,.op (.idx i)),(0,.op (.ld (nW a))),(0,.op (.rwI (((a+1000000000):Nat):Int))),(0,.op (.idx i)),(0,.op (.st (ns .u32 (xs.set i (a+1000000000))))),(4,.op (.idx i)),(0,.op (.ld (nW (a+1000000000)))),(1,.op (.rwI (v:Int))),(0,.op (.idx i)),(0,.op (.st (ns .u32 (xs.set i v)))),(4,.op (.rwI (((i+1):Nat):Int))),(3,.stay)]) kr (aI (dT (p:=(i:Int)<(k:Int))) (aI (dT (p:=(i:Int)<(k:Int))) (aI (ix (i:Int) (k:Int) 0 1 i) (aI hy (aI (Br (a:=((q:Int)+(b:Int))) (r:=(((q+b):Nat):Int))) (aI (ix (i:Int) (n:Int) 0 1 i) (aI hx (aI (dT (p:=(a:Int)<(((q+b):Nat):Int))) (aI (ix (i:Int) (n:Int) 0 1 i) (aI hx (aI (Br (a:=((a:Int)+(1000000000:Int))) (r:=(((a+1000000000):Nat):Int))) (aI (ix (i:Int) (n:Int) 0 1 i) (aI (show i+1≤(ns .u32 xs).length∧Bq (ns .u32 xs) i [(nW (a+1000000000))]=(ns .u32 (xs.set i (a+1000000000))) from (Dw)) (aI (ix (i:Int) (n:Int) 0 1 i) (aI (show ((ns .u32 (xs.set i (a+1000000000))):List Value)[i]? =some (nW (a+1000000000)) from (Tq om)) (aI (Br (a:=((((a+1000000000):Nat):Int)-(((q+b):Nat):Int))) (r:=(v:Int))) (aI (ix (i:Int) (n:Int) 0 1 i) (aI (show i+1≤(ns .u32 (xs.set i (a+1000000000))).length∧Bq (ns .u32 (xs.set i (a+1000000000))) i [(nW v)]=(ns .u32 (xs.set i v)) from (ns_set2 om)) (aI (Am (a:=((i:Int)+(1:Int))) (r:=(((i+1):Nat):Int))) tt)))))))))))))))))))
theorem lose_f1(xs ys:List Nat)(n c k e q i a b v:Nat)(j:List Value)(hi:i<k)(hn:i<n)(hc:n≤xs.length)(hm:n<9223372036854775807)(hkm:k<9223372036854775807)(hb:b<1000000000)(ha:a<1000000000)(hq:q≤1)(hx:(ns .u32 xs)[i]? =some (nW a))(hy:(ns .u32 ys)[i]? =some (nW b))(hlt:q+b≤a)(hv:v+(q+b)=a):GT (Mr xs ys n c k e q i j) (Mr (xs.set i v) ys n c k e 0 (i+1) ([(nW (q+b)),(nI i),(sl 6 k e),(nI k),bT,bT,undef,undef,bT,(nI i),(nI (i+1)),(nW q),(nI i),(sl 6 k e),(nI k),bT,(nW q),(sl 6 k e),(nI i),(pp 6 i),(nW b),(nW (q+b)),(sl 5 n c),(nI i),(Gh i),(nW a),(nW (q+b)),bF]++(jj j 28 6 [(sl 5 n c),(nI i),(Gh i),(nW a),(nW (q+b)),(nW v),(Gh i)]))):=
 sR (sc:=[(6,.op (.rwB true)),(20,.op (.rwB true)),(6,.op (.idx i)),(0,.op (.ld (nW b))),(0,.op (.rwI (((q+b):Nat):Int))),(11,.op (.idx i)),(0,.op (.ld (nW a))),(1,.op (.rwB false)),(6,.op (.idx i)),(0,.op (.ld (nW a))),(1,.op (.rwI (v:Int))),(0,.op (.idx i)),(0,.op (.st (ns .u32 (xs.set i v)))),(4,.op (.rwI (((i+1):Nat):Int))),(3,.stay)]) kr (aI (dT (p:=(i:Int)<(k:Int))) (aI (dT (p:=(i:Int)<(k:Int))) (aI (ix (i:Int) (k:Int) 0 1 i) (aI hy (aI (Br (a:=((q:Int)+(b:Int))) (r:=(((q+b):Nat):Int))) (aI (ix (i:Int) (n:Int) 0 1 i) (aI hx (aI (dF (p:=(a:Int)<(((q+b):Nat):Int))) (aI (ix (i:Int) (n:Int) 0 1 i) (aI hx (aI (Br (a:=((a:Int)-(((q+b):Nat):Int))) (r:=(v:Int))) (aI (ix (i:Int) (n:Int) 0 1 i) (aI (show i+1≤(ns .u32 xs).length∧Bq (ns .u32 xs) i [(nW v)]=(ns .u32 (xs.set i v)) from (Dw)) (aI (Am (a:=((i:Int)+(1:Int))) (r:=(((i+1):Nat):Int))) tt))))))))))))))
theorem lose_t2(xs ys:List Nat)(n c k e q i a v:Nat)(j:List Value)(hi:k≤i)(hn:i<n)(hc:n≤xs.length)(hm:n<9223372036854775807)(hq:q=1)(ha:a<1000000000)(hx:(ns .u32 xs)[i]? =some (nW a))(hlt:a<q)(hv:v+q=a+1000000000):GT (Mr xs ys n c k e q i j) (Mr (xs.set i v) ys n c k e 1 (i+1) ([(nW q),(nI i),(sl 6 k e),(nI k),bF,bF,(nW q),bT,bT,(nI i),(nI (i+1)),(nW q),(nI i),(sl 6 k e),(nI k),bF]++(jj j 16 6 [(sl 5 n c),(nI i),(Gh i),(nW a),(nW q),bT,(sl 5 n c),(nI i),(Gh i),(nW a),(nW (a+1000000000)),(Gh i),(sl 5 n c),(nI i),(Gh i),(nW (a+1000000000)),(nW q),(nW v),(Gh i)]))):=
 sR (sc:=[(6,.op (.rwB false)),(2,.op (.rwB true)),(17,.op (.rwB false)),(12,.op (.idx i)),(0,.op (.ld (nW a))),(1,.op (.rwB true)),(9,.op (.idx i)),(0,.op (.ld (nW a))),(0,.op (.rwI (((a+1000000000):Nat):Int))),(0,.op (.idx i)),(0,.op (.st (ns .u32 (xs.set i (a+1000000000))))),(4,.op (.idx i)),(0,.op (.ld (nW (a+1000000000)))),(1,.op (.rwI (v:Int))),(0,.op (.idx i)),(0,.op (.st (ns .u32 (xs.set i v)))),(4,.op (.rwI (((i+1):Nat):Int))),(3,.stay)]) kr (aI (dF (p:=(i:Int)<(k:Int))) (aI (dT (p:=(q:Int)>(0:Int))) (aI (dF (p:=(i:Int)<(k:Int))) (aI (ix (i:Int) (n:Int) 0 1 i) (aI hx (aI (dT (p:=(a:Int)<(q:Int))) (aI (ix (i:Int) (n:Int) 0 1 i) (aI hx (aI (Br (a:=((a:Int)+(1000000000:Int))) (r:=(((a+1000000000):Nat):Int))) (aI (ix (i:Int) (n:Int) 0 1 i) (aI (show i+1≤(ns .u32 xs).length∧Bq (ns .u32 xs) i [(nW (a+1000000000))]=(ns .u32 (xs.set i (a+1000000000))) from (Dw)) (aI (ix (i:Int) (n:Int) 0 1 i) (aI (show ((ns .u32 (xs.set i (a+1000000000))):List Value)[i]? =some (nW (a+1000000000)) from (Tq om)) (aI (Br (a:=((((a+1000000000):Nat):Int)-(q:Int))) (r:=(v:Int))) (aI (ix (i:Int) (n:Int) 0 1 i) (aI (show i+1≤(ns .u32 (xs.set i (a+1000000000))).length∧Bq (ns .u32 (xs.set i (a+1000000000))) i [(nW v)]=(ns .u32 (xs.set i v)) from (ns_set2 om)) (aI (Am (a:=((i:Int)+(1:Int))) (r:=(((i+1):Nat):Int))) tt)))))))))))))))))
theorem lose_f2(xs ys:List Nat)(n c k e q i a v:Nat)(j:List Value)(hi:k≤i)(hn:i<n)(hc:n≤xs.length)(hm:n<9223372036854775807)(hq:q=1)(ha:a<1000000000)(hx:(ns .u32 xs)[i]? =some (nW a))(hlt:q≤a)(hv:v+q=a):GT (Mr xs ys n c k e q i j) (Mr (xs.set i v) ys n c k e 0 (i+1) ([(nW q),(nI i),(sl 6 k e),(nI k),bF,bF,(nW q),bT,bT,(nI i),(nI (i+1)),(nW q),(nI i),(sl 6 k e),(nI k),bF]++(jj j 16 6 ([(sl 5 n c),(nI i),(Gh i),(nW a),(nW q),bF]++(jj j 28 6 [(sl 5 n c),(nI i),(Gh i),(nW a),(nW q),(nW v),(Gh i)]))))):=
 sR (sc:=[(6,.op (.rwB false)),(2,.op (.rwB true)),(17,.op (.rwB false)),(12,.op (.idx i)),(0,.op (.ld (nW a))),(1,.op (.rwB false)),(6,.op (.idx i)),(0,.op (.ld (nW a))),(1,.op (.rwI (v:Int))),(0,.op (.idx i)),(0,.op (.st (ns .u32 (xs.set i v)))),(4,.op (.rwI (((i+1):Nat):Int))),(3,.stay)]) kr (aI (dF (p:=(i:Int)<(k:Int))) (aI (dT (p:=(q:Int)>(0:Int))) (aI (dF (p:=(i:Int)<(k:Int))) (aI (ix (i:Int) (n:Int) 0 1 i) (aI hx (aI (dF (p:=(a:Int)<(q:Int))) (aI (ix (i:Int) (n:Int) 0 1 i) (aI hx (aI (Br (a:=((a:Int)-(q:Int))) (r:=(v:Int))) (aI (ix (i:Int) (n:Int) 0 1 i) (aI (show i+1≤(ns .u32 xs).length∧Bq (ns .u32 xs) i [(nW v)]=(ns .u32 (xs.set i v)) from (Dw)) (aI (Am (a:=((i:Int)+(1:Int))) (r:=(((i+1):Nat):Int))) tt))))))))))))
theorem lose_out(xs0 xs ys:List Nat)(n c k e q i:Nat)(j:List Value)(hi:k≤i)(hq:q=0)(hr:GT (Ca 192 #[(sl 5 n c),(sl 6 k e)] 7 [(5,(cU xs0)),(6,(cU ys))]) (Mr xs ys n c k e q i j)):CT 192 #[(sl 5 n c),(sl 6 k e)] (Ac 7 [(5,(cU xs0)),(6,(cU ys))]) undef (Ac 7 [(5,(cU xs)),(6,(cU ys))]):=
 sF (sc:=[(6,.op (.rwB false)),(2,.op (.rwB false)),(5,.stay)]) kr (aI (dF (p:=(i:Int)<(k:Int))) (aI (dF (p:=(q:Int)>(0:Int))) tt)) hr
theorem lose_loop{s0:AS}{ys:List Nat}{n k e D:Nat}(hly:Lim ys)(hk:k≤ys.length)(hkn:k≤n)(hn:n<9223372036854775807):
  ∀(m:Nat) (xs:List Nat) (q i:Nat) (j:List Value),m=n-i→xs.length=n→Lim xs→i≤n→q≤1→D+q*1000000000^i+1000000000^i*val ((ys.take k).drop i)=val xs→
   GT s0 (Mr xs ys n n k e q i j)→ ∃zs i' j',k≤i'∧zs.length=n∧Lim zs∧D=val zs∧GT s0 (Mr zs ys n n k e 0 i' j'):=by
 intro m
 induction m with
 |zero=>
  intro xs q i j hm hx hl hi hq hv hr
  have hin:i=n:=by omega
  subst hin
  have hlt:=val_lt hl
  rw[hx]at hlt
  have hq0:q=0:=by
   rcases Nat.eq_zero_or_pos q with h|h
   ·exact h
   ·have h1:q=1:=by omega
    rw[h1,Nat.one_mul]at hv
    omega
  subst hq0
  refine⟨xs,i,j,hkn,hx,hl,?_,hr⟩
  rw[List.drop_eq_nil_of_le (by rw[List.length_take];omega)]at hv
  exact Ze hv
 |succ m ih=>
  intro xs q i j hm hx hl hi hq hv hr
  have hP:1000000000^(i+1)=1000000000^i*1000000000:=Nat.pow_succ ..
  by_cases hik:i<k
  ·have ha:=hl.get i
   have hb:=hly.get i
   have h2:val ((ys.take k).drop i)=ys.getD i 0+1000000000*val ((ys.take k).drop (i+1)):=by
    rw[val_drop (by rw[List.length_take];omega),getD_take hik]
   rw[h2]at hv
   by_cases hlt:xs.getD i 0<q+ys.getD i 0
   ·obtain⟨v,hvv⟩: ∃v,v+(q+ys.getD i 0)=xs.getD i 0+1000000000:=⟨xs.getD i 0+1000000000-(q+ys.getD i 0),by omega⟩
    have r:=lose_t1 xs ys n n k e q i (xs.getD i 0) (ys.getD i 0) v j hik om om hn om hb ha hq (Aq) (Aq) hlt hvv
    refine ih _ _ _ _ om (by simpa using hx) (hl.set om) om om ?_ (hr.trans r)
    have h1:=val_set xs i v om
    rw[hP]
    exact borrow_step hvv h1 hv
   ·obtain⟨v,hvv⟩: ∃v,v+(q+ys.getD i 0)=xs.getD i 0:=⟨xs.getD i 0-(q+ys.getD i 0),by omega⟩
    have r:=lose_f1 xs ys n n k e q i (xs.getD i 0) (ys.getD i 0) v j hik om om hn om hb ha hq (Aq) (Aq) om hvv
    refine ih _ _ _ _ om (by simpa using hx) (hl.set om) om om ?_ (hr.trans r)
    have h1:=val_set xs i v om
    rw[hP]
    exact borrow_not hvv h1 hv
  ·by_cases hq1:q=1
   ·subst hq1
    rw[List.drop_eq_nil_of_le (by rw[List.length_take];omega)]at hv
    have hlt0:=val_lt hl
    rw[hx]at hlt0
    have hv':=nil_one hv
    have hin:i<n:=by
     rcases Nat.lt_or_ge i n with h|h
     ·exact h
     ·have:=Tu h
      omega
    have ha:=hl.get i
    by_cases hlt:xs.getD i 0<1
    ·obtain⟨v,hvv⟩: ∃v,v+1=xs.getD i 0+1000000000:=⟨xs.getD i 0+999999999,by omega⟩
     have r:=lose_t2 xs ys n n k e 1 i (xs.getD i 0) v j om hin om hn rfl ha (Aq) hlt hvv
     refine ih _ _ _ _ om (by simpa using hx) (hl.set om) om om ?_ (hr.trans r)
     have h1:=val_set xs i v om
     rw[List.drop_eq_nil_of_le (by rw[List.length_take];omega),hP]
     exact nil_add (borrow_step0 hvv h1 hv')
    ·obtain⟨v,hvv⟩: ∃v,v+1=xs.getD i 0:=⟨xs.getD i 0-1,by omega⟩
     have r:=lose_f2 xs ys n n k e 1 i (xs.getD i 0) v j om hin om hn rfl ha (Aq) om hvv
     refine ih _ _ _ _ om (by simpa using hx) (hl.set om) om om ?_ (hr.trans r)
     have h1:=val_set xs i v om
     rw[List.drop_eq_nil_of_le (by rw[List.length_take];omega),hP]
     exact nil_add (borrow_not0 hvv h1 hv')
   ·have hq0:q=0:=by omega
    subst hq0
    refine⟨xs,i,j,by omega,hx,hl,?_,hr⟩
    rw[List.drop_eq_nil_of_le (by rw[List.length_take];omega)]at hv
    exact Ze hv
theorem lose_c(n0 bx byy:Nat)(xs ys:List Nat)(k e:Nat)(hb:5≤bx∧bx<n0∧5≤byy∧byy<n0∧bx≠byy)(hlx:Lim xs)(hly:Lim ys)(hk:k≤ys.length)(hkn:k≤xs.length)(hn:xs.length<9223372036854775807)
  (hT:val (ys.take k)≤val xs):
  ∃zs,zs.length=xs.length∧Lim zs∧val zs=val xs-val (ys.take k)∧
   FT 192 #[sl bx xs.length xs.length,sl byy k e] n0 [(bx,cU xs),(byy,cU ys)] undef
    [(bx,some (cU zs)),(byy,some (cU ys))] []:=by
 have r:=lose_in xs ys xs.length xs.length k e
 obtain⟨zs,i',j',h1,h2,h3,h4,h5⟩:=lose_loop (D:=val xs-val (ys.take k)) hly hk hkn hn _ xs 0 0 _ rfl rfl hlx om om (by simp;omega) r
 have S:=lose_out xs zs ys xs.length xs.length k e 0 i' j' h1 rfl h5
 refine⟨zs,h2,h3,h4.symm,ff [bx,byy] [cU xs,cU ys] [cU zs,cU ys] [] [] n0 S (hnd:= ?_) (hb:= ?_) (fo:= ?_) (fp:= ?_)⟩
 ·simp[hb.2.2.2.2]
 ·simp;omega
 ·simp[Bj,Af]
 ·simp[Bj,Af]
theorem minus_o(xs ys:List Nat)(n c k e:Nat)(hc:n≤xs.length)(hk:k≤ys.length)(hn:n<1099511627776)(hkm:k<1099511627776)(zs0:List Nat)(hz:zs0.length=n)(hc1:FT 192 #[(sl 7 n n),(sl 6 k e)] 8 [(7,(cU (xs.take n++List.replicate (n-n) 0))),(6,(cU ys))] undef [(7,some (cU zs0)),(6,some (cU ys))] []):CT 153 #[(sl 5 n c),(sl 6 k e)] (Ac 7 [(5,(cU xs)),(6,(cU ys))]) (sl 7 (top zs0 n) (top zs0 n)) (Ac 8 [(5,(cU xs)),(6,(cU ys)),(7,(cU zs0))]):=
 sF (sc:=[(9,.call [5] (sl 7 n n) [(5,some (cU xs))] [(cU (xs.take n++List.replicate (n-n) 0))]),(6,.call [7,6] uu [(7,some (cU zs0)),(6,some (cU ys))] []),(4,.call [7] (sl 7 (top zs0 n) (top zs0 n)) [(7,some (cU zs0))] []),(3,.stay)]) kr (aI (Sp 7 5 xs n c n om om om om) (aI hc1 (aI (Uq 8 7 zs0 n n om (by rw[hz];exact Nat.le_refl _) om om) tt))) (Gets.refl _)
theorem minus_c(n0 bx byy:Nat)(xs ys:List Nat)(n c k e:Nat)(hb:5≤bx∧bx<n0∧5≤byy∧byy<n0∧bx≠byy)(hlx:Lim xs)(hly:Lim ys)(hc:n≤xs.length)(hk:k≤ys.length)(hn:n<1099511627776)(hkm:k≤n)(hle:val (ys.take k)≤val (xs.take n)):
  ∃zs t,Lim zs∧t≤zs.length∧t≤n∧(0<t→zs.getD (t-1) 0≠0)∧val (zs.take t)=val (xs.take n)-val (ys.take k)∧
   FT 153 #[sl bx n c,sl byy k e] n0 [(bx,cU xs),(byy,cU ys)] (sl n0 t t)
    [(bx,some (cU xs)),(byy,some (cU ys))] [cU zs]:=by
 have hl1:(xs.take n++List.replicate (n-n) 0).length=n:=by rw[List.length_append,List.length_take,List.length_replicate];omega
 have hv1:val (xs.take n++List.replicate (n-n) 0)=val (xs.take n):=by rw[val_append,val_replicate,Nat.mul_zero,Nat.add_zero]
 obtain⟨zs,h1,h2,h3,h4⟩:=lose_c 8 7 6 (xs.take n++List.replicate (n-n) 0) ys k e om ((hlx.take n).append (Lim.replicate _)) hly hk (by rw[hl1];omega) (by rw[hl1];omega) (by rw[hv1];exact hle)
 rw[hl1]at h1 h4
 have S:=minus_o xs ys n c k e hc hk hn om zs h1 h4
 have htl:=top_le zs n
 refine⟨zs,top zs n,h2,by rw[h1];exact htl,htl,top_pos zs _,?_,ff [bx,byy] [cU xs,cU ys] [cU xs,cU ys] [7] [cU zs] n0 S (hnd:= ?_) (hb:= ?_) (fo:= ?_) (fp:= ?_) (fq:= ?_)⟩
 ·rw[top_val,List.take_of_length_le (by rw[h1];exact Nat.le_refl _),h3,hv1]
 ·simp[hb.2.2.2.2]
 ·simp;omega
 ·simp[Bj,Af]
 ·simp[Bj,Af]
 ·simp[Bj,Af,AObj.ro]
end Go.Proofs.YtjbflfbhfnkmlaaGreatDoor
