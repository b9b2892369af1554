import Derived.Test.YtldoiilgfcpipaaGreatDoorPOver
import Derived.Test.YtldoiilgfcpipaaGreatDoorPCnt
import Derived.Test.YtldoiilgfcpipaaGreatDoorLF
import Derived.Test.YtldoiilgfcpipaaGreatDoorLE
import Derived.Test.YtldoiilgfcpipaaGreatDoorPCmp
import Derived.Test.YtldoiilgfcpipaaGreatDoorPWf
set_option linter.unusedVariables false
set_option linter.unusedSimpArgs false
set_option maxRecDepth 100000
namespace Go.Proofs.YtldoiilgfcpipaaGreatDoor
open Go Go.AE Seg
noncomputable section
abbrev We(n c k e t u:Nat)(xs ys zs rs:List Nat):Prop:=FT 116 #[sl 5 n c,sl 6 k e] 11 [(5,cU xs),(6,cU ys)] (.tuple #[sl 11 t t,sl 12 u u]) [(5,some (cU xs)),(6,some (cU ys))] [cU zs,cU rs]
abbrev Wh(xs ys zs rs:List Nat):List (Nat×AObj):=[(5,(cU xs)),(6,(cU ys)),(11,(cU zs)),(12,(cU rs))]
abbrev z_e07_2(n c k e:Nat)(xs ys:List Nat):Prop:=FT 116 #[sl 5 n c,sl 6 k e] 11 [(5,cU xs),(6,cU ys)] (.tuple #[.slice none 0 0,sl 5 n c]) [(5,some (cU xs)),(6,some (cU ys))] []
abbrev My:Value:=.agg #[bF,nS]
abbrev Hy(xs ys:List Nat):List (Nat×AObj):=[(5,(cU xs)),(6,(cU ys))]
abbrev Ms(xs ys:List Nat):List (Nat×Option AObj):=[(5,some (cU xs)),(6,some (cU ys))]
end
theorem sgn_f:CT 117 #[bF,nS] (Ag 5 []) My (Ag 6 []):=
 sF (sc:=[(17,.stay)]) kr tt (Gets.refl _)
theorem sgn_fc(n0:Nat)(hG:5≤n0):FT 117 #[bF,nS] n0 [] (.agg #[bF,nS]) [] []:=
 Lv n0 (sgn_f) hG
theorem sgn_t:CT 117 #[bT,nS] (Ag 5 []) My (Ag 6 []):=
 sF (sc:=[(17,.stay)]) kr tt (Gets.refl _)
theorem sgn_tc(n0:Nat)(hG:5≤n0):FT 117 #[bT,nS] n0 [] (.agg #[bF,nS]) [] []:=
 Lv n0 (sgn_t) hG
theorem ct_0ff(xs ys:List Nat)(n c k e:Nat)(hov:(z_e07_2 n c k e xs ys)):CT 63 #[(.agg #[bF,(sl 5 n c)]),(.agg #[bF,(sl 6 k e)])] (Ag 7 (Hy xs ys)) (.tuple #[My,(.agg #[bF,(sl 5 n c)])]) (Ag 11 (Hy xs ys)):=
 sF (sc:=[(13,.call [5,6] (.tuple #[nS,(sl 5 n c)]) (Ms xs ys) []),(7,.drwM [] [⟨4,[],bF,[],[]⟩,⟨6,[],My,[],[]⟩,⟨10,[5],(.agg #[bF,(sl 5 n c)]),[(5,some (cU xs))],[]⟩]),(1,.stay)]) kr (aI hov (aI (aI tt (aI tt (aI tt (aI tt (aI tt (aI tt (aI tt (aI tt (aI (wi_ffc 11 om) (aI (sgn_fc 11 om) (aI (Ta 11 5 xs n c om) (aI tt (aI tt tt))))))))))))) tt)) (Gets.refl _)
theorem ct_0ft(xs ys:List Nat)(n c k e:Nat)(hov:(z_e07_2 n c k e xs ys)):CT 63 #[(.agg #[bF,(sl 5 n c)]),(.agg #[bT,(sl 6 k e)])] (Ag 7 (Hy xs ys)) (.tuple #[My,(.agg #[bF,(sl 5 n c)])]) (Ag 11 (Hy xs ys)):=
 sF (sc:=[(13,.call [5,6] (.tuple #[nS,(sl 5 n c)]) (Ms xs ys) []),(7,.drwM [] [⟨4,[],bT,[],[]⟩,⟨6,[],My,[],[]⟩,⟨10,[5],(.agg #[bF,(sl 5 n c)]),[(5,some (cU xs))],[]⟩]),(1,.stay)]) kr (aI hov (aI (aI tt (aI tt (aI tt (aI tt (aI tt (aI tt (aI tt (aI tt (aI (wi_ftc 11 om) (aI (sgn_tc 11 om) (aI (Ta 11 5 xs n c om) (aI tt (aI tt tt))))))))))))) tt)) (Gets.refl _)
theorem ct_0tf(xs ys:List Nat)(n c k e:Nat)(hxn:0<n)(hov:(z_e07_2 n c k e xs ys)):CT 63 #[(.agg #[bT,(sl 5 n c)]),(.agg #[bF,(sl 6 k e)])] (Ag 7 (Hy xs ys)) (.tuple #[My,(.agg #[bT,(sl 5 n c)])]) (Ag 11 (Hy xs ys)):=
 sF (sc:=[(13,.call [5,6] (.tuple #[nS,(sl 5 n c)]) (Ms xs ys) []),(7,.drwM [] [⟨4,[],bT,[],[]⟩,⟨6,[],My,[],[]⟩,⟨10,[5],(.agg #[bT,(sl 5 n c)]),[(5,some (cU xs))],[]⟩]),(1,.stay)]) kr (aI hov (aI (aI tt (aI tt (aI tt (aI tt (aI tt (aI tt (aI tt (aI tt (aI (wi_tfc 11 om) (aI (sgn_tc 11 om) (aI (Td 11 5 xs n c om hxn) (aI tt (aI tt tt))))))))))))) tt)) (Gets.refl _)
theorem ct_0tt(xs ys:List Nat)(n c k e:Nat)(hxn:0<n)(hov:(z_e07_2 n c k e xs ys)):CT 63 #[(.agg #[bT,(sl 5 n c)]),(.agg #[bT,(sl 6 k e)])] (Ag 7 (Hy xs ys)) (.tuple #[My,(.agg #[bT,(sl 5 n c)])]) (Ag 11 (Hy xs ys)):=
 sF (sc:=[(13,.call [5,6] (.tuple #[nS,(sl 5 n c)]) (Ms xs ys) []),(7,.drwM [] [⟨4,[],bF,[],[]⟩,⟨6,[],My,[],[]⟩,⟨10,[5],(.agg #[bT,(sl 5 n c)]),[(5,some (cU xs))],[]⟩]),(1,.stay)]) kr (aI hov (aI (aI tt (aI tt (aI tt (aI tt (aI tt (aI tt (aI tt (aI tt (aI (wi_ttc 11 om) (aI (sgn_fc 11 om) (aI (Td 11 5 xs n c om hxn) (aI tt (aI tt tt))))))))))))) tt)) (Gets.refl _)
theorem ct_1ff(xs ys:List Nat)(n c k e:Nat)(zs rs:List Nat)(t u:Nat)(ht:0<t)(hov:(We n c k e t u xs ys zs rs)):CT 63 #[(.agg #[bF,(sl 5 n c)]),(.agg #[bF,(sl 6 k e)])] (Ag 7 (Hy xs ys)) (.tuple #[(.agg #[bF,(sl 11 t t)]),(.agg #[bF,(sl 12 u u)])]) (Ag 13 (Wh xs ys zs rs)):=
 sF (sc:=[(13,.call [5,6] (.tuple #[(sl 11 t t),(sl 12 u u)]) (Ms xs ys) [(cU zs),(cU rs)]),(7,.drwM [] [⟨4,[],bF,[],[]⟩,⟨6,[11],(.agg #[bF,(sl 11 t t)]),[(11,some (cU zs))],[]⟩,⟨10,[12],(.agg #[bF,(sl 12 u u)]),[(12,some (cU rs))],[]⟩]),(1,.stay)]) kr (aI hov (aI (aI tt (aI tt (aI tt (aI tt (aI tt (aI tt (aI tt (aI tt (aI (wi_ffc 13 om) (aI (Ta 13 11 zs t t om) (aI (Ta 13 12 rs u u om) (aI tt (aI tt tt))))))))))))) tt)) (Gets.refl _)
theorem ct_1ft(xs ys:List Nat)(n c k e:Nat)(zs rs:List Nat)(t u:Nat)(ht:0<t)(hov:(We n c k e t u xs ys zs rs)):CT 63 #[(.agg #[bF,(sl 5 n c)]),(.agg #[bT,(sl 6 k e)])] (Ag 7 (Hy xs ys)) (.tuple #[(.agg #[bT,(sl 11 t t)]),(.agg #[bF,(sl 12 u u)])]) (Ag 13 (Wh xs ys zs rs)):=
 sF (sc:=[(13,.call [5,6] (.tuple #[(sl 11 t t),(sl 12 u u)]) (Ms xs ys) [(cU zs),(cU rs)]),(7,.drwM [] [⟨4,[],bT,[],[]⟩,⟨6,[11],(.agg #[bT,(sl 11 t t)]),[(11,some (cU zs))],[]⟩,⟨10,[12],(.agg #[bF,(sl 12 u u)]),[(12,some (cU rs))],[]⟩]),(1,.stay)]) kr (aI hov (aI (aI tt (aI tt (aI tt (aI tt (aI tt (aI tt (aI tt (aI tt (aI (wi_ftc 13 om) (aI (Td 13 11 zs t t om ht) (aI (Ta 13 12 rs u u om) (aI tt (aI tt tt))))))))))))) tt)) (Gets.refl _)
theorem ct_1tf(xs ys:List Nat)(n c k e:Nat)(zs rs:List Nat)(t u:Nat)(ht:0<t)(hu:0<u)(hov:(We n c k e t u xs ys zs rs)):CT 63 #[(.agg #[bT,(sl 5 n c)]),(.agg #[bF,(sl 6 k e)])] (Ag 7 (Hy xs ys)) (.tuple #[(.agg #[bT,(sl 11 t t)]),(.agg #[bT,(sl 12 u u)])]) (Ag 13 (Wh xs ys zs rs)):=
 sF (sc:=[(13,.call [5,6] (.tuple #[(sl 11 t t),(sl 12 u u)]) (Ms xs ys) [(cU zs),(cU rs)]),(7,.drwM [] [⟨4,[],bT,[],[]⟩,⟨6,[11],(.agg #[bT,(sl 11 t t)]),[(11,some (cU zs))],[]⟩,⟨10,[12],(.agg #[bT,(sl 12 u u)]),[(12,some (cU rs))],[]⟩]),(1,.stay)]) kr (aI hov (aI (aI tt (aI tt (aI tt (aI tt (aI tt (aI tt (aI tt (aI tt (aI (wi_tfc 13 om) (aI (Td 13 11 zs t t om ht) (aI (Td 13 12 rs u u om hu) (aI tt (aI tt tt))))))))))))) tt)) (Gets.refl _)
theorem ct_1tfz(xs ys:List Nat)(n c k e:Nat)(zs rs:List Nat)(t u:Nat)(ht:0<t)(hu:u=0)(hov:(We n c k e t u xs ys zs rs)):CT 63 #[(.agg #[bT,(sl 5 n c)]),(.agg #[bF,(sl 6 k e)])] (Ag 7 (Hy xs ys)) (.tuple #[(.agg #[bT,(sl 11 t t)]),(.agg #[bF,(sl 12 u u)])]) (Ag 13 (Wh xs ys zs rs)):=
 sF (sc:=[(13,.call [5,6] (.tuple #[(sl 11 t t),(sl 12 u u)]) (Ms xs ys) [(cU zs),(cU rs)]),(7,.drwM [] [⟨4,[],bT,[],[]⟩,⟨6,[11],(.agg #[bT,(sl 11 t t)]),[(11,some (cU zs))],[]⟩,⟨10,[12],(.agg #[bF,(sl 12 u u)]),[(12,some (cU rs))],[]⟩]),(1,.stay)]) kr (aI hov (aI (aI tt (aI tt (aI tt (aI tt (aI tt (aI tt (aI tt (aI tt (aI (wi_tfc 13 om) (aI (Td 13 11 zs t t om ht) (aI (sg_zc 13 12 rs u u om hu) (aI tt (aI tt tt))))))))))))) tt)) (Gets.refl _)
theorem ct_1tt(xs ys:List Nat)(n c k e:Nat)(zs rs:List Nat)(t u:Nat)(ht:0<t)(hu:0<u)(hov:(We n c k e t u xs ys zs rs)):CT 63 #[(.agg #[bT,(sl 5 n c)]),(.agg #[bT,(sl 6 k e)])] (Ag 7 (Hy xs ys)) (.tuple #[(.agg #[bF,(sl 11 t t)]),(.agg #[bT,(sl 12 u u)])]) (Ag 13 (Wh xs ys zs rs)):=
 sF (sc:=[(13,.call [5,6] (.tuple #[(sl 11 t t),(sl 12 u u)]) (Ms xs ys) [(cU zs),(cU rs)]),(7,.drwM [] [⟨4,[],bF,[],[]⟩,⟨6,[11],(.agg #[bF,(sl 11 t t)]),[(11,some (cU zs))],[]⟩,⟨10,[12],(.agg #[bT,(sl 12 u u)]),[(12,some (cU rs))],[]⟩]),(1,.stay)]) kr (aI hov (aI (aI tt (aI tt (aI tt (aI tt (aI tt (aI tt (aI tt (aI tt (aI (wi_ttc 13 om) (aI (Ta 13 11 zs t t om) (aI (Td 13 12 rs u u om hu) (aI tt (aI tt tt))))))))))))) tt)) (Gets.refl _)
theorem ct_1ttz(xs ys:List Nat)(n c k e:Nat)(zs rs:List Nat)(t u:Nat)(ht:0<t)(hu:u=0)(hov:(We n c k e t u xs ys zs rs)):CT 63 #[(.agg #[bT,(sl 5 n c)]),(.agg #[bT,(sl 6 k e)])] (Ag 7 (Hy xs ys)) (.tuple #[(.agg #[bF,(sl 11 t t)]),(.agg #[bF,(sl 12 u u)])]) (Ag 13 (Wh xs ys zs rs)):=
 sF (sc:=[(13,.call [5,6] (.tuple #[(sl 11 t t),(sl 12 u u)]) (Ms xs ys) [(cU zs),(cU rs)]),(7,.drwM [] [⟨4,[],bF,[],[]⟩,⟨6,[11],(.agg #[bF,(sl 11 t t)]),[(11,some (cU zs))],[]⟩,⟨10,[12],(.agg #[bF,(sl 12 u u)]),[(12,some (cU rs))],[]⟩]),(1,.stay)]) kr (aI hov (aI (aI tt (aI tt (aI tt (aI tt (aI tt (aI tt (aI tt (aI tt (aI (wi_ttc 13 om) (aI (Ta 13 11 zs t t om) (aI (sg_zc 13 12 rs u u om hu) (aI tt (aI tt tt))))))))))))) tt)) (Gets.refl _)
theorem ct_c(n0 bx byy:Nat)(xs ys:List Nat)(n c k e:Nat)(sx sy:Bool)(hb:5≤bx∧bx<n0∧5≤byy∧byy<n0∧bx≠byy)(hlx:Lim xs)(hly:Lim ys)(hc:n≤xs.length)(hk:k≤ys.length)(hn:n<1000000)(hkm:k<1000000)(hx:0<n→xs.getD (n-1) 0≠0)(hy:0<k→ys.getD (k-1) 0≠0)(hsx:sx=true→0<n)(hsy:sy=true→0<k)(h0:0<k):
  ((val (xs.take n)<val (ys.take k))∧FT 63 #[.agg #[.bool sx,sl bx n c],.agg #[.bool sy,sl byy k e]] n0 [(bx,cU xs),(byy,cU ys)] (.tuple #[.agg #[.bool false,.slice none 0 0],.agg #[.bool sx,sl bx n c]]) [(bx,some (cU xs)),(byy,some (cU ys))] [])∨
  (∃sq zs t sr rs u,Lim zs∧t≤zs.length∧t≤n+5∧(0<t→zs.getD (t-1) 0≠0)∧(sq=true→0<t)∧iv sq (val (zs.take t))=Int.tdiv (iv sx (val (xs.take n))) (iv sy (val (ys.take k)))∧
   Lim rs∧u≤rs.length∧u≤n+k+5∧(0<u→rs.getD (u-1) 0≠0)∧(sr=true→0<u)∧iv sr (val (rs.take u))=Int.tmod (iv sx (val (xs.take n))) (iv sy (val (ys.take k)))∧
   FT 63 #[.agg #[.bool sx,sl bx n c],.agg #[.bool sy,sl byy k e]] n0 [(bx,cU xs),(byy,cU ys)] (.tuple #[.agg #[.bool sq,sl n0 t t],.agg #[.bool sr,sl (n0+1) u u]]) [(bx,some (cU xs)),(byy,some (cU ys))] [cU zs,cU rs]):=by
 rcases ov_c 11 5 6 xs ys n c k e om hlx hly hc hk om om hx hy h0 with⟨hlt,T⟩|⟨hge,zs,t,rs,u,a1,a2,a3,a4,a5,b1,b2,b3,b4,b5,T⟩
 ·cases sx<;>cases sy
  ·exact .inl ⟨hlt,ff [bx,byy] [cU xs,cU ys] [cU xs,cU ys] [] [] n0 (ct_0ff xs ys n c k e T) (hnd:=by simp[hb.2.2.2.2])⟩
  ·exact .inl ⟨hlt,ff [bx,byy] [cU xs,cU ys] [cU xs,cU ys] [] [] n0 (ct_0ft xs ys n c k e T) (hnd:=by simp[hb.2.2.2.2])⟩
  ·exact .inl ⟨hlt,ff [bx,byy] [cU xs,cU ys] [cU xs,cU ys] [] [] n0 (ct_0tf xs ys n c k e (hsx rfl) T) (hnd:=by simp[hb.2.2.2.2])⟩
  ·exact .inl ⟨hlt,ff [bx,byy] [cU xs,cU ys] [cU xs,cU ys] [] [] n0 (ct_0tt xs ys n c k e (hsx rfl) T) (hnd:=by simp[hb.2.2.2.2])⟩
 ·have hyp:0<val (ys.take k):=Lx h0 hy
  have hq:0<val (zs.take t):=by
   rw[a5]
   exact Nat.div_pos hge hyp
  have ht:0<t:=by
   rcases Nat.eq_zero_or_pos t with q|q
   ·rw[q,List.take_zero]at hq
    exact absurd hq de
   ·exact q
  cases sx<;>cases sy
  · · exact .inr ⟨false,zs,t,false,rs,u,a1,a2,by omega,a4,(by intro q;cases q),by simp only[Eu,Ef];rw[tdiv_pp,a5],b1,b2,by omega,b4,(by intro q;cases q),by simp only[Eu,Ef];rw[tmod_pp,b5],ff [bx,byy] [cU xs,cU ys] [cU xs,cU ys] [11,12] [cU zs,cU rs] n0 (ct_1ff xs ys n c k e zs rs t u ht T) (hnd:=by simp[hb.2.2.2.2])⟩
  · · exact .inr ⟨true,zs,t,false,rs,u,a1,a2,by omega,a4,(fun _=>ht),by simp only[Eu,Ef];rw[tdiv_pm,a5],b1,b2,by omega,b4,(by intro q;cases q),by simp only[Eu,Ef];rw[tmod_pm,b5],ff [bx,byy] [cU xs,cU ys] [cU xs,cU ys] [11,12] [cU zs,cU rs] n0 (ct_1ft xs ys n c k e zs rs t u ht T) (hnd:=by simp[hb.2.2.2.2])⟩
  · · rcases Nat.eq_zero_or_pos u with hu|hu
      ·exact .inr ⟨true,zs,t,false,rs,u,a1,a2,by omega,a4,(fun _=>ht),by simp only[Eu,Ef];rw[tdiv_mp,a5],b1,b2,by omega,b4,(by intro q;cases q),by simp only[Eu,Ef];rw[tmod_mp,←b5,hu,List.take_zero];rfl,ff [bx,byy] [cU xs,cU ys] [cU xs,cU ys] [11,12] [cU zs,cU rs] n0 (ct_1tfz xs ys n c k e zs rs t u ht hu T) (hnd:=by simp[hb.2.2.2.2])⟩
      ·exact .inr ⟨true,zs,t,true,rs,u,a1,a2,by omega,a4,(fun _=>ht),by simp only[Eu,Ef];rw[tdiv_mp,a5],b1,b2,by omega,b4,(fun _=>hu),by simp only[Eu,Ef];rw[tmod_mp,b5],ff [bx,byy] [cU xs,cU ys] [cU xs,cU ys] [11,12] [cU zs,cU rs] n0 (ct_1tf xs ys n c k e zs rs t u ht hu T) (hnd:=by simp[hb.2.2.2.2])⟩
  · · rcases Nat.eq_zero_or_pos u with hu|hu
      ·exact .inr ⟨false,zs,t,false,rs,u,a1,a2,by omega,a4,(by intro q;cases q),by simp only[Eu,Ef];rw[tdiv_mm,a5],b1,b2,by omega,b4,(by intro q;cases q),by simp only[Eu,Ef];rw[tmod_mm,←b5,hu,List.take_zero];rfl,ff [bx,byy] [cU xs,cU ys] [cU xs,cU ys] [11,12] [cU zs,cU rs] n0 (ct_1ttz xs ys n c k e zs rs t u ht hu T) (hnd:=by simp[hb.2.2.2.2])⟩
      ·exact .inr ⟨false,zs,t,true,rs,u,a1,a2,by omega,a4,(by intro q;cases q),by simp only[Eu,Ef];rw[tdiv_mm,a5],b1,b2,by omega,b4,(fun _=>hu),by simp only[Eu,Ef];rw[tmod_mm,b5],ff [bx,byy] [cU xs,cU ys] [cU xs,cU ys] [11,12] [cU zs,cU rs] n0 (ct_1tt xs ys n c k e zs rs t u ht hu T) (hnd:=by simp[hb.2.2.2.2])⟩
noncomputable section
abbrev z_52d_0:AObj:=cU (([1]).take 1++List.replicate (1-1) 0)
end
theorem take_one:([1]:List Nat).take 1++List.replicate (1-1) 0=[1]:=by decide
theorem trim_one(n0 b:Nat)(hb:5≤b∧b<n0):FT 156 #[sl b 1 1] n0 [(b,cU (List.take 1 [1]++List.replicate (1-1) 0))] (sl b 1 1) [(b,some (cU (List.take 1 [1]++List.replicate (1-1) 0)))] []:=by
 rw[show (List.take 1 [1]++List.replicate (1-1) 0:List Nat)=[1] from take_one]
 exact So n0 b [1] 1 1 hb de de de
theorem mn_1:CT 153 #[(sl 5 1 1),nS] (Ag 6 [(5,(cU ([1])))]) (sl 6 1 1) (Ag 7 [(5,(cU ([1]))),(6,z_52d_0)]):=
 sF (sc:=[(9,.call [5] (sl 6 1 1) [(5,some (cU ([1])))] [z_52d_0]),(37,.call [6] (sl 6 1 1) [(6,some z_52d_0)] []),(3,.stay)]) kr (aI (Sy 6 5 [1] 1 1 1 om de de de) (aI (trim_one 7 6 om) tt)) (Gets.refl _)
theorem mn_1c(n0 b:Nat)(hb:5≤b∧b<n0):FT 153 #[sl b 1 1,.slice none 0 0] n0 [(b,.cells (ns .u32 [1]) 121 none false)] (sl n0 1 1) [(b,some (.cells (ns .u32 [1]) 121 none false))] [.cells (ns .u32 [1]) 121 none false]:=
 ff [b] [.cells (ns .u32 [1]) 121 none false] [.cells (ns .u32 [1]) 121 none false] [6] [.cells (ns .u32 [1]) 121 none false] n0 (mn_1)
theorem pn_1:CT 114 #[(.agg #[bF,nS]),(.agg #[bT,(sl 5 1 1)])] (Ag 6 [(5,(cU ([1])))]) (.agg #[bT,(sl 9 1 1)]) (Ag 10 [(5,(cU ([1]))),(9,(cU ([1])))]):=
 sF (sc:=[(130,.drwM [] [⟨6,[5],(sl 9 1 1),[(5,some (cU ([1])))],[(cU ([1]))]⟩,⟨7,[9],(.agg #[bT,(sl 9 1 1)]),[(9,some (cU ([1])))],[]⟩]),(1,.stay)]) kr (aI (aI tt (aI tt (aI tt (aI tt (aI tt (aI tt (aI (mn_1c 9 5 om) (aI (Td 10 9 [1] 1 1 om de) (aI tt tt))))))))) tt) (Gets.refl _)
theorem pn_1c(n0 b:Nat)(hb:5≤b∧b<n0):FT 114 #[.agg #[.bool false,.slice none 0 0],.agg #[.bool true,sl b 1 1]] n0 [(b,.cells (ns .u32 [1]) 121 none false)] (.agg #[.bool true,sl n0 1 1]) [(b,some (.cells (ns .u32 [1]) 121 none false))] [.cells (ns .u32 [1]) 121 none false]:=
 ff [b] [.cells (ns .u32 [1]) 121 none false] [.cells (ns .u32 [1]) 121 none false] [9] [.cells (ns .u32 [1]) 121 none false] n0 (pn_1)
theorem mi_1:CT 113 #[(.agg #[bF,nS]),(.agg #[bF,(sl 5 1 1)])] (Ag 6 [(5,(cU ([1])))]) (.agg #[bT,(sl 9 1 1)]) (Ag 10 [(5,(cU ([1]))),(9,(cU ([1])))]):=
 sF (sc:=[(7,.drwM [] [⟨2,[5],(.agg #[bT,(sl 5 1 1)]),[(5,some (cU ([1])))],[]⟩,⟨3,[5],(.agg #[bT,(sl 9 1 1)]),[(5,some (cU ([1])))],[(cU ([1]))]⟩]),(1,.stay)]) kr (aI (aI tt (aI tt (aI (ng_fc 9 5 [1] 1 1 om de) (aI (pn_1c 9 5 om) (aI tt tt))))) tt) (Gets.refl _)
theorem mi_1c(n0 b:Nat)(hb:5≤b∧b<n0):FT 113 #[.agg #[.bool false,.slice none 0 0],.agg #[.bool false,sl b 1 1]] n0 [(b,.cells (ns .u32 [1]) 121 none false)] (.agg #[.bool true,sl n0 1 1]) [(b,some (.cells (ns .u32 [1]) 121 none false))] [.cells (ns .u32 [1]) 121 none false]:=
 ff [b] [.cells (ns .u32 [1]) 121 none false] [.cells (ns .u32 [1]) 121 none false] [9] [.cells (ns .u32 [1]) 121 none false] n0 (mi_1)
theorem mi_x(xs:List Nat)(n c:Nat)(sx:Bool)(sg:Bool)(zs:List Nat)(t:Nat)(hc1:(FT 114 #[(.agg #[(.bool sx),(sl 5 n c)]),(.agg #[bT,(sl 6 1 1)])] 10 [(5,(cU xs)),(6,(cU ([1])))] (.agg #[(.bool sg),(sl 10 t t)]) [(5,some (cU xs)),(6,some (cU ([1])))] [(cU zs)])):CT 113 #[(.agg #[(.bool sx),(sl 5 n c)]),(.agg #[bF,(sl 6 1 1)])] (Ag 7 [(5,(cU xs)),(6,(cU ([1])))]) (.agg #[(.bool sg),(sl 10 t t)]) (Ag 11 [(5,(cU xs)),(6,(cU ([1]))),(10,(cU zs))]):=
 sF (sc:=[(7,.drwM [] [⟨2,[6],(.agg #[bT,(sl 6 1 1)]),[(6,some (cU ([1])))],[]⟩,⟨3,[5,6],(.agg #[(.bool sg),(sl 10 t t)]),[(5,some (cU xs)),(6,some (cU ([1])))],[(cU zs)]⟩]),(1,.stay)]) kr (aI (aI tt (aI tt (aI (ng_fc 10 6 [1] 1 1 om de) (aI hc1 (aI tt tt))))) tt) (Gets.refl _)
theorem one_val:val ([1].take 1)=1:=by decide
theorem mi_c(n0 bx byy:Nat)(xs:List Nat)(n c:Nat)(sx:Bool)(hb:5≤bx∧bx<n0∧5≤byy∧byy<n0∧bx≠byy)(hlx:Lim xs)(hc:n≤xs.length)(hn:n<1099511627776)(hx:0<n→xs.getD (n-1) 0≠0)(hsx:sx=true→0<n):
  ∃sg zs t,Lim zs∧t≤zs.length∧t≤n+2∧(0<t→zs.getD (t-1) 0≠0)∧(sg=true→0<t)∧iv sg (val (zs.take t))=iv sx (val (xs.take n))-1∧
   FT 113 #[.agg #[.bool sx,sl bx n c],.agg #[.bool false,sl byy 1 1]] n0 [(bx,cU xs),(byy,.cells (ns .u32 [1]) 121 none false)] (.agg #[.bool sg,sl n0 t t]) [(bx,some (cU xs)),(byy,some (.cells (ns .u32 [1]) 121 none false))] [cU zs]:=by
 obtain⟨sg,zs,t,h1,h2,h3,h4,h5,h6,h7⟩:=np_c 10 5 6 xs [1] n c 1 1 sx true om hlx (by intro z hz;simp at hz;omega) hc de hn de hx (by intro _;decide) hsx (by intro _;decide)
 refine⟨sg,zs,t,h1,h2,by omega,h4,h5,?_,ff [bx,byy] [cU xs,.cells (ns .u32 [1]) 121 none false] [cU xs,.cells (ns .u32 [1]) 121 none false] [10] [cU zs] n0 (mi_x xs n c sx sg zs t h7) (hnd:=by simp[hb.2.2.2.2])⟩
 rw[h6,one_val,Eu]
 omega
end Go.Proofs.YtldoiilgfcpipaaGreatDoor
