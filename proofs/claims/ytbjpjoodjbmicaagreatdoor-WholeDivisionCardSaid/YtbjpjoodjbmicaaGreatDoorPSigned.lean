import Derived.Test.YtbjpjoodjbmicaaGreatDoorK
import Derived.Test.YtbjpjoodjbmicaaGreatDoorPTrim
import Derived.Test.YtbjpjoodjbmicaaGreatDoorLE
import Derived.Test.YtbjpjoodjbmicaaGreatDoorPScale
set_option linter.unusedVariables false
set_option linter.unusedSimpArgs false
set_option maxRecDepth 100000
namespace Go.Proofs.YtbjpjoodjbmicaaGreatDoor
open Go Go.AE Seg
theorem sg_f(xs:List Nat)(n c:Nat):CT 117 #[bF,(sl 5 n c)] (mkH 6 [(5,(cU xs))]) (.agg #[bF,(sl 5 n c)]) (mkH 7 [(5,(cU xs))]):=
 sF (sc:=[(17,.stay)]) (next:=7) (l:=[(5,(cU xs))]) (by kernel_rfl) tt (Gets.refl _)
theorem sg_fc(n0 b:Nat)(xs:List Nat)(n c:Nat)(hb:5≤b∧b<n0):
  FT 117 #[.bool false,sl b n c] n0 [(b,cU xs)] (.agg #[.bool false,sl b n c]) [(b,some (cU xs))] []:=
 fsp_flat [b] [cU xs] [cU xs] [] [] n0 (sg_f xs n c) rfl rfl rfl (by simp) (by simp;omega) (by omega) (by simp[flat,ns_closed]) (by simp[flat,ns_closed]) rfl (by simp) (by simp) rfl rfl rfl
theorem sg_t(xs:List Nat)(n c:Nat)(ht:0<n):CT 117 #[bT,(sl 5 n c)] (mkH 6 [(5,(cU xs))]) (.agg #[bT,(sl 5 n c)]) (mkH 7 [(5,(cU xs))]):=
 sF (sc:=[(10,.op (.rwB true)),(6,.stay)]) (next:=7) (l:=[(5,(cU xs))]) (by kernel_rfl) (aI (dT (p:=(n:Int)>(0:Int)) (by omega)) tt) (Gets.refl _)
theorem sg_tc(n0 b:Nat)(xs:List Nat)(n c:Nat)(hb:5≤b∧b<n0)(ht:0<n):
  FT 117 #[.bool true,sl b n c] n0 [(b,cU xs)] (.agg #[.bool true,sl b n c]) [(b,some (cU xs))] []:=
 fsp_flat [b] [cU xs] [cU xs] [] [] n0 (sg_t xs n c ht) rfl rfl rfl (by simp) (by simp;omega) (by omega) (by simp[flat,ns_closed]) (by simp[flat,ns_closed]) rfl (by simp) (by simp) rfl rfl rfl
theorem sg_z(xs:List Nat)(n c:Nat)(ht:n=0):CT 117 #[bT,(sl 5 n c)] (mkH 6 [(5,(cU xs))]) (.agg #[bF,(sl 5 n c)]) (mkH 7 [(5,(cU xs))]):=
 sF (sc:=[(10,.op (.rwB false)),(6,.stay)]) (next:=7) (l:=[(5,(cU xs))]) (by kernel_rfl) (aI (dF (p:=(n:Int)>(0:Int)) (by omega)) tt) (Gets.refl _)
theorem sg_zc(n0 b:Nat)(xs:List Nat)(n c:Nat)(hb:5≤b∧b<n0)(ht:n=0):
  FT 117 #[.bool true,sl b n c] n0 [(b,cU xs)] (.agg #[.bool false,sl b n c]) [(b,some (cU xs))] []:=
 fsp_flat [b] [cU xs] [cU xs] [] [] n0 (sg_z xs n c ht) rfl rfl rfl (by simp) (by simp;omega) (by omega) (by simp[flat,ns_closed]) (by simp[flat,ns_closed]) rfl (by simp) (by simp) rfl rfl rfl
theorem op_t:CT 188 #[bF] (mkH 5 []) bT (mkH 5 []):=
 sF (sc:=[(11,.stay)]) (next:=5) (l:=[]) (by kernel_rfl) tt (Gets.refl _)
theorem op_tc(n0:Nat)(hG:5≤n0):FT 188 #[bF] n0 [] bT [] []:=
 fsp_flat [] [] [] [] [] n0 (op_t) rfl rfl rfl (by simp) (by simp) hG rfl rfl rfl (by simp) (by simp) rfl rfl rfl
theorem wi_ff:CT 118 #[bF,bF] (mkH 5 []) bF (mkH 5 []):=
 sF (sc:=[(12,.stay)]) (next:=5) (l:=[]) (by kernel_rfl) tt (Gets.refl _)
theorem wi_ffc(n0:Nat)(hG:5≤n0):FT 118 #[bF,bF] n0 [] bF [] []:=
 fsp_flat [] [] [] [] [] n0 (wi_ff) rfl rfl rfl (by simp) (by simp) hG rfl rfl rfl (by simp) (by simp) rfl rfl rfl
theorem wi_ft:CT 118 #[bF,bT] (mkH 5 []) bT (mkH 5 []):=
 sF (sc:=[(12,.stay)]) (next:=5) (l:=[]) (by kernel_rfl) tt (Gets.refl _)
theorem wi_ftc(n0:Nat)(hG:5≤n0):FT 118 #[bF,bT] n0 [] bT [] []:=
 fsp_flat [] [] [] [] [] n0 (wi_ft) rfl rfl rfl (by simp) (by simp) hG rfl rfl rfl (by simp) (by simp) rfl rfl rfl
theorem wi_tf:CT 118 #[bT,bF] (mkH 5 []) bT (mkH 5 []):=
 sF (sc:=[(12,.stay)]) (next:=5) (l:=[]) (by kernel_rfl) tt (Gets.refl _)
theorem wi_tfc(n0:Nat)(hG:5≤n0):FT 118 #[bT,bF] n0 [] bT [] []:=
 fsp_flat [] [] [] [] [] n0 (wi_tf) rfl rfl rfl (by simp) (by simp) hG rfl rfl rfl (by simp) (by simp) rfl rfl rfl
theorem wi_tt:CT 118 #[bT,bT] (mkH 5 []) bF (mkH 5 []):=
 sF (sc:=[(12,.stay)]) (next:=5) (l:=[]) (by kernel_rfl) tt (Gets.refl _)
theorem wi_ttc(n0:Nat)(hG:5≤n0):FT 118 #[bT,bT] n0 [] bF [] []:=
 fsp_flat [] [] [] [] [] n0 (wi_tt) rfl rfl rfl (by simp) (by simp) hG rfl rfl rfl (by simp) (by simp) rfl rfl rfl
theorem ng_f(xs:List Nat)(n c:Nat)(ht:0<n):CT 150 #[(.agg #[bF,(sl 5 n c)])] (mkH 6 [(5,(cU xs))]) (.agg #[bT,(sl 5 n c)]) (mkH 8 [(5,(cU xs))]):=
 sF (sc:=[(6,.drwM [] [⟨2,[],bT,[],[]⟩,⟨5,[5],(.agg #[bT,(sl 5 n c)]),[(5,some (cU xs))],[]⟩]),(1,.stay)]) (next:=8) (l:=[(5,(cU xs))]) (by kernel_rfl) (aI (aI tt (aI tt (aI tt (aI tt (aI (op_tc 8 (by omega)) (aI (sg_tc 8 5 xs n c (by omega) ht) (aI tt tt))))))) tt) (Gets.refl _)
theorem ng_fc(n0 b:Nat)(xs:List Nat)(n c:Nat)(hb:5≤b∧b<n0)(ht:0<n):
  FT 150 #[.agg #[.bool false,sl b n c]] n0 [(b,cU xs)] (.agg #[.bool true,sl b n c]) [(b,some (cU xs))] []:=
 fsp_flat [b] [cU xs] [cU xs] [] [] n0 (ng_f xs n c ht) rfl rfl rfl (by simp) (by simp;omega) (by omega) (by simp[flat,ns_closed]) (by simp[flat,ns_closed]) rfl (by simp) (by simp) rfl rfl rfl
noncomputable section
abbrev z_e07_0(n c k e t u:Nat)(xs ys zs rs:List Nat):Prop:=FT 116 #[sl 5 n c,sl 6 k e] 11 [(5,cU xs),(6,cU ys)] (.tuple #[sl 11 t t,sl 12 u u]) [(5,some (cU xs)),(6,some (cU ys))] [cU zs,cU rs]
abbrev z_e07_1(xs ys zs rs:List Nat):List (Nat×AObj):=[(5,(cU xs)),(6,(cU ys)),(11,(cU zs)),(12,(cU rs))]
abbrev z_e07_2(n c k e:Nat)(xs ys:List Nat):Prop:=FT 116 #[sl 5 n c,sl 6 k e] 11 [(5,cU xs),(6,cU ys)] (.tuple #[.slice none 0 0,sl 5 n c]) [(5,some (cU xs)),(6,some (cU ys))] []
abbrev z_e07_3:Value:=.agg #[bF,(.slice none 0 0)]
abbrev z_e07_4(xs ys:List Nat):List (Nat×AObj):=[(5,(cU xs)),(6,(cU ys))]
abbrev z_e07_5(xs ys:List Nat):List (Nat×Option AObj):=[(5,some (cU xs)),(6,some (cU ys))]
end
theorem sgn_f:CT 117 #[bF,(.slice none 0 0)] (mkH 5 []) z_e07_3 (mkH 6 []):=
 sF (sc:=[(17,.stay)]) (next:=6) (l:=[]) (by kernel_rfl) tt (Gets.refl _)
theorem sgn_fc(n0:Nat)(hG:5≤n0):FT 117 #[bF,(.slice none 0 0)] n0 [] (.agg #[bF,(.slice none 0 0)]) [] []:=
 fsp_flat [] [] [] [] [] n0 (sgn_f) rfl rfl rfl (by simp) (by simp) hG rfl rfl rfl (by simp) (by simp) rfl rfl rfl
theorem sgn_t:CT 117 #[bT,(.slice none 0 0)] (mkH 5 []) z_e07_3 (mkH 6 []):=
 sF (sc:=[(17,.stay)]) (next:=6) (l:=[]) (by kernel_rfl) tt (Gets.refl _)
theorem sgn_tc(n0:Nat)(hG:5≤n0):FT 117 #[bT,(.slice none 0 0)] n0 [] (.agg #[bF,(.slice none 0 0)]) [] []:=
 fsp_flat [] [] [] [] [] n0 (sgn_t) rfl rfl rfl (by simp) (by simp) hG rfl rfl rfl (by simp) (by simp) rfl rfl rfl
theorem ct_0ff(xs ys:List Nat)(n c k e:Nat)(hov:(z_e07_2 n c k e xs ys)):CT 63 #[(.agg #[bF,(sl 5 n c)]),(.agg #[bF,(sl 6 k e)])] (mkH 7 (z_e07_4 xs ys)) (.tuple #[z_e07_3,(.agg #[bF,(sl 5 n c)])]) (mkH 11 (z_e07_4 xs ys)):=
 sF (sc:=[(13,.call [5,6] (.tuple #[(.slice none 0 0),(sl 5 n c)]) (z_e07_5 xs ys) []),(7,.drwM [] [⟨4,[],bF,[],[]⟩,⟨6,[],z_e07_3,[],[]⟩,⟨10,[5],(.agg #[bF,(sl 5 n c)]),[(5,some (cU xs))],[]⟩]),(1,.stay)]) (next:=11) (l:=(z_e07_4 xs ys)) (by kernel_rfl) (aI hov (aI (aI tt (aI tt (aI tt (aI tt (aI tt (aI tt (aI tt (aI tt (aI (wi_ffc 11 (by omega)) (aI (sgn_fc 11 (by omega)) (aI (sg_fc 11 5 xs n c (by omega)) (aI tt (aI tt tt))))))))))))) tt)) (Gets.refl _)
theorem ct_0ft(xs ys:List Nat)(n c k e:Nat)(hov:(z_e07_2 n c k e xs ys)):CT 63 #[(.agg #[bF,(sl 5 n c)]),(.agg #[bT,(sl 6 k e)])] (mkH 7 (z_e07_4 xs ys)) (.tuple #[z_e07_3,(.agg #[bF,(sl 5 n c)])]) (mkH 11 (z_e07_4 xs ys)):=
 sF (sc:=[(13,.call [5,6] (.tuple #[(.slice none 0 0),(sl 5 n c)]) (z_e07_5 xs ys) []),(7,.drwM [] [⟨4,[],bT,[],[]⟩,⟨6,[],z_e07_3,[],[]⟩,⟨10,[5],(.agg #[bF,(sl 5 n c)]),[(5,some (cU xs))],[]⟩]),(1,.stay)]) (next:=11) (l:=(z_e07_4 xs ys)) (by kernel_rfl) (aI hov (aI (aI tt (aI tt (aI tt (aI tt (aI tt (aI tt (aI tt (aI tt (aI (wi_ftc 11 (by omega)) (aI (sgn_tc 11 (by omega)) (aI (sg_fc 11 5 xs n c (by omega)) (aI tt (aI tt tt))))))))))))) tt)) (Gets.refl _)
theorem ct_0tf(xs ys:List Nat)(n c k e:Nat)(hxn:0<n)(hov:(z_e07_2 n c k e xs ys)):CT 63 #[(.agg #[bT,(sl 5 n c)]),(.agg #[bF,(sl 6 k e)])] (mkH 7 (z_e07_4 xs ys)) (.tuple #[z_e07_3,(.agg #[bT,(sl 5 n c)])]) (mkH 11 (z_e07_4 xs ys)):=
 sF (sc:=[(13,.call [5,6] (.tuple #[(.slice none 0 0),(sl 5 n c)]) (z_e07_5 xs ys) []),(7,.drwM [] [⟨4,[],bT,[],[]⟩,⟨6,[],z_e07_3,[],[]⟩,⟨10,[5],(.agg #[bT,(sl 5 n c)]),[(5,some (cU xs))],[]⟩]),(1,.stay)]) (next:=11) (l:=(z_e07_4 xs ys)) (by kernel_rfl) (aI hov (aI (aI tt (aI tt (aI tt (aI tt (aI tt (aI tt (aI tt (aI tt (aI (wi_tfc 11 (by omega)) (aI (sgn_tc 11 (by omega)) (aI (sg_tc 11 5 xs n c (by omega) hxn) (aI tt (aI tt tt))))))))))))) tt)) (Gets.refl _)
theorem ct_0tt(xs ys:List Nat)(n c k e:Nat)(hxn:0<n)(hov:(z_e07_2 n c k e xs ys)):CT 63 #[(.agg #[bT,(sl 5 n c)]),(.agg #[bT,(sl 6 k e)])] (mkH 7 (z_e07_4 xs ys)) (.tuple #[z_e07_3,(.agg #[bT,(sl 5 n c)])]) (mkH 11 (z_e07_4 xs ys)):=
 sF (sc:=[(13,.call [5,6] (.tuple #[(.slice none 0 0),(sl 5 n c)]) (z_e07_5 xs ys) []),(7,.drwM [] [⟨4,[],bF,[],[]⟩,⟨6,[],z_e07_3,[],[]⟩,⟨10,[5],(.agg #[bT,(sl 5 n c)]),[(5,some (cU xs))],[]⟩]),(1,.stay)]) (next:=11) (l:=(z_e07_4 xs ys)) (by kernel_rfl) (aI hov (aI (aI tt (aI tt (aI tt (aI tt (aI tt (aI tt (aI tt (aI tt (aI (wi_ttc 11 (by omega)) (aI (sgn_fc 11 (by omega)) (aI (sg_tc 11 5 xs n c (by omega) hxn) (aI tt (aI tt tt))))))))))))) tt)) (Gets.refl _)
theorem ct_1ff(xs ys:List Nat)(n c k e:Nat)(zs rs:List Nat)(t u:Nat)(ht:0<t)(hov:(z_e07_0 n c k e t u xs ys zs rs)):CT 63 #[(.agg #[bF,(sl 5 n c)]),(.agg #[bF,(sl 6 k e)])] (mkH 7 (z_e07_4 xs ys)) (.tuple #[(.agg #[bF,(sl 11 t t)]),(.agg #[bF,(sl 12 u u)])]) (mkH 13 (z_e07_1 xs ys zs rs)):=
 sF (sc:=[(13,.call [5,6] (.tuple #[(sl 11 t t),(sl 12 u u)]) (z_e07_5 xs ys) [(cU zs),(cU rs)]),(7,.drwM [] [⟨4,[],bF,[],[]⟩,⟨6,[11],(.agg #[bF,(sl 11 t t)]),[(11,some (cU zs))],[]⟩,⟨10,[12],(.agg #[bF,(sl 12 u u)]),[(12,some (cU rs))],[]⟩]),(1,.stay)]) (next:=13) (l:=(z_e07_1 xs ys zs rs)) (by kernel_rfl) (aI hov (aI (aI tt (aI tt (aI tt (aI tt (aI tt (aI tt (aI tt (aI tt (aI (wi_ffc 13 (by omega)) (aI (sg_fc 13 11 zs t t (by omega)) (aI (sg_fc 13 12 rs u u (by omega)) (aI tt (aI tt tt))))))))))))) tt)) (Gets.refl _)
theorem ct_1ft(xs ys:List Nat)(n c k e:Nat)(zs rs:List Nat)(t u:Nat)(ht:0<t)(hov:(z_e07_0 n c k e t u xs ys zs rs)):CT 63 #[(.agg #[bF,(sl 5 n c)]),(.agg #[bT,(sl 6 k e)])] (mkH 7 (z_e07_4 xs ys)) (.tuple #[(.agg #[bT,(sl 11 t t)]),(.agg #[bF,(sl 12 u u)])]) (mkH 13 (z_e07_1 xs ys zs rs)):=
 sF (sc:=[(13,.call [5,6] (.tuple #[(sl 11 t t),(sl 12 u u)]) (z_e07_5 xs ys) [(cU zs),(cU rs)]),(7,.drwM [] [⟨4,[],bT,[],[]⟩,⟨6,[11],(.agg #[bT,(sl 11 t t)]),[(11,some (cU zs))],[]⟩,⟨10,[12],(.agg #[bF,(sl 12 u u)]),[(12,some (cU rs))],[]⟩]),(1,.stay)]) (next:=13) (l:=(z_e07_1 xs ys zs rs)) (by kernel_rfl) (aI hov (aI (aI tt (aI tt (aI tt (aI tt (aI tt (aI tt (aI tt (aI tt (aI (wi_ftc 13 (by omega)) (aI (sg_tc 13 11 zs t t (by omega) ht) (aI (sg_fc 13 12 rs u u (by omega)) (aI tt (aI tt tt))))))))))))) tt)) (Gets.refl _)
theorem ct_1tf(xs ys:List Nat)(n c k e:Nat)(zs rs:List Nat)(t u:Nat)(ht:0<t)(hu:0<u)(hov:(z_e07_0 n c k e t u xs ys zs rs)):CT 63 #[(.agg #[bT,(sl 5 n c)]),(.agg #[bF,(sl 6 k e)])] (mkH 7 (z_e07_4 xs ys)) (.tuple #[(.agg #[bT,(sl 11 t t)]),(.agg #[bT,(sl 12 u u)])]) (mkH 13 (z_e07_1 xs ys zs rs)):=
 sF (sc:=[(13,.call [5,6] (.tuple #[(sl 11 t t),(sl 12 u u)]) (z_e07_5 xs ys) [(cU zs),(cU rs)]),(7,.drwM [] [⟨4,[],bT,[],[]⟩,⟨6,[11],(.agg #[bT,(sl 11 t t)]),[(11,some (cU zs))],[]⟩,⟨10,[12],(.agg #[bT,(sl 12 u u)]),[(12,some (cU rs))],[]⟩]),(1,.stay)]) (next:=13) (l:=(z_e07_1 xs ys zs rs)) (by kernel_rfl) (aI hov (aI (aI tt (aI tt (aI tt (aI tt (aI tt (aI tt (aI tt (aI tt (aI (wi_tfc 13 (by omega)) (aI (sg_tc 13 11 zs t t (by omega) ht) (aI (sg_tc 13 12 rs u u (by omega) hu) (aI tt (aI tt tt))))))))))))) tt)) (Gets.refl _)
theorem ct_1tfz(xs ys:List Nat)(n c k e:Nat)(zs rs:List Nat)(t u:Nat)(ht:0<t)(hu:u=0)(hov:(z_e07_0 n c k e t u xs ys zs rs)):CT 63 #[(.agg #[bT,(sl 5 n c)]),(.agg #[bF,(sl 6 k e)])] (mkH 7 (z_e07_4 xs ys)) (.tuple #[(.agg #[bT,(sl 11 t t)]),(.agg #[bF,(sl 12 u u)])]) (mkH 13 (z_e07_1 xs ys zs rs)):=
 sF (sc:=[(13,.call [5,6] (.tuple #[(sl 11 t t),(sl 12 u u)]) (z_e07_5 xs ys) [(cU zs),(cU rs)]),(7,.drwM [] [⟨4,[],bT,[],[]⟩,⟨6,[11],(.agg #[bT,(sl 11 t t)]),[(11,some (cU zs))],[]⟩,⟨10,[12],(.agg #[bF,(sl 12 u u)]),[(12,some (cU rs))],[]⟩]),(1,.stay)]) (next:=13) (l:=(z_e07_1 xs ys zs rs)) (by kernel_rfl) (aI hov (aI (aI tt (aI tt (aI tt (aI tt (aI tt (aI tt (aI tt (aI tt (aI (wi_tfc 13 (by omega)) (aI (sg_tc 13 11 zs t t (by omega) ht) (aI (sg_zc 13 12 rs u u (by omega) hu) (aI tt (aI tt tt))))))))))))) tt)) (Gets.refl _)
theorem ct_1tt(xs ys:List Nat)(n c k e:Nat)(zs rs:List Nat)(t u:Nat)(ht:0<t)(hu:0<u)(hov:(z_e07_0 n c k e t u xs ys zs rs)):CT 63 #[(.agg #[bT,(sl 5 n c)]),(.agg #[bT,(sl 6 k e)])] (mkH 7 (z_e07_4 xs ys)) (.tuple #[(.agg #[bF,(sl 11 t t)]),(.agg #[bT,(sl 12 u u)])]) (mkH 13 (z_e07_1 xs ys zs rs)):=
 sF (sc:=[(13,.call [5,6] (.tuple #[(sl 11 t t),(sl 12 u u)]) (z_e07_5 xs ys) [(cU zs),(cU rs)]),(7,.drwM [] [⟨4,[],bF,[],[]⟩,⟨6,[11],(.agg #[bF,(sl 11 t t)]),[(11,some (cU zs))],[]⟩,⟨10,[12],(.agg #[bT,(sl 12 u u)]),[(12,some (cU rs))],[]⟩]),(1,.stay)]) (next:=13) (l:=(z_e07_1 xs ys zs rs)) (by kernel_rfl) (aI hov (aI (aI tt (aI tt (aI tt (aI tt (aI tt (aI tt (aI tt (aI tt (aI (wi_ttc 13 (by omega)) (aI (sg_fc 13 11 zs t t (by omega)) (aI (sg_tc 13 12 rs u u (by omega) hu) (aI tt (aI tt tt))))))))))))) tt)) (Gets.refl _)
theorem ct_1ttz(xs ys:List Nat)(n c k e:Nat)(zs rs:List Nat)(t u:Nat)(ht:0<t)(hu:u=0)(hov:(z_e07_0 n c k e t u xs ys zs rs)):CT 63 #[(.agg #[bT,(sl 5 n c)]),(.agg #[bT,(sl 6 k e)])] (mkH 7 (z_e07_4 xs ys)) (.tuple #[(.agg #[bF,(sl 11 t t)]),(.agg #[bF,(sl 12 u u)])]) (mkH 13 (z_e07_1 xs ys zs rs)):=
 sF (sc:=[(13,.call [5,6] (.tuple #[(sl 11 t t),(sl 12 u u)]) (z_e07_5 xs ys) [(cU zs),(cU rs)]),(7,.drwM [] [⟨4,[],bF,[],[]⟩,⟨6,[11],(.agg #[bF,(sl 11 t t)]),[(11,some (cU zs))],[]⟩,⟨10,[12],(.agg #[bF,(sl 12 u u)]),[(12,some (cU rs))],[]⟩]),(1,.stay)]) (next:=13) (l:=(z_e07_1 xs ys zs rs)) (by kernel_rfl) (aI hov (aI (aI tt (aI tt (aI tt (aI tt (aI tt (aI tt (aI tt (aI tt (aI (wi_ttc 13 (by omega)) (aI (sg_fc 13 11 zs t t (by omega)) (aI (sg_zc 13 12 rs u u (by omega) hu) (aI tt (aI tt tt))))))))))))) tt)) (Gets.refl _)
theorem ct_c(n0 bx byy:Nat)(xs ys:List Nat)(n c k e:Nat)(sx sy:Bool)(hb:5≤bx∧bx<n0∧5≤byy∧byy<n0∧bx≠byy)(hlx:Lim xs)(hly:Lim ys)(hc:n≤xs.length)(hk:k≤ys.length)(hn:n<1000000)(hkm:k<1000000)(hx:0<n→xs.getD (n-1) 0≠0)(hy:0<k→ys.getD (k-1) 0≠0)(hsx:sx=true→0<n)(hsy:sy=true→0<k)(h0:0<k):
  ((val (xs.take n)<val (ys.take k))∧FT 63 #[.agg #[.bool sx,sl bx n c],.agg #[.bool sy,sl byy k e]] n0 [(bx,cU xs),(byy,cU ys)] (.tuple #[.agg #[.bool false,.slice none 0 0],.agg #[.bool sx,sl bx n c]]) [(bx,some (cU xs)),(byy,some (cU ys))] [])∨
  (∃sq zs t sr rs u,Lim zs∧t≤zs.length∧t≤n+5∧(0<t→zs.getD (t-1) 0≠0)∧(sq=true→0<t)∧iv sq (val (zs.take t))=Int.tdiv (iv sx (val (xs.take n))) (iv sy (val (ys.take k)))∧
   Lim rs∧u≤rs.length∧u≤n+k+5∧(0<u→rs.getD (u-1) 0≠0)∧(sr=true→0<u)∧iv sr (val (rs.take u))=Int.tmod (iv sx (val (xs.take n))) (iv sy (val (ys.take k)))∧
   FT 63 #[.agg #[.bool sx,sl bx n c],.agg #[.bool sy,sl byy k e]] n0 [(bx,cU xs),(byy,cU ys)] (.tuple #[.agg #[.bool sq,sl n0 t t],.agg #[.bool sr,.slice (some ⟨(n0+1),0,none⟩) u u]]) [(bx,some (cU xs)),(byy,some (cU ys))] [cU zs,cU rs]):=by
 rcases ov_c 11 5 6 xs ys n c k e (by omega) hlx hly hc hk (by omega) (by omega) hx hy h0 with⟨hlt,T⟩|⟨hge,zs,t,rs,u,a1,a2,a3,a4,a5,b1,b2,b3,b4,b5,T⟩
 ·cases sx<;>cases sy
  ·exact .inl ⟨hlt,fsp_flat [bx,byy] [cU xs,cU ys] [cU xs,cU ys] [] [] n0 (ct_0ff xs ys n c k e T) rfl rfl rfl (by simp[hb.2.2.2.2]) (by simp;omega) (by omega) (by simp[flat,ns_closed]) (by simp[flat,ns_closed]) rfl (by simp) (by simp) rfl rfl rfl⟩
  ·exact .inl ⟨hlt,fsp_flat [bx,byy] [cU xs,cU ys] [cU xs,cU ys] [] [] n0 (ct_0ft xs ys n c k e T) rfl rfl rfl (by simp[hb.2.2.2.2]) (by simp;omega) (by omega) (by simp[flat,ns_closed]) (by simp[flat,ns_closed]) rfl (by simp) (by simp) rfl rfl rfl⟩
  ·exact .inl ⟨hlt,fsp_flat [bx,byy] [cU xs,cU ys] [cU xs,cU ys] [] [] n0 (ct_0tf xs ys n c k e (hsx rfl) T) rfl rfl rfl (by simp[hb.2.2.2.2]) (by simp;omega) (by omega) (by simp[flat,ns_closed]) (by simp[flat,ns_closed]) rfl (by simp) (by simp) rfl rfl rfl⟩
  ·exact .inl ⟨hlt,fsp_flat [bx,byy] [cU xs,cU ys] [cU xs,cU ys] [] [] n0 (ct_0tt xs ys n c k e (hsx rfl) T) rfl rfl rfl (by simp[hb.2.2.2.2]) (by simp;omega) (by omega) (by simp[flat,ns_closed]) (by simp[flat,ns_closed]) rfl (by simp) (by simp) rfl rfl rfl⟩
 ·have hyp:0<val (ys.take k):=val_pos h0 hy
  have hq:0<val (zs.take t):=by
   rw[a5]
   exact Nat.div_pos hge hyp
  have ht:0<t:=by
   rcases Nat.eq_zero_or_pos t with q|q
   ·rw[q,List.take_zero]at hq
    exact absurd hq (by decide)
   ·exact q
  cases sx<;>cases sy
  · · exact .inr ⟨false,zs,t,false,rs,u,a1,a2,by omega,a4,(by intro q;cases q),by simp only[iv_t,iv_f];rw[tdiv_pp,a5],b1,b2,by omega,b4,(by intro q;cases q),by simp only[iv_t,iv_f];rw[tmod_pp,b5],fsp_flat [bx,byy] [cU xs,cU ys] [cU xs,cU ys] [11,12] [cU zs,cU rs] n0 (ct_1ff xs ys n c k e zs rs t u ht T) rfl rfl rfl (by simp[hb.2.2.2.2]) (by simp;omega) (by omega) (by simp[flat,ns_closed]) (by simp[flat,ns_closed]) (by simp[flat,ns_closed,AObj.ro]) (by simp) (by simp) rfl rfl rfl⟩
  · · exact .inr ⟨true,zs,t,false,rs,u,a1,a2,by omega,a4,(fun _=>ht),by simp only[iv_t,iv_f];rw[tdiv_pm,a5],b1,b2,by omega,b4,(by intro q;cases q),by simp only[iv_t,iv_f];rw[tmod_pm,b5],fsp_flat [bx,byy] [cU xs,cU ys] [cU xs,cU ys] [11,12] [cU zs,cU rs] n0 (ct_1ft xs ys n c k e zs rs t u ht T) rfl rfl rfl (by simp[hb.2.2.2.2]) (by simp;omega) (by omega) (by simp[flat,ns_closed]) (by simp[flat,ns_closed]) (by simp[flat,ns_closed,AObj.ro]) (by simp) (by simp) rfl rfl rfl⟩
  · · rcases Nat.eq_zero_or_pos u with hu|hu
      ·exact .inr ⟨true,zs,t,false,rs,u,a1,a2,by omega,a4,(fun _=>ht),by simp only[iv_t,iv_f];rw[tdiv_mp,a5],b1,b2,by omega,b4,(by intro q;cases q),by simp only[iv_t,iv_f];rw[tmod_mp,←b5,hu,List.take_zero];rfl,fsp_flat [bx,byy] [cU xs,cU ys] [cU xs,cU ys] [11,12] [cU zs,cU rs] n0 (ct_1tfz xs ys n c k e zs rs t u ht hu T) rfl rfl rfl (by simp[hb.2.2.2.2]) (by simp;omega) (by omega) (by simp[flat,ns_closed]) (by simp[flat,ns_closed]) (by simp[flat,ns_closed,AObj.ro]) (by simp) (by simp) rfl rfl rfl⟩
      ·exact .inr ⟨true,zs,t,true,rs,u,a1,a2,by omega,a4,(fun _=>ht),by simp only[iv_t,iv_f];rw[tdiv_mp,a5],b1,b2,by omega,b4,(fun _=>hu),by simp only[iv_t,iv_f];rw[tmod_mp,b5],fsp_flat [bx,byy] [cU xs,cU ys] [cU xs,cU ys] [11,12] [cU zs,cU rs] n0 (ct_1tf xs ys n c k e zs rs t u ht hu T) rfl rfl rfl (by simp[hb.2.2.2.2]) (by simp;omega) (by omega) (by simp[flat,ns_closed]) (by simp[flat,ns_closed]) (by simp[flat,ns_closed,AObj.ro]) (by simp) (by simp) rfl rfl rfl⟩
  · · rcases Nat.eq_zero_or_pos u with hu|hu
      ·exact .inr ⟨false,zs,t,false,rs,u,a1,a2,by omega,a4,(by intro q;cases q),by simp only[iv_t,iv_f];rw[tdiv_mm,a5],b1,b2,by omega,b4,(by intro q;cases q),by simp only[iv_t,iv_f];rw[tmod_mm,←b5,hu,List.take_zero];rfl,fsp_flat [bx,byy] [cU xs,cU ys] [cU xs,cU ys] [11,12] [cU zs,cU rs] n0 (ct_1ttz xs ys n c k e zs rs t u ht hu T) rfl rfl rfl (by simp[hb.2.2.2.2]) (by simp;omega) (by omega) (by simp[flat,ns_closed]) (by simp[flat,ns_closed]) (by simp[flat,ns_closed,AObj.ro]) (by simp) (by simp) rfl rfl rfl⟩
      ·exact .inr ⟨false,zs,t,true,rs,u,a1,a2,by omega,a4,(by intro q;cases q),by simp only[iv_t,iv_f];rw[tdiv_mm,a5],b1,b2,by omega,b4,(fun _=>hu),by simp only[iv_t,iv_f];rw[tmod_mm,b5],fsp_flat [bx,byy] [cU xs,cU ys] [cU xs,cU ys] [11,12] [cU zs,cU rs] n0 (ct_1tt xs ys n c k e zs rs t u ht hu T) rfl rfl rfl (by simp[hb.2.2.2.2]) (by simp;omega) (by omega) (by simp[flat,ns_closed]) (by simp[flat,ns_closed]) (by simp[flat,ns_closed,AObj.ro]) (by simp) (by simp) rfl rfl rfl⟩
noncomputable section
abbrev z_35d_0(a q i k e n c:Nat)(j:List Value):List Value:=[(nW (a+q)),(nI i),(sl 6 k e),(nI k),bF,bF,(nW q),bT,bT,(nI i),(nI (i+1)),(sl 5 n c),(nI i),(.pointer (some ⟨5,i,none⟩)),(nW a),(nW q),(nW (a+q)),(nI i),(sl 6 k e),(nI k),bF,(J j 21),(J j 22),(J j 23),(J j 24),(J j 25),(J j 26),(nW (a+q)),(nW ((a+q)/1000000000)),(sl 5 n c),(nI i),(nW (a+q)),(nW ((a+q)%1000000000)),(.pointer (some ⟨5,i,none⟩))]
end
noncomputable def gain_h_f(xs ys:List Nat)(n c k e:Nat)(q i:Nat)(j:List Value):Frame:=⟨189,List.toArray [(sl 5 n c),(sl 6 k e),uu,uu,(nW q),(nI i),(J j 0),(J j 1),(J j 2),(J j 3),(J j 4),(J j 5),(J j 6),(J j 7),(J j 8),(J j 9),(J j 10),(J j 11),(J j 12),(J j 13),(J j 14),(J j 15),(J j 16),(J j 17),(J j 18),(J j 19),(J j 20),(J j 21),(J j 22),(J j 23),(J j 24),(J j 25),(J j 26),(J j 27),(J j 28),(J j 29),(J j 30),(J j 31),(J j 32),(J j 33)],[.code (cd Tryz.f189 [1,1,0,0]),.inLoop (cd Tryz.f189 [1,1,0,0]),.inBlock 0],[],.run,.normal,none⟩
noncomputable def gain_h_o(xs ys:List Nat)(n c k e:Nat)(q i:Nat):List (Nat×AObj):=[(5,(cU xs)),(6,(cU ys))]
noncomputable def gain_h(xs ys:List Nat)(n c k e:Nat)(q i:Nat)(j:List Value):AS:=⟨gain_h_f xs ys n c k e q i j,[],mkH 7 (gain_h_o xs ys n c k e q i)⟩
theorem gain_in(xs ys:List Nat)(n c k e:Nat):GT ⟨Frame.enter Tryz.prog 189 #[(sl 5 n c),(sl 6 k e)] .normal,[],mkH 7 [(5,(cU xs)),(6,(cU ys))]⟩ (gain_h xs ys n c k e 0 0 [undef,undef,undef,undef,undef,undef,undef,undef,undef,undef,undef,undef,undef,undef,undef,undef,undef,undef,undef,undef,undef,undef,undef,undef,undef,undef,undef,undef,undef,undef,undef,undef,undef,undef]):=
 sR (sc:=[(10,.stay)]) (fr1:=gain_h_f xs ys n c k e 0 0 [uu,uu,uu,uu,uu,uu,uu,uu,uu,uu,uu,uu,uu,uu,uu,uu,uu,uu,uu,uu,uu,uu,uu,uu,uu,uu,uu,uu,uu,uu,uu,uu,uu,uu]) (next:=7) (l:=gain_h_o xs ys n c k e 0 0) (by kernel_rfl) tt
theorem gain_r1(xs ys:List Nat)(n c k e q i a b:Nat)(j:List Value)(hi:i<k)(hn:i<n)(hc:n≤xs.length)(hm:n<9223372036854775807)(hkm:k<9223372036854775807)(hb:b<1000000000)(ha:a<1000000000)(hq:q≤1)(hx:(ns .u32 xs)[i]? =some (nW a))(hy:(ns .u32 ys)[i]? =some (nW b)):GT (gain_h xs ys n c k e q i j) (gain_h (xs.set i (((a+q)+b)%1000000000)) ys n c k e (((a+q)+b)/1000000000) (i+1) [(nW ((a+q)+b)),(nI i),(sl 6 k e),(nI k),bT,bT,undef,undef,bT,(nI i),(nI (i+1)),(sl 5 n c),(nI i),(.pointer (some ⟨5,i,none⟩)),(nW a),(nW q),(nW (a+q)),(nI i),(sl 6 k e),(nI k),bT,(nW (a+q)),(sl 6 k e),(nI i),(.pointer (some ⟨6,i,none⟩)),(nW b),(nW ((a+q)+b)),(nW ((a+q)+b)),(nW (((a+q)+b)/1000000000)),(sl 5 n c),(nI i),(nW ((a+q)+b)),(nW (((a+q)+b)%1000000000)),(.pointer (some ⟨5,i,none⟩))]):=
 sR (sc:=[(6,.op (.rwB true)),(13,.op (.idx i)),(0,.op (.ld (nW a))),(1,.op (.rwI (((a+q):Nat):Int))),(8,.op (.rwB true)),(6,.op (.idx i)),(0,.op (.ld (nW b))),(0,.op (.rwI ((((a+q)+b):Nat):Int))),(5,.op (.rwI (((((a+q)+b)/1000000000):Nat):Int))),(6,.op (.rwI (((((a+q)+b)%1000000000):Nat):Int))),(0,.op (.idx i)),(0,.op (.st (ns .u32 (xs.set i (((a+q)+b)%1000000000))))),(4,.op (.rwI (((i+1):Nat):Int))),(3,.stay)]) (fr1:=gain_h_f (xs.set i (((a+q)+b)%1000000000)) ys n c k e (((a+q)+b)/1000000000) (i+1) [(nW ((a+q)+b)),(nI i),(sl 6 k e),(nI k),bT,bT,uu,uu,bT,(nI i),(nI (i+1)),(sl 5 n c),(nI i),(.pointer (some ⟨5,i,none⟩)),(nW a),(nW q),(nW (a+q)),(nI i),(sl 6 k e),(nI k),bT,(nW (a+q)),(sl 6 k e),(nI i),(.pointer (some ⟨6,i,none⟩)),(nW b),(nW ((a+q)+b)),(nW ((a+q)+b)),(nW (((a+q)+b)/1000000000)),(sl 5 n c),(nI i),(nW ((a+q)+b)),(nW (((a+q)+b)%1000000000)),(.pointer (some ⟨5,i,none⟩))]) (next:=7) (l:=gain_h_o (xs.set i (((a+q)+b)%1000000000)) ys n c k e (((a+q)+b)/1000000000) (i+1)) (by kernel_rfl) (aI (dT (p:=(i:Int)<(k:Int)) (by omega)) (aI (ix (i:Int) (n:Int) 0 1 i (by omega)) (aI hx (aI (wU32 (a:=((a:Int)+(q:Int))) (r:=(((a+q):Nat):Int)) (by omega)) (aI (dT (p:=(i:Int)<(k:Int)) (by omega)) (aI (ix (i:Int) (k:Int) 0 1 i (by omega)) (aI hy (aI (wU32 (a:=((((a+q):Nat):Int)+(b:Int))) (r:=((((a+q)+b):Nat):Int)) (by omega)) (aI (show IntKind.wrap .u32 (Int.tdiv ((((a+q)+b):Nat):Int) (1000000000:Int))=(((((a+q)+b)/1000000000):Nat):Int) from (by rw[Int.tdiv_eq_ediv_of_nonneg (by omega),wrap_u32 (by omega) (by omega)]<;>omega)) (aI (show (Int.tmod ((((a+q)+b):Nat):Int) (1000000000:Int))=(((((a+q)+b)%1000000000):Nat):Int) from (by rw[Int.tmod_eq_emod_of_nonneg (by omega)]<;>omega)) (aI (ix (i:Int) (n:Int) 0 1 i (by omega)) (aI (show i+1≤(ns .u32 xs).length∧lspl (ns .u32 xs) i [(nW (((a+q)+b)%1000000000))]=(ns .u32 (xs.set i (((a+q)+b)%1000000000))) from (ns_set (by omega))) (aI (wI64 (a:=((i:Int)+(1:Int))) (r:=(((i+1):Nat):Int)) (by omega)) tt)))))))))))))
theorem gain_r2(xs ys:List Nat)(n c k e q i a:Nat)(j:List Value)(hi:k≤i)(hn:i<n)(hc:n≤xs.length)(hm:n<9223372036854775807)(hq:q=1)(ha:a<1000000000)(hx:(ns .u32 xs)[i]? =some (nW a)):GT (gain_h xs ys n c k e q i j) (gain_h (xs.set i ((a+q)%1000000000)) ys n c k e ((a+q)/1000000000) (i+1) (z_35d_0 a q i k e n c j)):=
 sR (sc:=[(6,.op (.rwB false)),(2,.op (.rwB true)),(10,.op (.idx i)),(0,.op (.ld (nW a))),(1,.op (.rwI (((a+q):Nat):Int))),(8,.op (.rwB false)),(6,.op (.rwI ((((a+q)/1000000000):Nat):Int))),(6,.op (.rwI ((((a+q)%1000000000):Nat):Int))),(0,.op (.idx i)),(0,.op (.st (ns .u32 (xs.set i ((a+q)%1000000000))))),(4,.op (.rwI (((i+1):Nat):Int))),(3,.stay)]) (fr1:=gain_h_f (xs.set i ((a+q)%1000000000)) ys n c k e ((a+q)/1000000000) (i+1) (z_35d_0 a q i k e n c j)) (next:=7) (l:=gain_h_o (xs.set i ((a+q)%1000000000)) ys n c k e ((a+q)/1000000000) (i+1)) (by kernel_rfl) (aI (dF (p:=(i:Int)<(k:Int)) (by omega)) (aI (dT (p:=(q:Int)>(0:Int)) (by omega)) (aI (ix (i:Int) (n:Int) 0 1 i (by omega)) (aI hx (aI (wU32 (a:=((a:Int)+(q:Int))) (r:=(((a+q):Nat):Int)) (by omega)) (aI (dF (p:=(i:Int)<(k:Int)) (by omega)) (aI (show IntKind.wrap .u32 (Int.tdiv (((a+q):Nat):Int) (1000000000:Int))=((((a+q)/1000000000):Nat):Int) from (by rw[Int.tdiv_eq_ediv_of_nonneg (by omega),wrap_u32 (by omega) (by omega)]<;>omega)) (aI (show (Int.tmod (((a+q):Nat):Int) (1000000000:Int))=((((a+q)%1000000000):Nat):Int) from (by rw[Int.tmod_eq_emod_of_nonneg (by omega)]<;>omega)) (aI (ix (i:Int) (n:Int) 0 1 i (by omega)) (aI (show i+1≤(ns .u32 xs).length∧lspl (ns .u32 xs) i [(nW ((a+q)%1000000000))]=(ns .u32 (xs.set i ((a+q)%1000000000))) from (ns_set (by omega))) (aI (wI64 (a:=((i:Int)+(1:Int))) (r:=(((i+1):Nat):Int)) (by omega)) tt)))))))))))
theorem gain_out(xs0 xs ys:List Nat)(n c k e q i:Nat)(j:List Value)(hi:k≤i)(hq:q=0)(hr:GT ⟨Frame.enter Tryz.prog 189 #[(sl 5 n c),(sl 6 k e)] .normal,[],mkH 7 [(5,(cU xs0)),(6,(cU ys))]⟩ (gain_h xs ys n c k e q i j)):CT 189 #[(sl 5 n c),(sl 6 k e)] (mkH 7 [(5,(cU xs0)),(6,(cU ys))]) undef (mkH 7 [(5,(cU xs)),(6,(cU ys))]):=
 sF (sc:=[(6,.op (.rwB false)),(2,.op (.rwB false)),(5,.stay)]) (next:=7) (l:=[(5,(cU xs)),(6,(cU ys))]) (by kernel_rfl) (aI (dF (p:=(i:Int)<(k:Int)) (by omega)) (aI (dF (p:=(q:Int)>(0:Int)) (by omega)) tt)) hr
theorem gain_loop{s0:AS}{ys:List Nat}{n k e T:Nat}(hly:Lim ys)(hk:k≤ys.length)(hkn:k≤n)(hn:n<9223372036854775807)(hT:T<1000000000^n):
  ∀(m:Nat) (xs:List Nat) (q i:Nat) (j:List Value),m=n-i→xs.length=n→Lim xs→i≤n→q≤1→val xs+q*1000000000^i+1000000000^i*val ((ys.take k).drop i)=T→
   GT s0 (gain_h xs ys n n k e q i j)→ ∃zs i' j',k≤i'∧zs.length=n∧Lim zs∧val zs=T∧GT s0 (gain_h zs ys n n k e 0 i' j'):=by
 intro m
 induction m with
 |zero=>
  intro xs q i j hm hx hl hi hq hv hr
  have hin:i=n:=by omega
  subst hin
  have hq0:q=0:=by
   rcases Nat.eq_zero_or_pos q with h|h
   ·exact h
   ·have:=Nat.mul_le_mul_right (1000000000^i) h
    omega
  subst hq0
  refine⟨xs,i,j,hkn,hx,hl,?_,hr⟩
  rw[List.drop_eq_nil_of_le (by rw[List.length_take];omega)]at hv
  exact nil_end hv
 |succ m ih=>
  intro xs q i j hm hx hl hi hq hv hr
  have hP:1000000000^(i+1)=1000000000^i*1000000000:=Nat.pow_succ ..
  by_cases hik:i<k
  ·have ha:=hl.get i
   have hb:=hly.get i
   have r:=gain_r1 xs ys n n k e q i (xs.getD i 0) (ys.getD i 0) j hik (by omega) (by omega) hn (by omega) hb ha hq (ns_get (by omega)) (ns_get (by omega))
   refine ih _ _ _ _ (by omega) (by simpa using hx) (hl.set (Nat.mod_lt _ (by decide))) (by omega) (by omega) ?_ (hr.trans r)
   have h1:=val_set xs i ((xs.getD i 0+q+ys.getD i 0)%1000000000) (by omega)
   have h2:val ((ys.take k).drop i)=ys.getD i 0+1000000000*val ((ys.take k).drop (i+1)):=by
    rw[val_drop (by rw[List.length_take];omega),getD_take hik]
   rw[h2]at hv
   rw[hP]
   exact carry_step h1 hv
  ·by_cases hq1:q=1
   ·subst hq1
    have hin:i<n:=by
     rcases Nat.lt_or_ge i n with h|h
     ·exact h
     ·have:=pow_le h
      omega
    have ha:=hl.get i
    have r:=gain_r2 xs ys n n k e 1 i (xs.getD i 0) j (by omega) hin (by omega) hn rfl ha (ns_get (by omega))
    refine ih _ _ _ _ (by omega) (by simpa using hx) (hl.set (Nat.mod_lt _ (by decide))) (by omega) (by omega) ?_ (hr.trans r)
    have h1:=val_set xs i ((xs.getD i 0+1)%1000000000) (by omega)
    rw[List.drop_eq_nil_of_le (by rw[List.length_take];omega)]at hv ⊢
    rw[hP]
    exact nil_add (carry_step0 h1 (nil_one hv))
   ·have hq0:q=0:=by omega
    subst hq0
    refine⟨xs,i,j,by omega,hx,hl,?_,hr⟩
    rw[List.drop_eq_nil_of_le (by rw[List.length_take];omega)]at hv
    exact nil_end hv
theorem gain_c(n0 bx byy:Nat)(xs ys:List Nat)(k e:Nat)(hb:5≤bx∧bx<n0∧5≤byy∧byy<n0∧bx≠byy)(hlx:Lim xs)(hly:Lim ys)(hk:k≤ys.length)(hkn:k≤xs.length)(hn:xs.length<9223372036854775807)
  (hT:val xs+val (ys.take k)<1000000000^xs.length):
  ∃zs,zs.length=xs.length∧Lim zs∧val zs=val xs+val (ys.take k)∧
   FT 189 #[sl bx xs.length xs.length,sl byy k e] n0 [(bx,cU xs),(byy,cU ys)] undef
    [(bx,some (cU zs)),(byy,some (cU ys))] []:=by
 have r:=gain_in xs ys xs.length xs.length k e
 obtain⟨zs,i',j',h1,h2,h3,h4,h5⟩:=gain_loop (T:=val xs+val (ys.take k)) hly hk hkn hn hT _ xs 0 0 _ rfl rfl hlx (by omega) (by omega) (by simp) r
 have S:=gain_out xs zs ys xs.length xs.length k e 0 i' j' h1 rfl h5
 refine⟨zs,h2,h3,h4,fsp_flat [bx,byy] [cU xs,cU ys] [cU zs,cU ys] [] [] n0 S rfl rfl rfl ?_ ?_ (by omega) ?_ ?_ rfl (by simp) (by simp) rfl rfl rfl⟩
 ·simp[hb.2.2.2.2]
 ·simp;omega
 ·simp[flat,ns_closed]
 ·simp[flat,ns_closed]
theorem plus_o(xs ys:List Nat)(n c k e:Nat)(hc:n≤xs.length)(hk:k≤ys.length)(hn:n<1099511627776)(hkm:k<1099511627776)(zs0:List Nat)(hz:zs0.length=max n k+1)(hc1:FT 189 #[(sl 7 ((max n k)+1) ((max n k)+1)),(sl 6 k e)] 8 [(7,(.cells (ns .u32 (xs.take n++List.replicate (((max n k)+1)-n) 0)) 121 none false)),(6,(cU ys))] undef [(7,some (cU zs0)),(6,some (cU ys))] []):CT 151 #[(sl 5 n c),(sl 6 k e)] (mkH 7 [(5,(cU xs)),(6,(cU ys))]) (sl 7 (top zs0 ((max n k)+1)) (top zs0 ((max n k)+1))) (mkH 8 [(5,(cU xs)),(6,(cU ys)),(7,(cU zs0))]):=
 sF (sc:=[(11,.op (.rwI (((max n k):Nat):Int))),(0,.op (.rwI ((((max n k)+1):Nat):Int))),(0,.call [5] (sl 7 ((max n k)+1) ((max n k)+1)) [(5,some (cU xs))] [(.cells (ns .u32 (xs.take n++List.replicate (((max n k)+1)-n) 0)) 121 none false)]),(6,.call [7,6] uu [(7,some (cU zs0)),(6,some (cU ys))] []),(4,.call [7] (sl 7 (top zs0 ((max n k)+1)) (top zs0 ((max n k)+1))) [(7,some (cU zs0))] []),(3,.stay)]) (next:=8) (l:=[(5,(cU xs)),(6,(cU ys)),(7,(cU zs0))]) (by kernel_rfl) (aI (show (if (k:Int)>(n:Int) then (k:Int) else (n:Int))=(((max n k):Nat):Int) from (by omega)) (aI (wI64 (a:=((((max n k):Nat):Int)+(1:Int))) (r:=((((max n k)+1):Nat):Int)) (by omega)) (aI (copied_c 7 5 xs n c ((max n k)+1) (by omega) (by omega) (by omega) (by omega)) (aI hc1 (aI (trim_c 8 7 zs0 ((max n k)+1) ((max n k)+1) (by omega) (by rw[hz];exact Nat.le_refl _) (by omega) (by omega)) tt))))) (Gets.refl _)
theorem plus_c(n0 bx byy:Nat)(xs ys:List Nat)(n c k e:Nat)(hb:5≤bx∧bx<n0∧5≤byy∧byy<n0∧bx≠byy)(hlx:Lim xs)(hly:Lim ys)(hc:n≤xs.length)(hk:k≤ys.length)(hn:n<1099511627776)(hkm:k<1099511627776):
  ∃zs t,Lim zs∧t≤zs.length∧t≤max n k+1∧(0<t→zs.getD (t-1) 0≠0)∧val (zs.take t)=val (xs.take n)+val (ys.take k)∧
   FT 151 #[sl bx n c,sl byy k e] n0 [(bx,cU xs),(byy,cU ys)] (sl n0 t t)
    [(bx,some (cU xs)),(byy,some (cU ys))] [cU zs]:=by
 have hl1:(xs.take n++List.replicate (max n k+1-n) 0).length=max n k+1:=by rw[List.length_append,List.length_take,List.length_replicate];omega
 have hv1:val (xs.take n++List.replicate (max n k+1-n) 0)=val (xs.take n):=by rw[val_append,val_replicate,Nat.mul_zero,Nat.add_zero]
 have hx1:=val_lt (hlx.take n)
 have hy1:=val_lt (hly.take k)
 have hx2:val (xs.take n)<1000000000^max n k:=Nat.lt_of_lt_of_le hx1 (pow_le (by rw[List.length_take];omega))
 have hy2:val (ys.take k)<1000000000^max n k:=Nat.lt_of_lt_of_le hy1 (pow_le (by rw[List.length_take];omega))
 obtain⟨zs,h1,h2,h3,h4⟩:=gain_c 8 7 6 (xs.take n++List.replicate (max n k+1-n) 0) ys k e (by omega) ((hlx.take n).append (Lim.replicate _)) hly hk (by rw[hl1];omega) (by rw[hl1];omega) (by rw[hl1,hv1];exact sum_lt hx2 hy2)
 rw[hl1]at h1 h4
 have S:=plus_o xs ys n c k e hc hk hn hkm zs h1 h4
 have htl:=top_le zs (max n k+1)
 refine⟨zs,top zs (max n k+1),h2,by rw[h1];exact htl,htl,top_pos zs _,?_,fsp_flat [bx,byy] [cU xs,cU ys] [cU xs,cU ys] [7] [cU zs] n0 S rfl rfl rfl ?_ ?_ (by omega) ?_ ?_ ?_ (by simp) (by simp) rfl rfl rfl⟩
 ·rw[top_val,List.take_of_length_le (by rw[h1];exact Nat.le_refl _),h3,hv1]
 ·simp[hb.2.2.2.2]
 ·simp;omega
 ·simp[flat,ns_closed]
 ·simp[flat,ns_closed]
 ·simp[flat,ns_closed,AObj.ro]
noncomputable section
abbrev z_02c_0(i:Nat):Value:=.pointer (some ⟨5,i,none⟩)
end
noncomputable def lose_h_f(xs ys:List Nat)(n c k e:Nat)(q i:Nat)(j:List Value):Frame:=⟨192,List.toArray [(sl 5 n c),(sl 6 k e),uu,uu,(nW q),(nI i),(J j 0),(J j 1),(J j 2),(J j 3),(J j 4),(J j 5),(J j 6),(J j 7),(J j 8),(J j 9),(J j 10),(J j 11),(J j 12),(J j 13),(J j 14),(J j 15),(J j 16),(J j 17),(J j 18),(J j 19),(J j 20),(J j 21),(J j 22),(J j 23),(J j 24),(J j 25),(J j 26),(J j 27),(J j 28),(J j 29),(J j 30),(J j 31),(J j 32),(J j 33),(J j 34),(J j 35),(J j 36),(J j 37),(J j 38),(J j 39),(J j 40)],[.code (cd Tryz.f192 [1,1,0,0]),.inLoop (cd Tryz.f192 [1,1,0,0]),.inBlock 0],[],.run,.normal,none⟩
noncomputable def lose_h_o(xs ys:List Nat)(n c k e:Nat)(q i:Nat):List (Nat×AObj):=[(5,(cU xs)),(6,(cU ys))]
noncomputable def lose_h(xs ys:List Nat)(n c k e:Nat)(q i:Nat)(j:List Value):AS:=⟨lose_h_f xs ys n c k e q i j,[],mkH 7 (lose_h_o xs ys n c k e q i)⟩
theorem lose_in(xs ys:List Nat)(n c k e:Nat):GT ⟨Frame.enter Tryz.prog 192 #[(sl 5 n c),(sl 6 k e)] .normal,[],mkH 7 [(5,(cU xs)),(6,(cU ys))]⟩ (lose_h xs ys n c k e 0 0 [undef,undef,undef,undef,undef,undef,undef,undef,undef,undef,undef,undef,undef,undef,undef,undef,undef,undef,undef,undef,undef,undef,undef,undef,undef,undef,undef,undef,undef,undef,undef,undef,undef,undef,undef,undef,undef,undef,undef,undef,undef]):=
 sR (sc:=[(10,.stay)]) (fr1:=lose_h_f xs ys n c k e 0 0 [uu,uu,uu,uu,uu,uu,uu,uu,uu,uu,uu,uu,uu,uu,uu,uu,uu,uu,uu,uu,uu,uu,uu,uu,uu,uu,uu,uu,uu,uu,uu,uu,uu,uu,uu,uu,uu,uu,uu,uu,uu]) (next:=7) (l:=lose_h_o xs ys n c k e 0 0) (by kernel_rfl) tt
theorem lose_t1(xs ys:List Nat)(n c k e q i a b v:Nat)(j:List Value)(hi:i<k)(hn:i<n)(hc:n≤xs.length)(hm:n<9223372036854775807)(hkm:k<9223372036854775807)(hb:b<1000000000)(ha:a<1000000000)(hq:q≤1)(hx:(ns .u32 xs)[i]? =some (nW a))(hy:(ns .u32 ys)[i]? =some (nW b))(hlt:a<q+b)(hv:v+(q+b)=a+1000000000):GT (lose_h xs ys n c k e q i j) (lose_h (xs.set i v) ys n c k e 1 (i+1) [(nW (q+b)),(nI i),(sl 6 k e),(nI k),bT,bT,undef,undef,bT,(nI i),(nI (i+1)),(nW q),(nI i),(sl 6 k e),(nI k),bT,(nW q),(sl 6 k e),(nI i),(.pointer (some ⟨6,i,none⟩)),(nW b),(nW (q+b)),(sl 5 n c),(nI i),(z_02c_0 i),(nW a),(nW (q+b)),bT,(sl 5 n c),(nI i),(z_02c_0 i),(nW a),(nW (a+1000000000)),(z_02c_0 i),(sl 5 n c),(nI i),(z_02c_0 i),(nW (a+1000000000)),(nW (q+b)),(nW v),(z_02c_0 i)]):=
 sR (sc:=[(6,.op (.rwB true)),(20,.op (.rwB true)),(6,.op (.idx i)),(0,.op (.ld (nW b))),(0,.op (.rwI (((q+b):Nat):Int))),(11,.op (.idx i)),(0,.op (.ld (nW a))),(1,.op (.rwB true)),(9,.op (.idx i)),(0,.op (.ld (nW a))),(0,.op (.rwI (((a+1000000000):Nat):Int))),(0,.op (.idx i)),(0,.op (.st (ns .u32 (xs.set i (a+1000000000))))),(4,.op (.idx i)),(0,.op (.ld (nW (a+1000000000)))),(1,.op (.rwI (v:Int))),(0,.op (.idx i)),(0,.op (.st (ns .u32 (xs.set i v)))),(4,.op (.rwI (((i+1):Nat):Int))),(3,.stay)]) (fr1:=lose_h_f (xs.set i v) ys n c k e 1 (i+1) [(nW (q+b)),(nI i),(sl 6 k e),(nI k),bT,bT,uu,uu,bT,(nI i),(nI (i+1)),(nW q),(nI i),(sl 6 k e),(nI k),bT,(nW q),(sl 6 k e),(nI i),(.pointer (some ⟨6,i,none⟩)),(nW b),(nW (q+b)),(sl 5 n c),(nI i),(z_02c_0 i),(nW a),(nW (q+b)),bT,(sl 5 n c),(nI i),(z_02c_0 i),(nW a),(nW (a+1000000000)),(z_02c_0 i),(sl 5 n c),(nI i),(z_02c_0 i),(nW (a+1000000000)),(nW (q+b)),(nW v),(z_02c_0 i)]) (next:=7) (l:=lose_h_o (xs.set i v) ys n c k e 1 (i+1)) (by kernel_rfl) (aI (dT (p:=(i:Int)<(k:Int)) (by omega)) (aI (dT (p:=(i:Int)<(k:Int)) (by omega)) (aI (ix (i:Int) (k:Int) 0 1 i (by omega)) (aI hy (aI (wU32 (a:=((q:Int)+(b:Int))) (r:=(((q+b):Nat):Int)) (by omega)) (aI (ix (i:Int) (n:Int) 0 1 i (by omega)) (aI hx (aI (dT (p:=(a:Int)<(((q+b):Nat):Int)) (by omega)) (aI (ix (i:Int) (n:Int) 0 1 i (by omega)) (aI hx (aI (wU32 (a:=((a:Int)+(1000000000:Int))) (r:=(((a+1000000000):Nat):Int)) (by omega)) (aI (ix (i:Int) (n:Int) 0 1 i (by omega)) (aI (show i+1≤(ns .u32 xs).length∧lspl (ns .u32 xs) i [(nW (a+1000000000))]=(ns .u32 (xs.set i (a+1000000000))) from (ns_set (by omega))) (aI (ix (i:Int) (n:Int) 0 1 i (by omega)) (aI (show ((ns .u32 (xs.set i (a+1000000000))):List Value)[i]? =some (nW (a+1000000000)) from (ns_get_set (by omega))) (aI (wU32 (a:=((((a+1000000000):Nat):Int)-(((q+b):Nat):Int))) (r:=(v:Int)) (by omega)) (aI (ix (i:Int) (n:Int) 0 1 i (by omega)) (aI (show i+1≤(ns .u32 (xs.set i (a+1000000000))).length∧lspl (ns .u32 (xs.set i (a+1000000000))) i [(nW v)]=(ns .u32 (xs.set i v)) from (ns_set2 (by omega))) (aI (wI64 (a:=((i:Int)+(1:Int))) (r:=(((i+1):Nat):Int)) (by omega)) tt)))))))))))))))))))
theorem lose_f1(xs ys:List Nat)(n c k e q i a b v:Nat)(j:List Value)(hi:i<k)(hn:i<n)(hc:n≤xs.length)(hm:n<9223372036854775807)(hkm:k<9223372036854775807)(hb:b<1000000000)(ha:a<1000000000)(hq:q≤1)(hx:(ns .u32 xs)[i]? =some (nW a))(hy:(ns .u32 ys)[i]? =some (nW b))(hlt:q+b≤a)(hv:v+(q+b)=a):GT (lose_h xs ys n c k e q i j) (lose_h (xs.set i v) ys n c k e 0 (i+1) [(nW (q+b)),(nI i),(sl 6 k e),(nI k),bT,bT,undef,undef,bT,(nI i),(nI (i+1)),(nW q),(nI i),(sl 6 k e),(nI k),bT,(nW q),(sl 6 k e),(nI i),(.pointer (some ⟨6,i,none⟩)),(nW b),(nW (q+b)),(sl 5 n c),(nI i),(z_02c_0 i),(nW a),(nW (q+b)),bF,(J j 28),(J j 29),(J j 30),(J j 31),(J j 32),(J j 33),(sl 5 n c),(nI i),(z_02c_0 i),(nW a),(nW (q+b)),(nW v),(z_02c_0 i)]):=
 sR (sc:=[(6,.op (.rwB true)),(20,.op (.rwB true)),(6,.op (.idx i)),(0,.op (.ld (nW b))),(0,.op (.rwI (((q+b):Nat):Int))),(11,.op (.idx i)),(0,.op (.ld (nW a))),(1,.op (.rwB false)),(6,.op (.idx i)),(0,.op (.ld (nW a))),(1,.op (.rwI (v:Int))),(0,.op (.idx i)),(0,.op (.st (ns .u32 (xs.set i v)))),(4,.op (.rwI (((i+1):Nat):Int))),(3,.stay)]) (fr1:=lose_h_f (xs.set i v) ys n c k e 0 (i+1) [(nW (q+b)),(nI i),(sl 6 k e),(nI k),bT,bT,uu,uu,bT,(nI i),(nI (i+1)),(nW q),(nI i),(sl 6 k e),(nI k),bT,(nW q),(sl 6 k e),(nI i),(.pointer (some ⟨6,i,none⟩)),(nW b),(nW (q+b)),(sl 5 n c),(nI i),(z_02c_0 i),(nW a),(nW (q+b)),bF,(J j 28),(J j 29),(J j 30),(J j 31),(J j 32),(J j 33),(sl 5 n c),(nI i),(z_02c_0 i),(nW a),(nW (q+b)),(nW v),(z_02c_0 i)]) (next:=7) (l:=lose_h_o (xs.set i v) ys n c k e 0 (i+1)) (by kernel_rfl) (aI (dT (p:=(i:Int)<(k:Int)) (by omega)) (aI (dT (p:=(i:Int)<(k:Int)) (by omega)) (aI (ix (i:Int) (k:Int) 0 1 i (by omega)) (aI hy (aI (wU32 (a:=((q:Int)+(b:Int))) (r:=(((q+b):Nat):Int)) (by omega)) (aI (ix (i:Int) (n:Int) 0 1 i (by omega)) (aI hx (aI (dF (p:=(a:Int)<(((q+b):Nat):Int)) (by omega)) (aI (ix (i:Int) (n:Int) 0 1 i (by omega)) (aI hx (aI (wU32 (a:=((a:Int)-(((q+b):Nat):Int))) (r:=(v:Int)) (by omega)) (aI (ix (i:Int) (n:Int) 0 1 i (by omega)) (aI (show i+1≤(ns .u32 xs).length∧lspl (ns .u32 xs) i [(nW v)]=(ns .u32 (xs.set i v)) from (ns_set (by omega))) (aI (wI64 (a:=((i:Int)+(1:Int))) (r:=(((i+1):Nat):Int)) (by omega)) tt))))))))))))))
theorem lose_t2(xs ys:List Nat)(n c k e q i a v:Nat)(j:List Value)(hi:k≤i)(hn:i<n)(hc:n≤xs.length)(hm:n<9223372036854775807)(hq:q=1)(ha:a<1000000000)(hx:(ns .u32 xs)[i]? =some (nW a))(hlt:a<q)(hv:v+q=a+1000000000):GT (lose_h xs ys n c k e q i j) (lose_h (xs.set i v) ys n c k e 1 (i+1) [(nW q),(nI i),(sl 6 k e),(nI k),bF,bF,(nW q),bT,bT,(nI i),(nI (i+1)),(nW q),(nI i),(sl 6 k e),(nI k),bF,(J j 16),(J j 17),(J j 18),(J j 19),(J j 20),(J j 21),(sl 5 n c),(nI i),(z_02c_0 i),(nW a),(nW q),bT,(sl 5 n c),(nI i),(z_02c_0 i),(nW a),(nW (a+1000000000)),(z_02c_0 i),(sl 5 n c),(nI i),(z_02c_0 i),(nW (a+1000000000)),(nW q),(nW v),(z_02c_0 i)]):=
 sR (sc:=[(6,.op (.rwB false)),(2,.op (.rwB true)),(17,.op (.rwB false)),(12,.op (.idx i)),(0,.op (.ld (nW a))),(1,.op (.rwB true)),(9,.op (.idx i)),(0,.op (.ld (nW a))),(0,.op (.rwI (((a+1000000000):Nat):Int))),(0,.op (.idx i)),(0,.op (.st (ns .u32 (xs.set i (a+1000000000))))),(4,.op (.idx i)),(0,.op (.ld (nW (a+1000000000)))),(1,.op (.rwI (v:Int))),(0,.op (.idx i)),(0,.op (.st (ns .u32 (xs.set i v)))),(4,.op (.rwI (((i+1):Nat):Int))),(3,.stay)]) (fr1:=lose_h_f (xs.set i v) ys n c k e 1 (i+1) [(nW q),(nI i),(sl 6 k e),(nI k),bF,bF,(nW q),bT,bT,(nI i),(nI (i+1)),(nW q),(nI i),(sl 6 k e),(nI k),bF,(J j 16),(J j 17),(J j 18),(J j 19),(J j 20),(J j 21),(sl 5 n c),(nI i),(z_02c_0 i),(nW a),(nW q),bT,(sl 5 n c),(nI i),(z_02c_0 i),(nW a),(nW (a+1000000000)),(z_02c_0 i),(sl 5 n c),(nI i),(z_02c_0 i),(nW (a+1000000000)),(nW q),(nW v),(z_02c_0 i)]) (next:=7) (l:=lose_h_o (xs.set i v) ys n c k e 1 (i+1)) (by kernel_rfl) (aI (dF (p:=(i:Int)<(k:Int)) (by omega)) (aI (dT (p:=(q:Int)>(0:Int)) (by omega)) (aI (dF (p:=(i:Int)<(k:Int)) (by omega)) (aI (ix (i:Int) (n:Int) 0 1 i (by omega)) (aI hx (aI (dT (p:=(a:Int)<(q:Int)) (by omega)) (aI (ix (i:Int) (n:Int) 0 1 i (by omega)) (aI hx (aI (wU32 (a:=((a:Int)+(1000000000:Int))) (r:=(((a+1000000000):Nat):Int)) (by omega)) (aI (ix (i:Int) (n:Int) 0 1 i (by omega)) (aI (show i+1≤(ns .u32 xs).length∧lspl (ns .u32 xs) i [(nW (a+1000000000))]=(ns .u32 (xs.set i (a+1000000000))) from (ns_set (by omega))) (aI (ix (i:Int) (n:Int) 0 1 i (by omega)) (aI (show ((ns .u32 (xs.set i (a+1000000000))):List Value)[i]? =some (nW (a+1000000000)) from (ns_get_set (by omega))) (aI (wU32 (a:=((((a+1000000000):Nat):Int)-(q:Int))) (r:=(v:Int)) (by omega)) (aI (ix (i:Int) (n:Int) 0 1 i (by omega)) (aI (show i+1≤(ns .u32 (xs.set i (a+1000000000))).length∧lspl (ns .u32 (xs.set i (a+1000000000))) i [(nW v)]=(ns .u32 (xs.set i v)) from (ns_set2 (by omega))) (aI (wI64 (a:=((i:Int)+(1:Int))) (r:=(((i+1):Nat):Int)) (by omega)) tt)))))))))))))))))
theorem lose_f2(xs ys:List Nat)(n c k e q i a v:Nat)(j:List Value)(hi:k≤i)(hn:i<n)(hc:n≤xs.length)(hm:n<9223372036854775807)(hq:q=1)(ha:a<1000000000)(hx:(ns .u32 xs)[i]? =some (nW a))(hlt:q≤a)(hv:v+q=a):GT (lose_h xs ys n c k e q i j) (lose_h (xs.set i v) ys n c k e 0 (i+1) [(nW q),(nI i),(sl 6 k e),(nI k),bF,bF,(nW q),bT,bT,(nI i),(nI (i+1)),(nW q),(nI i),(sl 6 k e),(nI k),bF,(J j 16),(J j 17),(J j 18),(J j 19),(J j 20),(J j 21),(sl 5 n c),(nI i),(z_02c_0 i),(nW a),(nW q),bF,(J j 28),(J j 29),(J j 30),(J j 31),(J j 32),(J j 33),(sl 5 n c),(nI i),(z_02c_0 i),(nW a),(nW q),(nW v),(z_02c_0 i)]):=
 sR (sc:=[(6,.op (.rwB false)),(2,.op (.rwB true)),(17,.op (.rwB false)),(12,.op (.idx i)),(0,.op (.ld (nW a))),(1,.op (.rwB false)),(6,.op (.idx i)),(0,.op (.ld (nW a))),(1,.op (.rwI (v:Int))),(0,.op (.idx i)),(0,.op (.st (ns .u32 (xs.set i v)))),(4,.op (.rwI (((i+1):Nat):Int))),(3,.stay)]) (fr1:=lose_h_f (xs.set i v) ys n c k e 0 (i+1) [(nW q),(nI i),(sl 6 k e),(nI k),bF,bF,(nW q),bT,bT,(nI i),(nI (i+1)),(nW q),(nI i),(sl 6 k e),(nI k),bF,(J j 16),(J j 17),(J j 18),(J j 19),(J j 20),(J j 21),(sl 5 n c),(nI i),(z_02c_0 i),(nW a),(nW q),bF,(J j 28),(J j 29),(J j 30),(J j 31),(J j 32),(J j 33),(sl 5 n c),(nI i),(z_02c_0 i),(nW a),(nW q),(nW v),(z_02c_0 i)]) (next:=7) (l:=lose_h_o (xs.set i v) ys n c k e 0 (i+1)) (by kernel_rfl) (aI (dF (p:=(i:Int)<(k:Int)) (by omega)) (aI (dT (p:=(q:Int)>(0:Int)) (by omega)) (aI (dF (p:=(i:Int)<(k:Int)) (by omega)) (aI (ix (i:Int) (n:Int) 0 1 i (by omega)) (aI hx (aI (dF (p:=(a:Int)<(q:Int)) (by omega)) (aI (ix (i:Int) (n:Int) 0 1 i (by omega)) (aI hx (aI (wU32 (a:=((a:Int)-(q:Int))) (r:=(v:Int)) (by omega)) (aI (ix (i:Int) (n:Int) 0 1 i (by omega)) (aI (show i+1≤(ns .u32 xs).length∧lspl (ns .u32 xs) i [(nW v)]=(ns .u32 (xs.set i v)) from (ns_set (by omega))) (aI (wI64 (a:=((i:Int)+(1:Int))) (r:=(((i+1):Nat):Int)) (by omega)) tt))))))))))))
theorem lose_out(xs0 xs ys:List Nat)(n c k e q i:Nat)(j:List Value)(hi:k≤i)(hq:q=0)(hr:GT ⟨Frame.enter Tryz.prog 192 #[(sl 5 n c),(sl 6 k e)] .normal,[],mkH 7 [(5,(cU xs0)),(6,(cU ys))]⟩ (lose_h xs ys n c k e q i j)):CT 192 #[(sl 5 n c),(sl 6 k e)] (mkH 7 [(5,(cU xs0)),(6,(cU ys))]) undef (mkH 7 [(5,(cU xs)),(6,(cU ys))]):=
 sF (sc:=[(6,.op (.rwB false)),(2,.op (.rwB false)),(5,.stay)]) (next:=7) (l:=[(5,(cU xs)),(6,(cU ys))]) (by kernel_rfl) (aI (dF (p:=(i:Int)<(k:Int)) (by omega)) (aI (dF (p:=(q:Int)>(0:Int)) (by omega)) tt)) hr
theorem lose_loop{s0:AS}{ys:List Nat}{n k e D:Nat}(hly:Lim ys)(hk:k≤ys.length)(hkn:k≤n)(hn:n<9223372036854775807):
  ∀(m:Nat) (xs:List Nat) (q i:Nat) (j:List Value),m=n-i→xs.length=n→Lim xs→i≤n→q≤1→D+q*1000000000^i+1000000000^i*val ((ys.take k).drop i)=val xs→
   GT s0 (lose_h xs ys n n k e q i j)→ ∃zs i' j',k≤i'∧zs.length=n∧Lim zs∧D=val zs∧GT s0 (lose_h zs ys n n k e 0 i' j'):=by
 intro m
 induction m with
 |zero=>
  intro xs q i j hm hx hl hi hq hv hr
  have hin:i=n:=by omega
  subst hin
  have hlt:=val_lt hl
  rw[hx]at hlt
  have hq0:q=0:=by
   rcases Nat.eq_zero_or_pos q with h|h
   ·exact h
   ·have h1:q=1:=by omega
    rw[h1,Nat.one_mul]at hv
    omega
  subst hq0
  refine⟨xs,i,j,hkn,hx,hl,?_,hr⟩
  rw[List.drop_eq_nil_of_le (by rw[List.length_take];omega)]at hv
  exact nil_end hv
 |succ m ih=>
  intro xs q i j hm hx hl hi hq hv hr
  have hP:1000000000^(i+1)=1000000000^i*1000000000:=Nat.pow_succ ..
  by_cases hik:i<k
  ·have ha:=hl.get i
   have hb:=hly.get i
   have h2:val ((ys.take k).drop i)=ys.getD i 0+1000000000*val ((ys.take k).drop (i+1)):=by
    rw[val_drop (by rw[List.length_take];omega),getD_take hik]
   rw[h2]at hv
   by_cases hlt:xs.getD i 0<q+ys.getD i 0
   ·obtain⟨v,hvv⟩: ∃v,v+(q+ys.getD i 0)=xs.getD i 0+1000000000:=⟨xs.getD i 0+1000000000-(q+ys.getD i 0),by omega⟩
    have r:=lose_t1 xs ys n n k e q i (xs.getD i 0) (ys.getD i 0) v j hik (by omega) (by omega) hn (by omega) hb ha hq (ns_get (by omega)) (ns_get (by omega)) hlt hvv
    refine ih _ _ _ _ (by omega) (by simpa using hx) (hl.set (by omega)) (by omega) (by omega) ?_ (hr.trans r)
    have h1:=val_set xs i v (by omega)
    rw[hP]
    exact borrow_step hvv h1 hv
   ·obtain⟨v,hvv⟩: ∃v,v+(q+ys.getD i 0)=xs.getD i 0:=⟨xs.getD i 0-(q+ys.getD i 0),by omega⟩
    have r:=lose_f1 xs ys n n k e q i (xs.getD i 0) (ys.getD i 0) v j hik (by omega) (by omega) hn (by omega) hb ha hq (ns_get (by omega)) (ns_get (by omega)) (by omega) hvv
    refine ih _ _ _ _ (by omega) (by simpa using hx) (hl.set (by omega)) (by omega) (by omega) ?_ (hr.trans r)
    have h1:=val_set xs i v (by omega)
    rw[hP]
    exact borrow_not hvv h1 hv
  ·by_cases hq1:q=1
   ·subst hq1
    rw[List.drop_eq_nil_of_le (by rw[List.length_take];omega)]at hv
    have hlt0:=val_lt hl
    rw[hx]at hlt0
    have hv':=nil_one hv
    have hin:i<n:=by
     rcases Nat.lt_or_ge i n with h|h
     ·exact h
     ·have:=pow_le h
      omega
    have ha:=hl.get i
    by_cases hlt:xs.getD i 0<1
    ·obtain⟨v,hvv⟩: ∃v,v+1=xs.getD i 0+1000000000:=⟨xs.getD i 0+999999999,by omega⟩
     have r:=lose_t2 xs ys n n k e 1 i (xs.getD i 0) v j (by omega) hin (by omega) hn rfl ha (ns_get (by omega)) hlt hvv
     refine ih _ _ _ _ (by omega) (by simpa using hx) (hl.set (by omega)) (by omega) (by omega) ?_ (hr.trans r)
     have h1:=val_set xs i v (by omega)
     rw[List.drop_eq_nil_of_le (by rw[List.length_take];omega),hP]
     exact nil_add (borrow_step0 hvv h1 hv')
    ·obtain⟨v,hvv⟩: ∃v,v+1=xs.getD i 0:=⟨xs.getD i 0-1,by omega⟩
     have r:=lose_f2 xs ys n n k e 1 i (xs.getD i 0) v j (by omega) hin (by omega) hn rfl ha (ns_get (by omega)) (by omega) hvv
     refine ih _ _ _ _ (by omega) (by simpa using hx) (hl.set (by omega)) (by omega) (by omega) ?_ (hr.trans r)
     have h1:=val_set xs i v (by omega)
     rw[List.drop_eq_nil_of_le (by rw[List.length_take];omega),hP]
     exact nil_add (borrow_not0 hvv h1 hv')
   ·have hq0:q=0:=by omega
    subst hq0
    refine⟨xs,i,j,by omega,hx,hl,?_,hr⟩
    rw[List.drop_eq_nil_of_le (by rw[List.length_take];omega)]at hv
    exact nil_end hv
theorem lose_c(n0 bx byy:Nat)(xs ys:List Nat)(k e:Nat)(hb:5≤bx∧bx<n0∧5≤byy∧byy<n0∧bx≠byy)(hlx:Lim xs)(hly:Lim ys)(hk:k≤ys.length)(hkn:k≤xs.length)(hn:xs.length<9223372036854775807)
  (hT:val (ys.take k)≤val xs):
  ∃zs,zs.length=xs.length∧Lim zs∧val zs=val xs-val (ys.take k)∧
   FT 192 #[sl bx xs.length xs.length,sl byy k e] n0 [(bx,cU xs),(byy,cU ys)] undef
    [(bx,some (cU zs)),(byy,some (cU ys))] []:=by
 have r:=lose_in xs ys xs.length xs.length k e
 obtain⟨zs,i',j',h1,h2,h3,h4,h5⟩:=lose_loop (D:=val xs-val (ys.take k)) hly hk hkn hn _ xs 0 0 _ rfl rfl hlx (by omega) (by omega) (by simp;omega) r
 have S:=lose_out xs zs ys xs.length xs.length k e 0 i' j' h1 rfl h5
 refine⟨zs,h2,h3,h4.symm,fsp_flat [bx,byy] [cU xs,cU ys] [cU zs,cU ys] [] [] n0 S rfl rfl rfl ?_ ?_ (by omega) ?_ ?_ rfl (by simp) (by simp) rfl rfl rfl⟩
 ·simp[hb.2.2.2.2]
 ·simp;omega
 ·simp[flat,ns_closed]
 ·simp[flat,ns_closed]
theorem minus_o(xs ys:List Nat)(n c k e:Nat)(hc:n≤xs.length)(hk:k≤ys.length)(hn:n<1099511627776)(hkm:k<1099511627776)(zs0:List Nat)(hz:zs0.length=n)(hc1:FT 192 #[(sl 7 n n),(sl 6 k e)] 8 [(7,(.cells (ns .u32 (xs.take n++List.replicate (n-n) 0)) 121 none false)),(6,(cU ys))] undef [(7,some (cU zs0)),(6,some (cU ys))] []):CT 153 #[(sl 5 n c),(sl 6 k e)] (mkH 7 [(5,(cU xs)),(6,(cU ys))]) (sl 7 (top zs0 n) (top zs0 n)) (mkH 8 [(5,(cU xs)),(6,(cU ys)),(7,(cU zs0))]):=
 sF (sc:=[(9,.call [5] (sl 7 n n) [(5,some (cU xs))] [(.cells (ns .u32 (xs.take n++List.replicate (n-n) 0)) 121 none false)]),(6,.call [7,6] uu [(7,some (cU zs0)),(6,some (cU ys))] []),(4,.call [7] (sl 7 (top zs0 n) (top zs0 n)) [(7,some (cU zs0))] []),(3,.stay)]) (next:=8) (l:=[(5,(cU xs)),(6,(cU ys)),(7,(cU zs0))]) (by kernel_rfl) (aI (copied_c 7 5 xs n c n (by omega) (by omega) (by omega) (by omega)) (aI hc1 (aI (trim_c 8 7 zs0 n n (by omega) (by rw[hz];exact Nat.le_refl _) (by omega) (by omega)) tt))) (Gets.refl _)
theorem minus_c(n0 bx byy:Nat)(xs ys:List Nat)(n c k e:Nat)(hb:5≤bx∧bx<n0∧5≤byy∧byy<n0∧bx≠byy)(hlx:Lim xs)(hly:Lim ys)(hc:n≤xs.length)(hk:k≤ys.length)(hn:n<1099511627776)(hkm:k≤n)(hle:val (ys.take k)≤val (xs.take n)):
  ∃zs t,Lim zs∧t≤zs.length∧t≤n∧(0<t→zs.getD (t-1) 0≠0)∧val (zs.take t)=val (xs.take n)-val (ys.take k)∧
   FT 153 #[sl bx n c,sl byy k e] n0 [(bx,cU xs),(byy,cU ys)] (sl n0 t t)
    [(bx,some (cU xs)),(byy,some (cU ys))] [cU zs]:=by
 have hl1:(xs.take n++List.replicate (n-n) 0).length=n:=by rw[List.length_append,List.length_take,List.length_replicate];omega
 have hv1:val (xs.take n++List.replicate (n-n) 0)=val (xs.take n):=by rw[val_append,val_replicate,Nat.mul_zero,Nat.add_zero]
 obtain⟨zs,h1,h2,h3,h4⟩:=lose_c 8 7 6 (xs.take n++List.replicate (n-n) 0) ys k e (by omega) ((hlx.take n).append (Lim.replicate _)) hly hk (by rw[hl1];omega) (by rw[hl1];omega) (by rw[hv1];exact hle)
 rw[hl1]at h1 h4
 have S:=minus_o xs ys n c k e hc hk hn (by omega) zs h1 h4
 have htl:=top_le zs n
 refine⟨zs,top zs n,h2,by rw[h1];exact htl,htl,top_pos zs _,?_,fsp_flat [bx,byy] [cU xs,cU ys] [cU xs,cU ys] [7] [cU zs] n0 S rfl rfl rfl ?_ ?_ (by omega) ?_ ?_ ?_ (by simp) (by simp) rfl rfl rfl⟩
 ·rw[top_val,List.take_of_length_le (by rw[h1];exact Nat.le_refl _),h3,hv1]
 ·simp[hb.2.2.2.2]
 ·simp;omega
 ·simp[flat,ns_closed]
 ·simp[flat,ns_closed]
 ·simp[flat,ns_closed,AObj.ro]
end Go.Proofs.YtbjpjoodjbmicaaGreatDoor
