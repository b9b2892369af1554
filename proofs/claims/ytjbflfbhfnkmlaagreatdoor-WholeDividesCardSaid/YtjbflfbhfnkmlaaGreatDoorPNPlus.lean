import Derived.Test.YtjbflfbhfnkmlaaGreatDoorPLongDiv
import Derived.Test.YtjbflfbhfnkmlaaGreatDoorPNCut
import Derived.Test.YtjbflfbhfnkmlaaGreatDoorLF
import Derived.Test.YtjbflfbhfnkmlaaGreatDoorPGiveBack
import Derived.Test.YtjbflfbhfnkmlaaGreatDoorPTrim
set_option linter.unusedVariables false
set_option linter.unusedSimpArgs false
set_option maxRecDepth 100000
namespace Go.Proofs.YtjbflfbhfnkmlaaGreatDoor
open Go Go.AE Seg
theorem np_ff(xs ys:List Nat)(n c k e:Nat)(zs:List Nat)(t:Nat)(hc1:FT 151 #[(sl 5 n c),(sl 6 k e)] 10 [(5,(cU xs)),(6,(cU ys))] (sl 10 t t) [(5,some (cU xs)),(6,some (cU ys))] [(cU zs)]):CT 114 #[(.agg #[bF,(sl 5 n c)]),(.agg #[bF,(sl 6 k e)])] (Ac 7 [(5,(cU xs)),(6,(cU ys))]) (.agg #[bF,(sl 10 t t)]) (Ac 11 [(5,(cU xs)),(6,(cU ys)),(10,(cU zs))]):=
 sF (sc:=[(17,.drwM [] [⟨6,[5,6],(sl 10 t t),[(5,some (cU xs)),(6,some (cU ys))],[(cU zs)]⟩,⟨7,[10],(.agg #[bF,(sl 10 t t)]),[(10,some (cU zs))],[]⟩]),(1,.stay)]) kr (aI (aI tt (aI tt (aI tt (aI tt (aI tt (aI tt (aI hc1 (aI (Wz 11 10 zs t t om) (aI tt tt))))))))) tt) (Gets.refl _)
theorem np_tt(xs ys:List Nat)(n c k e:Nat)(zs:List Nat)(t:Nat)(ht:0<t)(hc1:FT 151 #[(sl 5 n c),(sl 6 k e)] 10 [(5,(cU xs)),(6,(cU ys))] (sl 10 t t) [(5,some (cU xs)),(6,some (cU ys))] [(cU zs)]):CT 114 #[(.agg #[bT,(sl 5 n c)]),(.agg #[bT,(sl 6 k e)])] (Ac 7 [(5,(cU xs)),(6,(cU ys))]) (.agg #[bT,(sl 10 t t)]) (Ac 11 [(5,(cU xs)),(6,(cU ys)),(10,(cU zs))]):=
 sF (sc:=[(17,.drwM [] [⟨6,[5,6],(sl 10 t t),[(5,some (cU xs)),(6,some (cU ys))],[(cU zs)]⟩,⟨7,[10],(.agg #[bT,(sl 10 t t)]),[(10,some (cU zs))],[]⟩]),(1,.stay)]) kr (aI (aI tt (aI tt (aI tt (aI tt (aI tt (aI tt (aI hc1 (aI (Tz 11 10 zs t t om ht) (aI tt tt))))))))) tt) (Gets.refl _)
theorem np_ftl(xs ys:List Nat)(n c k e:Nat)(q:Int)(hq:q<0)(hc1:FT 152 #[(sl 5 n c),(sl 6 k e)] 10 [(5,(cU xs)),(6,(cU ys))] (.int .i64 q) [(5,some (cU xs)),(6,some (cU ys))] [])(zs:List Nat)(t:Nat)(ht:0<t)(hc3:FT 153 #[(sl 6 k e),(sl 5 n c)] 10 [(6,(cU ys)),(5,(cU xs))] (sl 10 t t) [(6,some (cU ys)),(5,some (cU xs))] [(cU zs)]):CT 114 #[(.agg #[bF,(sl 5 n c)]),(.agg #[bT,(sl 6 k e)])] (Ac 7 [(5,(cU xs)),(6,(cU ys))]) (.agg #[bT,(sl 10 t t)]) (Ac 11 [(5,(cU xs)),(6,(cU ys)),(10,(cU zs))]):=
 sF (sc:=[(24,.call [5,6] (.int .i64 q) [(5,some (cU xs)),(6,some (cU ys))] []),(0,.op (.rwB true)),(9,.drwM [] [⟨6,[6,5],(sl 10 t t),[(6,some (cU ys)),(5,some (cU xs))],[(cU zs)]⟩,⟨7,[10],(.agg #[bT,(sl 10 t t)]),[(10,some (cU zs))],[]⟩]),(1,.stay)]) kr (aI hc1 (aI (dT (p:=q<(0:Int))) (aI (aI tt (aI tt (aI tt (aI tt (aI tt (aI tt (aI hc3 (aI (Tz 11 10 zs t t om ht) (aI tt tt))))))))) tt))) (Gets.refl _)
theorem np_ftg(xs ys:List Nat)(n c k e:Nat)(q:Int)(hq: ¬q<0)(hc1:FT 152 #[(sl 5 n c),(sl 6 k e)] 10 [(5,(cU xs)),(6,(cU ys))] (.int .i64 q) [(5,some (cU xs)),(6,some (cU ys))] [])(zs:List Nat)(t:Nat)(hc3:FT 153 #[(sl 5 n c),(sl 6 k e)] 10 [(5,(cU xs)),(6,(cU ys))] (sl 10 t t) [(5,some (cU xs)),(6,some (cU ys))] [(cU zs)]):CT 114 #[(.agg #[bF,(sl 5 n c)]),(.agg #[bT,(sl 6 k e)])] (Ac 7 [(5,(cU xs)),(6,(cU ys))]) (.agg #[bF,(sl 10 t t)]) (Ac 11 [(5,(cU xs)),(6,(cU ys)),(10,(cU zs))]):=
 sF (sc:=[(24,.call [5,6] (.int .i64 q) [(5,some (cU xs)),(6,some (cU ys))] []),(0,.op (.rwB false)),(4,.drwM [] [⟨6,[5,6],(sl 10 t t),[(5,some (cU xs)),(6,some (cU ys))],[(cU zs)]⟩,⟨7,[10],(.agg #[bF,(sl 10 t t)]),[(10,some (cU zs))],[]⟩]),(1,.stay)]) kr (aI hc1 (aI (dF (p:=q<(0:Int))) (aI (aI tt (aI tt (aI tt (aI tt (aI tt (aI tt (aI hc3 (aI (Wz 11 10 zs t t om) (aI tt tt))))))))) tt))) (Gets.refl _)
theorem np_tfl(xs ys:List Nat)(n c k e:Nat)(q:Int)(hq:q<0)(hc1:FT 152 #[(sl 5 n c),(sl 6 k e)] 10 [(5,(cU xs)),(6,(cU ys))] (.int .i64 q) [(5,some (cU xs)),(6,some (cU ys))] [])(zs:List Nat)(t:Nat)(hc3:FT 153 #[(sl 6 k e),(sl 5 n c)] 10 [(6,(cU ys)),(5,(cU xs))] (sl 10 t t) [(6,some (cU ys)),(5,some (cU xs))] [(cU zs)]):CT 114 #[(.agg #[bT,(sl 5 n c)]),(.agg #[bF,(sl 6 k e)])] (Ac 7 [(5,(cU xs)),(6,(cU ys))]) (.agg #[bF,(sl 10 t t)]) (Ac 11 [(5,(cU xs)),(6,(cU ys)),(10,(cU zs))]):=
 sF (sc:=[(24,.call [5,6] (.int .i64 q) [(5,some (cU xs)),(6,some (cU ys))] []),(0,.op (.rwB true)),(9,.drwM [] [⟨6,[6,5],(sl 10 t t),[(6,some (cU ys)),(5,some (cU xs))],[(cU zs)]⟩,⟨7,[10],(.agg #[bF,(sl 10 t t)]),[(10,some (cU zs))],[]⟩]),(1,.stay)]) kr (aI hc1 (aI (dT (p:=q<(0:Int))) (aI (aI tt (aI tt (aI tt (aI tt (aI tt (aI tt (aI hc3 (aI (Wz 11 10 zs t t om) (aI tt tt))))))))) tt))) (Gets.refl _)
theorem np_tfg(xs ys:List Nat)(n c k e:Nat)(q:Int)(hq: ¬q<0)(hc1:FT 152 #[(sl 5 n c),(sl 6 k e)] 10 [(5,(cU xs)),(6,(cU ys))] (.int .i64 q) [(5,some (cU xs)),(6,some (cU ys))] [])(zs:List Nat)(t:Nat)(ht:0<t)(hc3:FT 153 #[(sl 5 n c),(sl 6 k e)] 10 [(5,(cU xs)),(6,(cU ys))] (sl 10 t t) [(5,some (cU xs)),(6,some (cU ys))] [(cU zs)]):CT 114 #[(.agg #[bT,(sl 5 n c)]),(.agg #[bF,(sl 6 k e)])] (Ac 7 [(5,(cU xs)),(6,(cU ys))]) (.agg #[bT,(sl 10 t t)]) (Ac 11 [(5,(cU xs)),(6,(cU ys)),(10,(cU zs))]):=
 sF (sc:=[(24,.call [5,6] (.int .i64 q) [(5,some (cU xs)),(6,some (cU ys))] []),(0,.op (.rwB false)),(4,.drwM [] [⟨6,[5,6],(sl 10 t t),[(5,some (cU xs)),(6,some (cU ys))],[(cU zs)]⟩,⟨7,[10],(.agg #[bT,(sl 10 t t)]),[(10,some (cU zs))],[]⟩]),(1,.stay)]) kr (aI hc1 (aI (dF (p:=q<(0:Int))) (aI (aI tt (aI tt (aI tt (aI tt (aI tt (aI tt (aI hc3 (aI (Tz 11 10 zs t t om ht) (aI tt tt))))))))) tt))) (Gets.refl _)
theorem np_tfe(xs ys:List Nat)(n c k e:Nat)(q:Int)(hq: ¬q<0)(hc1:FT 152 #[(sl 5 n c),(sl 6 k e)] 10 [(5,(cU xs)),(6,(cU ys))] (.int .i64 q) [(5,some (cU xs)),(6,some (cU ys))] [])(zs:List Nat)(t:Nat)(ht:t=0)(hc3:FT 153 #[(sl 5 n c),(sl 6 k e)] 10 [(5,(cU xs)),(6,(cU ys))] (sl 10 t t) [(5,some (cU xs)),(6,some (cU ys))] [(cU zs)]):CT 114 #[(.agg #[bT,(sl 5 n c)]),(.agg #[bF,(sl 6 k e)])] (Ac 7 [(5,(cU xs)),(6,(cU ys))]) (.agg #[bF,(sl 10 t t)]) (Ac 11 [(5,(cU xs)),(6,(cU ys)),(10,(cU zs))]):=
 sF (sc:=[(24,.call [5,6] (.int .i64 q) [(5,some (cU xs)),(6,some (cU ys))] []),(0,.op (.rwB false)),(4,.drwM [] [⟨6,[5,6],(sl 10 t t),[(5,some (cU xs)),(6,some (cU ys))],[(cU zs)]⟩,⟨7,[10],(.agg #[bF,(sl 10 t t)]),[(10,some (cU zs))],[]⟩]),(1,.stay)]) kr (aI hc1 (aI (dF (p:=q<(0:Int))) (aI (aI tt (aI tt (aI tt (aI tt (aI tt (aI tt (aI hc3 (aI (sg_zc 11 10 zs t t om ht) (aI tt tt))))))))) tt))) (Gets.refl _)
theorem np_c(n0 bx byy:Nat)(xs ys:List Nat)(n c k e:Nat)(sx sy:Bool)(hb:5≤bx∧bx<n0∧5≤byy∧byy<n0∧bx≠byy)(hlx:Lim xs)(hly:Lim ys)(hc:n≤xs.length)(hk:k≤ys.length)(hn:n<1099511627776)(hkm:k<1099511627776)
  (hx:0<n→xs.getD (n-1) 0≠0) (hy:0<k→ys.getD (k-1) 0≠0) (hsx:sx=true→0<n) (hsy:sy=true→0<k):
  ∃sg zs t,Lim zs∧t≤zs.length∧t≤max n k+1∧(0<t→zs.getD (t-1) 0≠0)∧(sg=true→0<t)∧iv sg (val (zs.take t))=iv sx (val (xs.take n))+iv sy (val (ys.take k))∧
   FT 114 #[.agg #[.bool sx,sl bx n c],.agg #[.bool sy,sl byy k e]] n0 [(bx,cU xs),(byy,cU ys)] (.agg #[.bool sg,sl n0 t t])
    [(bx,some (cU xs)),(byy,some (cU ys))] [cU zs]:=by
 cases sx with
 |false=>cases sy with
  |false=>
   obtain⟨zs,t,h1,h2,h3,h4,h5,h6⟩:=plus_c 10 5 6 xs ys n c k e om hlx hly hc hk hn hkm
   exact⟨false,zs,t,h1,h2,by omega,h4,(by intro q;cases q),by simp only[Gc,Ez];omega,ff [bx,byy] [cU xs,cU ys] [cU xs,cU ys] [10] [cU zs] n0 (np_ff xs ys n c k e zs t h6) (hnd:=by simp[hb.2.2.2.2])⟩
  |true=>
   have hq:=cmp_c 10 5 6 xs ys n c k e om hlx hly hc hk hn hkm hx hy
   have hpy:=Rj (hsy rfl) hy
   by_cases hlt:val (xs.take n)<val (ys.take k)
   ·have hle:val (xs.take n)≤val (ys.take k):=by omega
    obtain⟨zs,t,h1,h2,h3,h4,h5,h6⟩:=minus_c 10 6 5 ys xs k e n c om hly hlx hk hc hkm (Lw hly hk hx hle) hle
    have ht:0<t:=len_pos (zs:=zs) om
    exact⟨true,zs,t,h1,h2,by omega,h4,(fun _=>ht),by simp only[Gc,Ez];omega,ff [bx,byy] [cU xs,cU ys] [cU xs,cU ys] [10] [cU zs] n0 (np_ftl xs ys n c k e _ (Hv.2 hlt) hq zs t ht h6) (hnd:=by simp[hb.2.2.2.2])⟩
   ·have hle:val (ys.take k)≤val (xs.take n):=by omega
    obtain⟨zs,t,h1,h2,h3,h4,h5,h6⟩:=minus_c 10 5 6 xs ys n c k e om hlx hly hc hk hn (Lw hlx hc hy hle) hle
    exact⟨false,zs,t,h1,h2,by omega,h4,(by intro q;cases q),by simp only[Gc,Ez];omega,ff [bx,byy] [cU xs,cU ys] [cU xs,cU ys] [10] [cU zs] n0 (np_ftg xs ys n c k e _ (fun h=>hlt (Hv.1 h)) hq zs t h6) (hnd:=by simp[hb.2.2.2.2])⟩
 |true=>cases sy with
  |true=>
   have hpx:=Rj (hsx rfl) hx
   obtain⟨zs,t,h1,h2,h3,h4,h5,h6⟩:=plus_c 10 5 6 xs ys n c k e om hlx hly hc hk hn hkm
   have ht:0<t:=len_pos (zs:=zs) om
   exact⟨true,zs,t,h1,h2,by omega,h4,(fun _=>ht),by simp only[Gc,Ez];omega,ff [bx,byy] [cU xs,cU ys] [cU xs,cU ys] [10] [cU zs] n0 (np_tt xs ys n c k e zs t ht h6) (hnd:=by simp[hb.2.2.2.2])⟩
  |false=>
   have hq:=cmp_c 10 5 6 xs ys n c k e om hlx hly hc hk hn hkm hx hy
   have hpx:=Rj (hsx rfl) hx
   by_cases hlt:val (xs.take n)<val (ys.take k)
   ·have hle:val (xs.take n)≤val (ys.take k):=by omega
    obtain⟨zs,t,h1,h2,h3,h4,h5,h6⟩:=minus_c 10 6 5 ys xs k e n c om hly hlx hk hc hkm (Lw hly hk hx hle) hle
    exact⟨false,zs,t,h1,h2,by omega,h4,(by intro q;cases q),by simp only[Gc,Ez];omega,ff [bx,byy] [cU xs,cU ys] [cU xs,cU ys] [10] [cU zs] n0 (np_tfl xs ys n c k e _ (Hv.2 hlt) hq zs t h6) (hnd:=by simp[hb.2.2.2.2])⟩
   ·have hle:val (ys.take k)≤val (xs.take n):=by omega
    obtain⟨zs,t,h1,h2,h3,h4,h5,h6⟩:=minus_c 10 5 6 xs ys n c k e om hlx hly hc hk hn (Lw hlx hc hy hle) hle
    rcases Nat.eq_zero_or_pos t with ht|ht
    ·have h0:val (zs.take t)=0:=by rw[ht];rfl
     exact⟨false,zs,t,h1,h2,by omega,h4,(by intro q;cases q),by simp only[Gc,Ez];omega,ff [bx,byy] [cU xs,cU ys] [cU xs,cU ys] [10] [cU zs] n0 (np_tfe xs ys n c k e _ (fun h=>hlt (Hv.1 h)) hq zs t ht h6) (hnd:=by simp[hb.2.2.2.2])⟩
    ·exact⟨true,zs,t,h1,h2,by omega,h4,(fun _=>ht),by simp only[Gc,Ez];omega,ff [bx,byy] [cU xs,cU ys] [cU xs,cU ys] [10] [cU zs] n0 (np_tfg xs ys n c k e _ (fun h=>hlt (Hv.1 h)) hq zs t ht h6) (hnd:=by simp[hb.2.2.2.2])⟩
noncomputable section
abbrev z_52d_0:AObj:=cU (([1]).take 1++List.replicate (1-1) 0)
end
theorem take_one:([1]:List Nat).take 1++List.replicate (1-1) 0=[1]:=by decide
theorem trim_one(n0 b:Nat)(hb:5≤b∧b<n0):FT 156 #[sl b 1 1] n0 [(b,cU (List.take 1 [1]++List.replicate (1-1) 0))] (sl b 1 1) [(b,some (cU (List.take 1 [1]++List.replicate (1-1) 0)))] []:=by
 rw[show (List.take 1 [1]++List.replicate (1-1) 0:List Nat)=[1] from take_one]
 exact Uq n0 b [1] 1 1 hb de de de
theorem mn_1:CT 153 #[(sl 5 1 1),nS] (Ac 6 [(5,(cU ([1])))]) (sl 6 1 1) (Ac 7 [(5,(cU ([1]))),(6,z_52d_0)]):=
 sF (sc:=[(9,.call [5] (sl 6 1 1) [(5,some (cU ([1])))] [z_52d_0]),(37,.call [6] (sl 6 1 1) [(6,some z_52d_0)] []),(3,.stay)]) kr (aI (Sp 6 5 [1] 1 1 1 om de de de) (aI (trim_one 7 6 om) tt)) (Gets.refl _)
theorem mn_1c(n0 b:Nat)(hb:5≤b∧b<n0):FT 153 #[sl b 1 1,.slice none 0 0] n0 [(b,.cells (ns .u32 [1]) 121 none false)] (sl n0 1 1) [(b,some (.cells (ns .u32 [1]) 121 none false))] [.cells (ns .u32 [1]) 121 none false]:=
 ff [b] [.cells (ns .u32 [1]) 121 none false] [.cells (ns .u32 [1]) 121 none false] [6] [.cells (ns .u32 [1]) 121 none false] n0 (mn_1)
theorem pn_1:CT 114 #[(.agg #[bF,nS]),(.agg #[bT,(sl 5 1 1)])] (Ac 6 [(5,(cU ([1])))]) (.agg #[bT,(sl 9 1 1)]) (Ac 10 [(5,(cU ([1]))),(9,(cU ([1])))]):=
 sF (sc:=[(130,.drwM [] [⟨6,[5],(sl 9 1 1),[(5,some (cU ([1])))],[(cU ([1]))]⟩,⟨7,[9],(.agg #[bT,(sl 9 1 1)]),[(9,some (cU ([1])))],[]⟩]),(1,.stay)]) kr (aI (aI tt (aI tt (aI tt (aI tt (aI tt (aI tt (aI (mn_1c 9 5 om) (aI (Tz 10 9 [1] 1 1 om de) (aI tt tt))))))))) tt) (Gets.refl _)
theorem pn_1c(n0 b:Nat)(hb:5≤b∧b<n0):FT 114 #[.agg #[.bool false,.slice none 0 0],.agg #[.bool true,sl b 1 1]] n0 [(b,.cells (ns .u32 [1]) 121 none false)] (.agg #[.bool true,sl n0 1 1]) [(b,some (.cells (ns .u32 [1]) 121 none false))] [.cells (ns .u32 [1]) 121 none false]:=
 ff [b] [.cells (ns .u32 [1]) 121 none false] [.cells (ns .u32 [1]) 121 none false] [9] [.cells (ns .u32 [1]) 121 none false] n0 (pn_1)
theorem mi_1:CT 113 #[(.agg #[bF,nS]),(.agg #[bF,(sl 5 1 1)])] (Ac 6 [(5,(cU ([1])))]) (.agg #[bT,(sl 9 1 1)]) (Ac 10 [(5,(cU ([1]))),(9,(cU ([1])))]):=
 sF (sc:=[(7,.drwM [] [⟨2,[5],(.agg #[bT,(sl 5 1 1)]),[(5,some (cU ([1])))],[]⟩,⟨3,[5],(.agg #[bT,(sl 9 1 1)]),[(5,some (cU ([1])))],[(cU ([1]))]⟩]),(1,.stay)]) kr (aI (aI tt (aI tt (aI (ng_fc 9 5 [1] 1 1 om de) (aI (pn_1c 9 5 om) (aI tt tt))))) tt) (Gets.refl _)
theorem mi_1c(n0 b:Nat)(hb:5≤b∧b<n0):FT 113 #[.agg #[.bool false,.slice none 0 0],.agg #[.bool false,sl b 1 1]] n0 [(b,.cells (ns .u32 [1]) 121 none false)] (.agg #[.bool true,sl n0 1 1]) [(b,some (.cells (ns .u32 [1]) 121 none false))] [.cells (ns .u32 [1]) 121 none false]:=
 ff [b] [.cells (ns .u32 [1]) 121 none false] [.cells (ns .u32 [1]) 121 none false] [9] [.cells (ns .u32 [1]) 121 none false] n0 (mi_1)
theorem mi_x(xs:List Nat)(n c:Nat)(sx:Bool)(sg:Bool)(zs:List Nat)(t:Nat)(hc1:(FT 114 #[(.agg #[(.bool sx),(sl 5 n c)]),(.agg #[bT,(sl 6 1 1)])] 10 [(5,(cU xs)),(6,(cU ([1])))] (.agg #[(.bool sg),(sl 10 t t)]) [(5,some (cU xs)),(6,some (cU ([1])))] [(cU zs)])):CT 113 #[(.agg #[(.bool sx),(sl 5 n c)]),(.agg #[bF,(sl 6 1 1)])] (Ac 7 [(5,(cU xs)),(6,(cU ([1])))]) (.agg #[(.bool sg),(sl 10 t t)]) (Ac 11 [(5,(cU xs)),(6,(cU ([1]))),(10,(cU zs))]):=
 sF (sc:=[(7,.drwM [] [⟨2,[6],(.agg #[bT,(sl 6 1 1)]),[(6,some (cU ([1])))],[]⟩,⟨3,[5,6],(.agg #[(.bool sg),(sl 10 t t)]),[(5,some (cU xs)),(6,some (cU ([1])))],[(cU zs)]⟩]),(1,.stay)]) kr (aI (aI tt (aI tt (aI (ng_fc 10 6 [1] 1 1 om de) (aI hc1 (aI tt tt))))) tt) (Gets.refl _)
theorem one_val:val ([1].take 1)=1:=by decide
theorem mi_c(n0 bx byy:Nat)(xs:List Nat)(n c:Nat)(sx:Bool)(hb:5≤bx∧bx<n0∧5≤byy∧byy<n0∧bx≠byy)(hlx:Lim xs)(hc:n≤xs.length)(hn:n<1099511627776)(hx:0<n→xs.getD (n-1) 0≠0)(hsx:sx=true→0<n):
  ∃sg zs t,Lim zs∧t≤zs.length∧t≤n+2∧(0<t→zs.getD (t-1) 0≠0)∧(sg=true→0<t)∧iv sg (val (zs.take t))=iv sx (val (xs.take n))-1∧
   FT 113 #[.agg #[.bool sx,sl bx n c],.agg #[.bool false,sl byy 1 1]] n0 [(bx,cU xs),(byy,.cells (ns .u32 [1]) 121 none false)] (.agg #[.bool sg,sl n0 t t]) [(bx,some (cU xs)),(byy,some (.cells (ns .u32 [1]) 121 none false))] [cU zs]:=by
 obtain⟨sg,zs,t,h1,h2,h3,h4,h5,h6,h7⟩:=np_c 10 5 6 xs [1] n c 1 1 sx true om hlx (by intro z hz;simp at hz;omega) hc de hn de hx (by intro _;decide) hsx (by intro _;decide)
 refine⟨sg,zs,t,h1,h2,by omega,h4,h5,?_,ff [bx,byy] [cU xs,.cells (ns .u32 [1]) 121 none false] [cU xs,.cells (ns .u32 [1]) 121 none false] [10] [cU zs] n0 (mi_x xs n c sx sg zs t h7) (hnd:=by simp[hb.2.2.2.2])⟩
 rw[h6,one_val,Ez]
 omega
end Go.Proofs.YtjbflfbhfnkmlaaGreatDoor
