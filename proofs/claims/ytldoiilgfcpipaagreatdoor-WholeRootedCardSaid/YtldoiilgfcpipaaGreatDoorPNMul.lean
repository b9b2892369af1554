import Derived.Test.YtldoiilgfcpipaaGreatDoorPCnt
import Derived.Test.YtldoiilgfcpipaaGreatDoorPPlusNil
import Derived.Test.YtldoiilgfcpipaaGreatDoorPRPlusN
import Derived.Test.YtldoiilgfcpipaaGreatDoorLF
import Derived.Test.YtldoiilgfcpipaaGreatDoorLE
import Derived.Test.YtldoiilgfcpipaaGreatDoorPNatFrom
set_option linter.unusedVariables false
set_option linter.unusedSimpArgs false
set_option maxRecDepth 100000
namespace Go.Proofs.YtldoiilgfcpipaaGreatDoor
open Go Go.AE Seg
noncomputable section
abbrev z_ad8_17(n c k e:Nat):AObj:=.cells [(sl 5 n c),(sl 6 k e)] 75 none false
abbrev z_ad8_0(n c k e t:Nat)(xs ys zs:List Nat):Prop:=FT 179 #[(sl 10 2 2)] 11 [(10,(z_ad8_17 n c k e)),(5,(cU xs)),(6,(cU ys))] (sl 11 t t) [(10,some (z_ad8_17 n c k e)),(5,some (cU xs)),(6,some (cU ys))] [(cU zs)]
abbrev z_ad8_1(n c:Nat):AObj:=.cells [bF,(sl 5 n c)] 77 none false
abbrev z_ad8_2(k e:Nat):AObj:=.cells [bF,(sl 6 k e)] 77 none false
abbrev z_ad8_3(n c:Nat):AObj:=.cells [bT,(sl 5 n c)] 77 none false
abbrev z_ad8_4(k e:Nat):AObj:=.cells [bT,(sl 6 k e)] 77 none false
abbrev z_ad8_18:Value:=.pointer (some ⟨7,1,none⟩)
abbrev z_ad8_19:Value:=.pointer (some ⟨8,1,none⟩)
abbrev z_ad8_5(n c k e t:Nat):Array Value:= #[(.agg #[bF,(sl 5 n c)]),(.agg #[bF,(sl 6 k e)]),(pt 7),(pt 8),(pt 9),(pt 7),bF,(pt 8),bF,bF,z_ad8_18,(sl 5 n c),z_ad8_19,(sl 6 k e),(sl 10 2 2),(sl 11 t t),(.agg #[bF,(sl 11 t t)])]
abbrev z_ad8_6(n c k e t:Nat):Array Value:= #[(.agg #[bT,(sl 5 n c)]),(.agg #[bT,(sl 6 k e)]),(pt 7),(pt 8),(pt 9),(pt 7),bT,(pt 8),bT,bF,z_ad8_18,(sl 5 n c),z_ad8_19,(sl 6 k e),(sl 10 2 2),(sl 11 t t),(.agg #[bF,(sl 11 t t)])]
abbrev z_ad8_7(n c k e t:Nat):Array Value:= #[(.agg #[bF,(sl 5 n c)]),(.agg #[bT,(sl 6 k e)]),(pt 7),(pt 8),(pt 9),(pt 7),bF,(pt 8),bT,bT,z_ad8_18,(sl 5 n c),z_ad8_19,(sl 6 k e),(sl 10 2 2),(sl 11 t t),(.agg #[bT,(sl 11 t t)])]
abbrev z_ad8_8(n c k e t:Nat):Array Value:= #[(.agg #[bF,(sl 5 n c)]),(.agg #[bT,(sl 6 k e)]),(pt 7),(pt 8),(pt 9),(pt 7),bF,(pt 8),bT,bT,z_ad8_18,(sl 5 n c),z_ad8_19,(sl 6 k e),(sl 10 2 2),(sl 11 t t),(.agg #[bF,(sl 11 t t)])]
abbrev z_ad8_9(n c k e t:Nat):Array Value:= #[(.agg #[bT,(sl 5 n c)]),(.agg #[bF,(sl 6 k e)]),(pt 7),(pt 8),(pt 9),(pt 7),bT,(pt 8),bF,bT,z_ad8_18,(sl 5 n c),z_ad8_19,(sl 6 k e),(sl 10 2 2),(sl 11 t t),(.agg #[bT,(sl 11 t t)])]
abbrev z_ad8_10(n c k e t:Nat):Array Value:= #[(.agg #[bT,(sl 5 n c)]),(.agg #[bF,(sl 6 k e)]),(pt 7),(pt 8),(pt 9),(pt 7),bT,(pt 8),bF,bT,z_ad8_18,(sl 5 n c),z_ad8_19,(sl 6 k e),(sl 10 2 2),(sl 11 t t),(.agg #[bF,(sl 11 t t)])]
abbrev z_ad8_11(t:Nat):AObj:=.cells [bF,(sl 11 t t)] 77 none false
abbrev z_ad8_12(xs ys zs:List Nat):List (Nat×AObj):=[(5,(cU xs)),(6,(cU ys)),(11,(cU zs))]
abbrev z_ad8_13(t:Nat)(zs:List Nat):Prop:=FT 117 #[bF,(sl 11 t t)] 12 [(11,(cU zs))] (.agg #[bF,(sl 11 t t)]) [(11,some (cU zs))] []
abbrev z_ad8_14(t:Nat)(zs:List Nat):Prop:=FT 117 #[bT,(sl 11 t t)] 12 [(11,(cU zs))] (.agg #[bT,(sl 11 t t)]) [(11,some (cU zs))] []
abbrev z_ad8_15(t:Nat)(zs:List Nat):Prop:=FT 117 #[bT,(sl 11 t t)] 12 [(11,(cU zs))] (.agg #[bF,(sl 11 t t)]) [(11,some (cU zs))] []
abbrev z_ad8_16(t:Nat):AObj:=.cells [bT,(sl 11 t t)] 77 none false
end
theorem ntff(xs ys:List Nat)(n c k e:Nat)(zs:List Nat)(t:Nat)(hc1:(z_ad8_0 n c k e t xs ys zs)):CT 164 #[(.agg #[bF,(sl 5 n c)]),(.agg #[bF,(sl 6 k e)])] (mkH 7 [(5,(cU xs)),(6,(cU ys))]) (.agg #[bF,(sl 11 t t)]) (mkH 12 (z_ad8_12 xs ys zs)):=
 sF (sc:=[(7,.drwB [] [⟨4,[],bF,[],[]⟩,⟨10,[10,5,6],(sl 11 t t),[(10,some (z_ad8_17 n c k e)),(5,some (cU xs)),(6,some (cU ys))],[(cU zs)]⟩,⟨11,[11],(.agg #[bF,(sl 11 t t)]),[(11,some (cU zs))],[]⟩] ⟨(z_ad8_5 n c k e t),12,[(5,(cU xs)),(6,(cU ys)),(7,(z_ad8_1 n c)),(8,(z_ad8_2 k e)),(9,(z_ad8_11 t)),(10,(z_ad8_17 n c k e)),(11,(cU zs))]⟩),(1,.stay)]) (by kernel_rfl) (aI (show True∧(True∧(True∧(True∧(True∧(True∧(True∧(True∧(((FT 118 #[bF,bF] 10 [] bF [] [])∧(((some (z_ad8_2 k e):Option AObj)=some (z_ad8_2 k e))∧(((some (z_ad8_1 n c):Option AObj)=some (z_ad8_1 n c))∧(True)))∧(((True)∧(True)∧(((z_ad8_0 n c k e t xs ys zs)∧(True)∧(((z_ad8_13 t zs)∧(True)∧(((True)∧(True)∧(endT ⟨(z_ad8_5 n c k e t),12,[(5,(cU xs)),(6,(cU ys)),(7,(z_ad8_1 n c)),(8,(z_ad8_2 k e)),(9,(z_ad8_11 t)),(10,(z_ad8_17 n c k e)),(11,(cU zs))]⟩))∧(True)))∧(True)))∧(True)))∧(True)))∧(((True)∧(((some (z_ad8_2 k e):Option AObj)=some (z_ad8_2 k e))∧(((some (z_ad8_1 n c):Option AObj)=some (z_ad8_1 n c))∧(True)))∧(((FT 118 #[bF,bF] 11 [] bF [] [])∧(True)∧(((z_ad8_0 n c k e t xs ys zs)∧(True)∧(((z_ad8_13 t zs)∧(True)∧(((True)∧(True)∧(endT ⟨(z_ad8_5 n c k e t),12,[(5,(cU xs)),(6,(cU ys)),(7,(z_ad8_1 n c)),(8,(z_ad8_2 k e)),(9,(z_ad8_11 t)),(10,(z_ad8_17 n c k e)),(11,(cU zs))]⟩))∧(True)))∧(True)))∧(True)))∧(True)))∧(True)))))))))) from⟨tt,⟨tt,⟨tt,⟨tt,⟨tt,⟨tt,⟨tt,⟨tt,⟨⟨(wi_ffc 10 (by omega)),⟨rfl,⟨rfl,tt⟩⟩,⟨⟨tt,tt,⟨⟨hc1,tt,⟨⟨(sg_fc 12 11 zs t t (by omega)),tt,⟨⟨tt,tt,rfl⟩,tt⟩⟩,tt⟩⟩,tt⟩⟩,tt⟩⟩,⟨⟨tt,⟨rfl,⟨rfl,tt⟩⟩,⟨⟨(wi_ffc 11 (by omega)),tt,⟨⟨hc1,tt,⟨⟨(sg_fc 12 11 zs t t (by omega)),tt,⟨⟨tt,tt,rfl⟩,tt⟩⟩,tt⟩⟩,tt⟩⟩,tt⟩⟩,tt⟩⟩⟩⟩⟩⟩⟩⟩⟩⟩) tt) (Gets.refl _)
theorem nttt(xs ys:List Nat)(n c k e:Nat)(zs:List Nat)(t:Nat)(hc1:(z_ad8_0 n c k e t xs ys zs)):CT 164 #[(.agg #[bT,(sl 5 n c)]),(.agg #[bT,(sl 6 k e)])] (mkH 7 [(5,(cU xs)),(6,(cU ys))]) (.agg #[bF,(sl 11 t t)]) (mkH 12 (z_ad8_12 xs ys zs)):=
 sF (sc:=[(7,.drwB [] [⟨4,[],bF,[],[]⟩,⟨10,[10,5,6],(sl 11 t t),[(10,some (z_ad8_17 n c k e)),(5,some (cU xs)),(6,some (cU ys))],[(cU zs)]⟩,⟨11,[11],(.agg #[bF,(sl 11 t t)]),[(11,some (cU zs))],[]⟩] ⟨(z_ad8_6 n c k e t),12,[(5,(cU xs)),(6,(cU ys)),(7,(z_ad8_3 n c)),(8,(z_ad8_4 k e)),(9,(z_ad8_11 t)),(10,(z_ad8_17 n c k e)),(11,(cU zs))]⟩),(1,.stay)]) (by kernel_rfl) (aI (show True∧(True∧(True∧(True∧(True∧(True∧(True∧(True∧(((FT 118 #[bT,bT] 10 [] bF [] [])∧(((some (z_ad8_4 k e):Option AObj)=some (z_ad8_4 k e))∧(((some (z_ad8_3 n c):Option AObj)=some (z_ad8_3 n c))∧(True)))∧(((True)∧(True)∧(((z_ad8_0 n c k e t xs ys zs)∧(True)∧(((z_ad8_13 t zs)∧(True)∧(((True)∧(True)∧(endT ⟨(z_ad8_6 n c k e t),12,[(5,(cU xs)),(6,(cU ys)),(7,(z_ad8_3 n c)),(8,(z_ad8_4 k e)),(9,(z_ad8_11 t)),(10,(z_ad8_17 n c k e)),(11,(cU zs))]⟩))∧(True)))∧(True)))∧(True)))∧(True)))∧(((True)∧(((some (z_ad8_4 k e):Option AObj)=some (z_ad8_4 k e))∧(((some (z_ad8_3 n c):Option AObj)=some (z_ad8_3 n c))∧(True)))∧(((FT 118 #[bT,bT] 11 [] bF [] [])∧(True)∧(((z_ad8_0 n c k e t xs ys zs)∧(True)∧(((z_ad8_13 t zs)∧(True)∧(((True)∧(True)∧(endT ⟨(z_ad8_6 n c k e t),12,[(5,(cU xs)),(6,(cU ys)),(7,(z_ad8_3 n c)),(8,(z_ad8_4 k e)),(9,(z_ad8_11 t)),(10,(z_ad8_17 n c k e)),(11,(cU zs))]⟩))∧(True)))∧(True)))∧(True)))∧(True)))∧(True)))))))))) from⟨tt,⟨tt,⟨tt,⟨tt,⟨tt,⟨tt,⟨tt,⟨tt,⟨⟨(wi_ttc 10 (by omega)),⟨rfl,⟨rfl,tt⟩⟩,⟨⟨tt,tt,⟨⟨hc1,tt,⟨⟨(sg_fc 12 11 zs t t (by omega)),tt,⟨⟨tt,tt,rfl⟩,tt⟩⟩,tt⟩⟩,tt⟩⟩,tt⟩⟩,⟨⟨tt,⟨rfl,⟨rfl,tt⟩⟩,⟨⟨(wi_ttc 11 (by omega)),tt,⟨⟨hc1,tt,⟨⟨(sg_fc 12 11 zs t t (by omega)),tt,⟨⟨tt,tt,rfl⟩,tt⟩⟩,tt⟩⟩,tt⟩⟩,tt⟩⟩,tt⟩⟩⟩⟩⟩⟩⟩⟩⟩⟩) tt) (Gets.refl _)
theorem ntftp(xs ys:List Nat)(n c k e:Nat)(zs:List Nat)(t:Nat)(ht:0<t)(hc1:(z_ad8_0 n c k e t xs ys zs)):CT 164 #[(.agg #[bF,(sl 5 n c)]),(.agg #[bT,(sl 6 k e)])] (mkH 7 [(5,(cU xs)),(6,(cU ys))]) (.agg #[bT,(sl 11 t t)]) (mkH 12 (z_ad8_12 xs ys zs)):=
 sF (sc:=[(7,.drwB [] [⟨4,[],bT,[],[]⟩,⟨10,[10,5,6],(sl 11 t t),[(10,some (z_ad8_17 n c k e)),(5,some (cU xs)),(6,some (cU ys))],[(cU zs)]⟩,⟨11,[11],(.agg #[bT,(sl 11 t t)]),[(11,some (cU zs))],[]⟩] ⟨(z_ad8_7 n c k e t),12,[(5,(cU xs)),(6,(cU ys)),(7,(z_ad8_1 n c)),(8,(z_ad8_4 k e)),(9,(z_ad8_16 t)),(10,(z_ad8_17 n c k e)),(11,(cU zs))]⟩),(1,.stay)]) (by kernel_rfl) (aI (show True∧(True∧(True∧(True∧(True∧(True∧(True∧(True∧(((FT 118 #[bF,bT] 10 [] bT [] [])∧(((some (z_ad8_4 k e):Option AObj)=some (z_ad8_4 k e))∧(((some (z_ad8_1 n c):Option AObj)=some (z_ad8_1 n c))∧(True)))∧(((True)∧(True)∧(((z_ad8_0 n c k e t xs ys zs)∧(True)∧(((z_ad8_14 t zs)∧(True)∧(((True)∧(True)∧(endT ⟨(z_ad8_7 n c k e t),12,[(5,(cU xs)),(6,(cU ys)),(7,(z_ad8_1 n c)),(8,(z_ad8_4 k e)),(9,(z_ad8_16 t)),(10,(z_ad8_17 n c k e)),(11,(cU zs))]⟩))∧(True)))∧(True)))∧(True)))∧(True)))∧(((True)∧(((some (z_ad8_4 k e):Option AObj)=some (z_ad8_4 k e))∧(((some (z_ad8_1 n c):Option AObj)=some (z_ad8_1 n c))∧(True)))∧(((FT 118 #[bF,bT] 11 [] bT [] [])∧(True)∧(((z_ad8_0 n c k e t xs ys zs)∧(True)∧(((z_ad8_14 t zs)∧(True)∧(((True)∧(True)∧(endT ⟨(z_ad8_7 n c k e t),12,[(5,(cU xs)),(6,(cU ys)),(7,(z_ad8_1 n c)),(8,(z_ad8_4 k e)),(9,(z_ad8_16 t)),(10,(z_ad8_17 n c k e)),(11,(cU zs))]⟩))∧(True)))∧(True)))∧(True)))∧(True)))∧(True)))))))))) from⟨tt,⟨tt,⟨tt,⟨tt,⟨tt,⟨tt,⟨tt,⟨tt,⟨⟨(wi_ftc 10 (by omega)),⟨rfl,⟨rfl,tt⟩⟩,⟨⟨tt,tt,⟨⟨hc1,tt,⟨⟨(sg_tc 12 11 zs t t (by omega) ht),tt,⟨⟨tt,tt,rfl⟩,tt⟩⟩,tt⟩⟩,tt⟩⟩,tt⟩⟩,⟨⟨tt,⟨rfl,⟨rfl,tt⟩⟩,⟨⟨(wi_ftc 11 (by omega)),tt,⟨⟨hc1,tt,⟨⟨(sg_tc 12 11 zs t t (by omega) ht),tt,⟨⟨tt,tt,rfl⟩,tt⟩⟩,tt⟩⟩,tt⟩⟩,tt⟩⟩,tt⟩⟩⟩⟩⟩⟩⟩⟩⟩⟩) tt) (Gets.refl _)
theorem ntftz(xs ys:List Nat)(n c k e:Nat)(zs:List Nat)(t:Nat)(ht:t=0)(hc1:(z_ad8_0 n c k e t xs ys zs)):CT 164 #[(.agg #[bF,(sl 5 n c)]),(.agg #[bT,(sl 6 k e)])] (mkH 7 [(5,(cU xs)),(6,(cU ys))]) (.agg #[bF,(sl 11 t t)]) (mkH 12 (z_ad8_12 xs ys zs)):=
 sF (sc:=[(7,.drwB [] [⟨4,[],bT,[],[]⟩,⟨10,[10,5,6],(sl 11 t t),[(10,some (z_ad8_17 n c k e)),(5,some (cU xs)),(6,some (cU ys))],[(cU zs)]⟩,⟨11,[11],(.agg #[bF,(sl 11 t t)]),[(11,some (cU zs))],[]⟩] ⟨(z_ad8_8 n c k e t),12,[(5,(cU xs)),(6,(cU ys)),(7,(z_ad8_1 n c)),(8,(z_ad8_4 k e)),(9,(z_ad8_11 t)),(10,(z_ad8_17 n c k e)),(11,(cU zs))]⟩),(1,.stay)]) (by kernel_rfl) (aI (show True∧(True∧(True∧(True∧(True∧(True∧(True∧(True∧(((FT 118 #[bF,bT] 10 [] bT [] [])∧(((some (z_ad8_4 k e):Option AObj)=some (z_ad8_4 k e))∧(((some (z_ad8_1 n c):Option AObj)=some (z_ad8_1 n c))∧(True)))∧(((True)∧(True)∧(((z_ad8_0 n c k e t xs ys zs)∧(True)∧(((z_ad8_15 t zs)∧(True)∧(((True)∧(True)∧(endT ⟨(z_ad8_8 n c k e t),12,[(5,(cU xs)),(6,(cU ys)),(7,(z_ad8_1 n c)),(8,(z_ad8_4 k e)),(9,(z_ad8_11 t)),(10,(z_ad8_17 n c k e)),(11,(cU zs))]⟩))∧(True)))∧(True)))∧(True)))∧(True)))∧(((True)∧(((some (z_ad8_4 k e):Option AObj)=some (z_ad8_4 k e))∧(((some (z_ad8_1 n c):Option AObj)=some (z_ad8_1 n c))∧(True)))∧(((FT 118 #[bF,bT] 11 [] bT [] [])∧(True)∧(((z_ad8_0 n c k e t xs ys zs)∧(True)∧(((z_ad8_15 t zs)∧(True)∧(((True)∧(True)∧(endT ⟨(z_ad8_8 n c k e t),12,[(5,(cU xs)),(6,(cU ys)),(7,(z_ad8_1 n c)),(8,(z_ad8_4 k e)),(9,(z_ad8_11 t)),(10,(z_ad8_17 n c k e)),(11,(cU zs))]⟩))∧(True)))∧(True)))∧(True)))∧(True)))∧(True)))))))))) from⟨tt,⟨tt,⟨tt,⟨tt,⟨tt,⟨tt,⟨tt,⟨tt,⟨⟨(wi_ftc 10 (by omega)),⟨rfl,⟨rfl,tt⟩⟩,⟨⟨tt,tt,⟨⟨hc1,tt,⟨⟨(sg_zc 12 11 zs t t (by omega) ht),tt,⟨⟨tt,tt,rfl⟩,tt⟩⟩,tt⟩⟩,tt⟩⟩,tt⟩⟩,⟨⟨tt,⟨rfl,⟨rfl,tt⟩⟩,⟨⟨(wi_ftc 11 (by omega)),tt,⟨⟨hc1,tt,⟨⟨(sg_zc 12 11 zs t t (by omega) ht),tt,⟨⟨tt,tt,rfl⟩,tt⟩⟩,tt⟩⟩,tt⟩⟩,tt⟩⟩,tt⟩⟩⟩⟩⟩⟩⟩⟩⟩⟩) tt) (Gets.refl _)
theorem nttfp(xs ys:List Nat)(n c k e:Nat)(zs:List Nat)(t:Nat)(ht:0<t)(hc1:(z_ad8_0 n c k e t xs ys zs)):CT 164 #[(.agg #[bT,(sl 5 n c)]),(.agg #[bF,(sl 6 k e)])] (mkH 7 [(5,(cU xs)),(6,(cU ys))]) (.agg #[bT,(sl 11 t t)]) (mkH 12 (z_ad8_12 xs ys zs)):=
 sF (sc:=[(7,.drwB [] [⟨4,[],bT,[],[]⟩,⟨10,[10,5,6],(sl 11 t t),[(10,some (z_ad8_17 n c k e)),(5,some (cU xs)),(6,some (cU ys))],[(cU zs)]⟩,⟨11,[11],(.agg #[bT,(sl 11 t t)]),[(11,some (cU zs))],[]⟩] ⟨(z_ad8_9 n c k e t),12,[(5,(cU xs)),(6,(cU ys)),(7,(z_ad8_3 n c)),(8,(z_ad8_2 k e)),(9,(z_ad8_16 t)),(10,(z_ad8_17 n c k e)),(11,(cU zs))]⟩),(1,.stay)]) (by kernel_rfl) (aI (show True∧(True∧(True∧(True∧(True∧(True∧(True∧(True∧(((FT 118 #[bT,bF] 10 [] bT [] [])∧(((some (z_ad8_2 k e):Option AObj)=some (z_ad8_2 k e))∧(((some (z_ad8_3 n c):Option AObj)=some (z_ad8_3 n c))∧(True)))∧(((True)∧(True)∧(((z_ad8_0 n c k e t xs ys zs)∧(True)∧(((z_ad8_14 t zs)∧(True)∧(((True)∧(True)∧(endT ⟨(z_ad8_9 n c k e t),12,[(5,(cU xs)),(6,(cU ys)),(7,(z_ad8_3 n c)),(8,(z_ad8_2 k e)),(9,(z_ad8_16 t)),(10,(z_ad8_17 n c k e)),(11,(cU zs))]⟩))∧(True)))∧(True)))∧(True)))∧(True)))∧(((True)∧(((some (z_ad8_2 k e):Option AObj)=some (z_ad8_2 k e))∧(((some (z_ad8_3 n c):Option AObj)=some (z_ad8_3 n c))∧(True)))∧(((FT 118 #[bT,bF] 11 [] bT [] [])∧(True)∧(((z_ad8_0 n c k e t xs ys zs)∧(True)∧(((z_ad8_14 t zs)∧(True)∧(((True)∧(True)∧(endT ⟨(z_ad8_9 n c k e t),12,[(5,(cU xs)),(6,(cU ys)),(7,(z_ad8_3 n c)),(8,(z_ad8_2 k e)),(9,(z_ad8_16 t)),(10,(z_ad8_17 n c k e)),(11,(cU zs))]⟩))∧(True)))∧(True)))∧(True)))∧(True)))∧(True)))))))))) from⟨tt,⟨tt,⟨tt,⟨tt,⟨tt,⟨tt,⟨tt,⟨tt,⟨⟨(wi_tfc 10 (by omega)),⟨rfl,⟨rfl,tt⟩⟩,⟨⟨tt,tt,⟨⟨hc1,tt,⟨⟨(sg_tc 12 11 zs t t (by omega) ht),tt,⟨⟨tt,tt,rfl⟩,tt⟩⟩,tt⟩⟩,tt⟩⟩,tt⟩⟩,⟨⟨tt,⟨rfl,⟨rfl,tt⟩⟩,⟨⟨(wi_tfc 11 (by omega)),tt,⟨⟨hc1,tt,⟨⟨(sg_tc 12 11 zs t t (by omega) ht),tt,⟨⟨tt,tt,rfl⟩,tt⟩⟩,tt⟩⟩,tt⟩⟩,tt⟩⟩,tt⟩⟩⟩⟩⟩⟩⟩⟩⟩⟩) tt) (Gets.refl _)
theorem nttfz(xs ys:List Nat)(n c k e:Nat)(zs:List Nat)(t:Nat)(ht:t=0)(hc1:(z_ad8_0 n c k e t xs ys zs)):CT 164 #[(.agg #[bT,(sl 5 n c)]),(.agg #[bF,(sl 6 k e)])] (mkH 7 [(5,(cU xs)),(6,(cU ys))]) (.agg #[bF,(sl 11 t t)]) (mkH 12 (z_ad8_12 xs ys zs)):=
 sF (sc:=[(7,.drwB [] [⟨4,[],bT,[],[]⟩,⟨10,[10,5,6],(sl 11 t t),[(10,some (z_ad8_17 n c k e)),(5,some (cU xs)),(6,some (cU ys))],[(cU zs)]⟩,⟨11,[11],(.agg #[bF,(sl 11 t t)]),[(11,some (cU zs))],[]⟩] ⟨(z_ad8_10 n c k e t),12,[(5,(cU xs)),(6,(cU ys)),(7,(z_ad8_3 n c)),(8,(z_ad8_2 k e)),(9,(z_ad8_11 t)),(10,(z_ad8_17 n c k e)),(11,(cU zs))]⟩),(1,.stay)]) (by kernel_rfl) (aI (show True∧(True∧(True∧(True∧(True∧(True∧(True∧(True∧(((FT 118 #[bT,bF] 10 [] bT [] [])∧(((some (z_ad8_2 k e):Option AObj)=some (z_ad8_2 k e))∧(((some (z_ad8_3 n c):Option AObj)=some (z_ad8_3 n c))∧(True)))∧(((True)∧(True)∧(((z_ad8_0 n c k e t xs ys zs)∧(True)∧(((z_ad8_15 t zs)∧(True)∧(((True)∧(True)∧(endT ⟨(z_ad8_10 n c k e t),12,[(5,(cU xs)),(6,(cU ys)),(7,(z_ad8_3 n c)),(8,(z_ad8_2 k e)),(9,(z_ad8_11 t)),(10,(z_ad8_17 n c k e)),(11,(cU zs))]⟩))∧(True)))∧(True)))∧(True)))∧(True)))∧(((True)∧(((some (z_ad8_2 k e):Option AObj)=some (z_ad8_2 k e))∧(((some (z_ad8_3 n c):Option AObj)=some (z_ad8_3 n c))∧(True)))∧(((FT 118 #[bT,bF] 11 [] bT [] [])∧(True)∧(((z_ad8_0 n c k e t xs ys zs)∧(True)∧(((z_ad8_15 t zs)∧(True)∧(((True)∧(True)∧(endT ⟨(z_ad8_10 n c k e t),12,[(5,(cU xs)),(6,(cU ys)),(7,(z_ad8_3 n c)),(8,(z_ad8_2 k e)),(9,(z_ad8_11 t)),(10,(z_ad8_17 n c k e)),(11,(cU zs))]⟩))∧(True)))∧(True)))∧(True)))∧(True)))∧(True)))))))))) from⟨tt,⟨tt,⟨tt,⟨tt,⟨tt,⟨tt,⟨tt,⟨tt,⟨⟨(wi_tfc 10 (by omega)),⟨rfl,⟨rfl,tt⟩⟩,⟨⟨tt,tt,⟨⟨hc1,tt,⟨⟨(sg_zc 12 11 zs t t (by omega) ht),tt,⟨⟨tt,tt,rfl⟩,tt⟩⟩,tt⟩⟩,tt⟩⟩,tt⟩⟩,⟨⟨tt,⟨rfl,⟨rfl,tt⟩⟩,⟨⟨(wi_tfc 11 (by omega)),tt,⟨⟨hc1,tt,⟨⟨(sg_zc 12 11 zs t t (by omega) ht),tt,⟨⟨tt,tt,rfl⟩,tt⟩⟩,tt⟩⟩,tt⟩⟩,tt⟩⟩,tt⟩⟩⟩⟩⟩⟩⟩⟩⟩⟩) tt) (Gets.refl _)
theorem nt_mul(n0 bx byy:Nat)(xs ys:List Nat)(n c k e:Nat)(sx sy:Bool)(hmin:n<24∨k<24)(hb:5≤bx∧bx<n0∧5≤byy∧byy<n0∧bx≠byy)(hlx:Lim xs)(hly:Lim ys)(hc:n≤xs.length)(hk:k≤ys.length)(hn:n<70368744177)(hkm:k<70368744177):
  ∃sg zs t,Lim zs∧t≤zs.length∧t≤n+k∧(0<t→zs.getD (t-1) 0≠0)∧(sg=true→0<t)∧iv sg (val (zs.take t))=iv sx (val (xs.take n))*iv sy (val (ys.take k))∧
   FT 164 #[.agg #[.bool sx,sl bx n c],.agg #[.bool sy,sl byy k e]] n0 [(bx,cU xs),(byy,cU ys)] (.agg #[.bool sg,sl n0 t t])
    [(bx,some (cU xs)),(byy,some (cU ys))] [cU zs]:=by
 obtain⟨zs,t,h1,h2,h3,h4,h5,h6⟩:=mu_c 11 10 5 6 xs ys n c k e hmin (by omega) hlx hly hc hk hn hkm
 cases sx with
 |false=>cases sy with
  |false=>exact⟨false,zs,t,h1,h2,h3,h4,(by intro q;cases q),(by rw[iv_f,iv_f,iv_f,h5];exact Int.natCast_mul _ _),fsp_flat [bx,byy] [cU xs,cU ys] [cU xs,cU ys] [11] [cU zs] n0 (ntff xs ys n c k e zs t h6) rfl rfl rfl (by simp[hb.2.2.2.2]) (by simp;omega) (by omega) (by simp[flat,ns_closed]) (by simp[flat,ns_closed]) (by simp[flat,ns_closed,AObj.ro]) (by simp) (by simp) rfl rfl rfl⟩
  |true=>
   rcases Nat.eq_zero_or_pos t with ht|ht
   ·have h0:val (xs.take n)*val (ys.take k)=0:=by rw[←h5,ht];rfl
    exact⟨false,zs,t,h1,h2,h3,h4,(by intro q;cases q),(by rw[iv_f,iv_f,iv_t,h5,Int.mul_neg,←Int.natCast_mul,h0];rfl),fsp_flat [bx,byy] [cU xs,cU ys] [cU xs,cU ys] [11] [cU zs] n0 (ntftz xs ys n c k e zs t ht h6) rfl rfl rfl (by simp[hb.2.2.2.2]) (by simp;omega) (by omega) (by simp[flat,ns_closed]) (by simp[flat,ns_closed]) (by simp[flat,ns_closed,AObj.ro]) (by simp) (by simp) rfl rfl rfl⟩
   ·exact⟨true,zs,t,h1,h2,h3,h4,(fun _=>ht),(by rw[iv_f,iv_t,iv_t,h5,Int.mul_neg,←Int.natCast_mul]),fsp_flat [bx,byy] [cU xs,cU ys] [cU xs,cU ys] [11] [cU zs] n0 (ntftp xs ys n c k e zs t ht h6) rfl rfl rfl (by simp[hb.2.2.2.2]) (by simp;omega) (by omega) (by simp[flat,ns_closed]) (by simp[flat,ns_closed]) (by simp[flat,ns_closed,AObj.ro]) (by simp) (by simp) rfl rfl rfl⟩
 |true=>cases sy with
  |true=>exact⟨false,zs,t,h1,h2,h3,h4,(by intro q;cases q),(by rw[iv_f,iv_t,iv_t,h5,Int.neg_mul_neg];exact Int.natCast_mul _ _),fsp_flat [bx,byy] [cU xs,cU ys] [cU xs,cU ys] [11] [cU zs] n0 (nttt xs ys n c k e zs t h6) rfl rfl rfl (by simp[hb.2.2.2.2]) (by simp;omega) (by omega) (by simp[flat,ns_closed]) (by simp[flat,ns_closed]) (by simp[flat,ns_closed,AObj.ro]) (by simp) (by simp) rfl rfl rfl⟩
  |false=>
   rcases Nat.eq_zero_or_pos t with ht|ht
   ·have h0:val (xs.take n)*val (ys.take k)=0:=by rw[←h5,ht];rfl
    exact⟨false,zs,t,h1,h2,h3,h4,(by intro q;cases q),(by rw[iv_f,iv_t,iv_f,h5,Int.neg_mul,←Int.natCast_mul,h0];rfl),fsp_flat [bx,byy] [cU xs,cU ys] [cU xs,cU ys] [11] [cU zs] n0 (nttfz xs ys n c k e zs t ht h6) rfl rfl rfl (by simp[hb.2.2.2.2]) (by simp;omega) (by omega) (by simp[flat,ns_closed]) (by simp[flat,ns_closed]) (by simp[flat,ns_closed,AObj.ro]) (by simp) (by simp) rfl rfl rfl⟩
   ·exact⟨true,zs,t,h1,h2,h3,h4,(fun _=>ht),(by rw[iv_t,iv_t,iv_f,h5,Int.neg_mul,←Int.natCast_mul]),fsp_flat [bx,byy] [cU xs,cU ys] [cU xs,cU ys] [11] [cU zs] n0 (nttfp xs ys n c k e zs t ht h6) rfl rfl rfl (by simp[hb.2.2.2.2]) (by simp;omega) (by omega) (by simp[flat,ns_closed]) (by simp[flat,ns_closed]) (by simp[flat,ns_closed,AObj.ro]) (by simp) (by simp) rfl rfl rfl⟩
theorem pro_o(xs ys:List Nat)(n c k e:Nat)(sx sy:Bool)(sg:Bool)(zs:List Nat)(t:Nat)(hc1:(FT 164 #[(.agg #[(.bool sx),(sl 5 n c)]),(.agg #[(.bool sy),(sl 6 k e)])] 11 [(5,(cU xs)),(6,(cU ys))] (.agg #[(.bool sg),(sl 11 t t)]) [(5,some (cU xs)),(6,some (cU ys))] [(cU zs)])):CT 274 #[(.agg #[]),(.agg #[(.bool sx),(sl 5 n c)]),(.agg #[(.bool sy),(sl 6 k e)])] (mkH 7 [(5,(cU xs)),(6,(cU ys))]) (.agg #[(.bool sg),(sl 11 t t)]) (mkH 12 (z_ad8_12 xs ys zs)):=
 sF (sc:=[(11,.call [5,6] (.agg #[(.bool sg),(sl 11 t t)]) [(5,some (cU xs)),(6,some (cU ys))] [(cU zs)]),(3,.stay)]) (by kernel_rfl) (aI hc1 tt) (Gets.refl _)
theorem pro_c(n0 bx byy:Nat)(xs ys:List Nat)(n c k e:Nat)(sx sy:Bool)(hmin:n<24∨k<24)(hb:5≤bx∧bx<n0∧5≤byy∧byy<n0∧bx≠byy)(hlx:Lim xs)(hly:Lim ys)(hc:n≤xs.length)(hk:k≤ys.length)(hn:n<70368744177)(hkm:k<70368744177):
  ∃sg zs t,Lim zs∧t≤zs.length∧t≤n+k∧(0<t→zs.getD (t-1) 0≠0)∧(sg=true→0<t)∧iv sg (val (zs.take t))=iv sx (val (xs.take n))*iv sy (val (ys.take k))∧
   FT 274 #[.agg #[],.agg #[.bool sx,sl bx n c],.agg #[.bool sy,sl byy k e]] n0 [(bx,cU xs),(byy,cU ys)] (.agg #[.bool sg,sl n0 t t])
    [(bx,some (cU xs)),(byy,some (cU ys))] [cU zs]:=by
 obtain⟨sg,zs,t,h1,h2,h3,h4,h5,h6,h7⟩:=nt_mul 11 5 6 xs ys n c k e sx sy hmin (by omega) hlx hly hc hk hn hkm
 exact⟨sg,zs,t,h1,h2,h3,h4,h5,h6,fsp_flat [bx,byy] [cU xs,cU ys] [cU xs,cU ys] [11] [cU zs] n0 (pro_o xs ys n c k e sx sy sg zs t h7) rfl rfl rfl (by simp[hb.2.2.2.2]) (by simp;omega) (by omega) (by simp[flat,ns_closed]) (by simp[flat,ns_closed]) (by simp[flat,ns_closed,AObj.ro]) (by simp) (by simp) rfl rfl rfl⟩
noncomputable section
abbrev z_82c_0(sx sy sg:Bool)(n k t:Nat)(xs ys zs:List Nat):Prop:=FT 274 #[(.agg #[]),(.agg #[(.bool sx),(sl 6 n n)]),(.agg #[(.bool sy),(sl 7 k k)])] 8 [(6,(cU xs)),(7,(cU ys))] (.agg #[(.bool sg),(sl 8 t t)]) [(6,some (cU xs)),(7,some (cU ys))] [(cU zs)]
abbrev z_82c_1(sg:Bool)(t:Nat)(zs:List Nat)(sr:ByteArray):Prop:=FT 112 #[(.agg #[(.bool sg),(sl 8 t t)])] 9 [(1,gob1),(8,(cU zs))] (.string sr) [(1,some gob1),(8,some (cU zs))] []
abbrev z_82c_2(sa sb:ByteArray):Array Value:= #[(.iface 99 (.agg #[])),(.string sa),(.string sb)]
end
theorem ca_pro_s0(sa sb:ByteArray)(u v:Int)(hksa: ∀n0,5≤n0→FT 145 #[.string sa] n0 [] (lI 2) [] [])(hksb: ∀n0,5≤n0→FT 145 #[.string sb] n0 [] (lI 2) [] [])(hssa: ∀n0,5≤n0→FT 109 #[.string sa] n0 [] (.int .i64 u) [] [])(hssb: ∀n0,5≤n0→FT 109 #[.string sb] n0 [] (.int .i64 v) [] [])(p:Int)(hp:IntKind.wrap .i64 (u*v)=p)(hpr: -9223372036854775808≤p∧p<9223372036854775808)(h0:u=0):CT 83 (z_82c_2 sa sb) (mkH 5 [(1,gob1)]) (.string (istr p)) (mkH 6 [(1,gob1)]):=
 sF (sc:=[(46,.call [] (lI 2) [] []),(52,.call [] (lI 2) [] []),(88,.call [] (.int .i64 u) [] []),(1,.call [] (.int .i64 v) [] []),(10,.op (.rwI p)),(3,.drw [(2,.rwB true)]),(24,.call [1] (.string (istr p)) [] []),(7,.stay)]) (by kernel_rfl) (aI (hksa 6 (by omega)) (aI (hksb 6 (by omega)) (aI (hssa 6 (by omega)) (aI (hssb 6 (by omega)) (aI hp (aI (aI tt (aI tt (aI (show (u==(0:Int))=true from (by first|exact beq_iff_eq.2 h0|exact beq_eq_false_iff_ne.2 h0)) (aI tt (aI tt (aI tt (aI tt (aI tt (aI tt (aI tt (aI tt (aI tt tt)))))))))))) (aI (fmt_c 6 p (by omega) (by omega)) tt))))))) (Gets.refl _)
theorem ca_pro_s1(sa sb:ByteArray)(u v:Int)(hksa: ∀n0,5≤n0→FT 145 #[.string sa] n0 [] (lI 2) [] [])(hksb: ∀n0,5≤n0→FT 145 #[.string sb] n0 [] (lI 2) [] [])(hssa: ∀n0,5≤n0→FT 109 #[.string sa] n0 [] (.int .i64 u) [] [])(hssb: ∀n0,5≤n0→FT 109 #[.string sb] n0 [] (.int .i64 v) [] [])(p:Int)(hp:IntKind.wrap .i64 (u*v)=p)(hpr: -9223372036854775808≤p∧p<9223372036854775808)(q:Int)(h0:u≠0)(hq:IntKind.wrap .i64 (Int.tdiv p u)=q)(hqv:q=v):CT 83 (z_82c_2 sa sb) (mkH 5 [(1,gob1)]) (.string (istr p)) (mkH 6 [(1,gob1)]):=
 sF (sc:=[(46,.call [] (lI 2) [] []),(52,.call [] (lI 2) [] []),(88,.call [] (.int .i64 u) [] []),(1,.call [] (.int .i64 v) [] []),(10,.op (.rwI p)),(3,.drw [(2,.rwB false),(6,.div q),(8,.rwB true)]),(24,.call [1] (.string (istr p)) [] []),(7,.stay)]) (by kernel_rfl) (aI (hksa 6 (by omega)) (aI (hksb 6 (by omega)) (aI (hssa 6 (by omega)) (aI (hssb 6 (by omega)) (aI hp (aI (aI tt (aI tt (aI (show (u==(0:Int))=false from (by first|exact beq_iff_eq.2 h0|exact beq_eq_false_iff_ne.2 h0)) (aI tt (aI tt (aI tt (aI (show u≠0∧IntKind.wrap .i64 (Int.tdiv p u)=q from⟨h0,hq⟩) (aI tt (aI (show (q==v)=true from (by first|exact beq_iff_eq.2 hqv|exact beq_eq_false_iff_ne.2 hqv)) (aI tt (aI tt (aI tt tt)))))))))))) (aI (fmt_c 6 p (by omega) (by omega)) tt))))))) (Gets.refl _)
theorem ca_pro_s2(sa sb:ByteArray)(u v:Int)(hksa: ∀n0,5≤n0→FT 145 #[.string sa] n0 [] (lI 2) [] [])(hksb: ∀n0,5≤n0→FT 145 #[.string sb] n0 [] (lI 2) [] [])(hssa: ∀n0,5≤n0→FT 109 #[.string sa] n0 [] (.int .i64 u) [] [])(hssb: ∀n0,5≤n0→FT 109 #[.string sb] n0 [] (.int .i64 v) [] [])(p:Int)(hp:IntKind.wrap .i64 (u*v)=p)(hpr: -9223372036854775808≤p∧p<9223372036854775808)(q:Int)(h0:u≠0)(hq:IntKind.wrap .i64 (Int.tdiv p u)=q)(hqv:q≠v)(sx:Bool)(xs:List Nat)(n:Nat)(hc1:(FT 111 #[(.string sa)] 6 [] (.agg #[(.bool sx),(sl 6 n n)]) [] [(cU xs)]))(sy:Bool)(ys:List Nat)(k:Nat)(hc3:(FT 111 #[(.string sb)] 7 [] (.agg #[(.bool sy),(sl 7 k k)]) [] [(cU ys)]))(sg:Bool)(zs:List Nat)(t:Nat)(hc5:(z_82c_0 sx sy sg n k t xs ys zs))(sr:ByteArray)(hc7:(z_82c_1 sg t zs sr)):CT 83 (z_82c_2 sa sb) (mkH 5 [(1,gob1)]) (.string sr) (mkH 9 [(1,gob1)]):=
 sF (sc:=[(46,.call [] (lI 2) [] []),(52,.call [] (lI 2) [] []),(88,.call [] (.int .i64 u) [] []),(1,.call [] (.int .i64 v) [] []),(10,.op (.rwI p)),(3,.drw [(2,.rwB false),(6,.div q),(8,.rwB false)]),(15,.drwM [] [⟨2,[],(.agg #[(.bool sx),(sl 6 n n)]),[],[(cU xs)]⟩,⟨4,[],(.agg #[(.bool sy),(sl 7 k k)]),[],[(cU ys)]⟩,⟨8,[6,7],(.agg #[(.bool sg),(sl 8 t t)]),[(6,some (cU xs)),(7,some (cU ys))],[(cU zs)]⟩,⟨9,[1,8],(.string sr),[(1,some gob1),(8,some (cU zs))],[]⟩]),(1,.stay)]) (by kernel_rfl) (aI (hksa 6 (by omega)) (aI (hksb 6 (by omega)) (aI (hssa 6 (by omega)) (aI (hssb 6 (by omega)) (aI hp (aI (aI tt (aI tt (aI (show (u==(0:Int))=false from (by first|exact beq_iff_eq.2 h0|exact beq_eq_false_iff_ne.2 h0)) (aI tt (aI tt (aI tt (aI (show u≠0∧IntKind.wrap .i64 (Int.tdiv p u)=q from⟨h0,hq⟩) (aI tt (aI (show (q==v)=false from (by first|exact beq_iff_eq.2 hqv|exact beq_eq_false_iff_ne.2 hqv)) (aI tt (aI tt (aI tt tt)))))))))))) (aI (aI tt (aI tt (aI tt (aI tt (aI tt (aI tt (aI hc1 (aI hc3 (aI hc5 (aI hc7 (aI tt tt))))))))))) tt))))))) (Gets.refl _)
theorem ca_pro_23(sa sb:ByteArray)(hksa: ∀n0,5≤n0→FT 145 #[.string sa] n0 [] (lI 2) [] [])(hksb: ∀n0,5≤n0→FT 145 #[.string sb] n0 [] (lI 3) [] [])(sx:Bool)(xs:List Nat)(n:Nat)(hc1:(FT 111 #[(.string sa)] 6 [] (.agg #[(.bool sx),(sl 6 n n)]) [] [(cU xs)]))(sy:Bool)(ys:List Nat)(k:Nat)(hc3:(FT 111 #[(.string sb)] 7 [] (.agg #[(.bool sy),(sl 7 k k)]) [] [(cU ys)]))(sg:Bool)(zs:List Nat)(t:Nat)(hc5:(z_82c_0 sx sy sg n k t xs ys zs))(sr:ByteArray)(hc7:(z_82c_1 sg t zs sr)):CT 83 (z_82c_2 sa sb) (mkH 5 [(1,gob1)]) (.string sr) (mkH 9 [(1,gob1)]):=
 sF (sc:=[(46,.call [] (lI 2) [] []),(52,.call [] (lI 3) [] []),(53,.drwM [] [⟨2,[],(.agg #[(.bool sx),(sl 6 n n)]),[],[(cU xs)]⟩,⟨4,[],(.agg #[(.bool sy),(sl 7 k k)]),[],[(cU ys)]⟩,⟨8,[6,7],(.agg #[(.bool sg),(sl 8 t t)]),[(6,some (cU xs)),(7,some (cU ys))],[(cU zs)]⟩,⟨9,[1,8],(.string sr),[(1,some gob1),(8,some (cU zs))],[]⟩]),(1,.stay)]) (by kernel_rfl) (aI (hksa 6 (by omega)) (aI (hksb 6 (by omega)) (aI (aI tt (aI tt (aI tt (aI tt (aI tt (aI tt (aI hc1 (aI hc3 (aI hc5 (aI hc7 (aI tt tt))))))))))) tt))) (Gets.refl _)
theorem ca_pro_32(sa sb:ByteArray)(hksa: ∀n0,5≤n0→FT 145 #[.string sa] n0 [] (lI 3) [] [])(hksb: ∀n0,5≤n0→FT 145 #[.string sb] n0 [] (lI 2) [] [])(sx:Bool)(xs:List Nat)(n:Nat)(hc1:(FT 111 #[(.string sa)] 6 [] (.agg #[(.bool sx),(sl 6 n n)]) [] [(cU xs)]))(sy:Bool)(ys:List Nat)(k:Nat)(hc3:(FT 111 #[(.string sb)] 7 [] (.agg #[(.bool sy),(sl 7 k k)]) [] [(cU ys)]))(sg:Bool)(zs:List Nat)(t:Nat)(hc5:(z_82c_0 sx sy sg n k t xs ys zs))(sr:ByteArray)(hc7:(z_82c_1 sg t zs sr)):CT 83 (z_82c_2 sa sb) (mkH 5 [(1,gob1)]) (.string sr) (mkH 9 [(1,gob1)]):=
 sF (sc:=[(46,.call [] (lI 3) [] []),(52,.call [] (lI 2) [] []),(53,.drwM [] [⟨2,[],(.agg #[(.bool sx),(sl 6 n n)]),[],[(cU xs)]⟩,⟨4,[],(.agg #[(.bool sy),(sl 7 k k)]),[],[(cU ys)]⟩,⟨8,[6,7],(.agg #[(.bool sg),(sl 8 t t)]),[(6,some (cU xs)),(7,some (cU ys))],[(cU zs)]⟩,⟨9,[1,8],(.string sr),[(1,some gob1),(8,some (cU zs))],[]⟩]),(1,.stay)]) (by kernel_rfl) (aI (hksa 6 (by omega)) (aI (hksb 6 (by omega)) (aI (aI tt (aI tt (aI tt (aI tt (aI tt (aI tt (aI hc1 (aI hc3 (aI hc5 (aI hc7 (aI tt tt))))))))))) tt))) (Gets.refl _)
theorem ca_pro_33(sa sb:ByteArray)(hksa: ∀n0,5≤n0→FT 145 #[.string sa] n0 [] (lI 3) [] [])(hksb: ∀n0,5≤n0→FT 145 #[.string sb] n0 [] (lI 3) [] [])(sx:Bool)(xs:List Nat)(n:Nat)(hc1:(FT 111 #[(.string sa)] 6 [] (.agg #[(.bool sx),(sl 6 n n)]) [] [(cU xs)]))(sy:Bool)(ys:List Nat)(k:Nat)(hc3:(FT 111 #[(.string sb)] 7 [] (.agg #[(.bool sy),(sl 7 k k)]) [] [(cU ys)]))(sg:Bool)(zs:List Nat)(t:Nat)(hc5:(z_82c_0 sx sy sg n k t xs ys zs))(sr:ByteArray)(hc7:(z_82c_1 sg t zs sr)):CT 83 (z_82c_2 sa sb) (mkH 5 [(1,gob1)]) (.string sr) (mkH 9 [(1,gob1)]):=
 sF (sc:=[(46,.call [] (lI 3) [] []),(52,.call [] (lI 3) [] []),(53,.drwM [] [⟨2,[],(.agg #[(.bool sx),(sl 6 n n)]),[],[(cU xs)]⟩,⟨4,[],(.agg #[(.bool sy),(sl 7 k k)]),[],[(cU ys)]⟩,⟨8,[6,7],(.agg #[(.bool sg),(sl 8 t t)]),[(6,some (cU xs)),(7,some (cU ys))],[(cU zs)]⟩,⟨9,[1,8],(.string sr),[(1,some gob1),(8,some (cU zs))],[]⟩]),(1,.stay)]) (by kernel_rfl) (aI (hksa 6 (by omega)) (aI (hksb 6 (by omega)) (aI (aI tt (aI tt (aI tt (aI tt (aI tt (aI tt (aI hc1 (aI hc3 (aI hc5 (aI hc7 (aI tt tt))))))))))) tt))) (Gets.refl _)
theorem ca_pro_i(n0:Nat)(a b:Int)(hG:5≤n0)(ha:ndig a.natAbs≤400)(hb:ndig b.natAbs≤400)(hm:ndig a.natAbs≤200∨ndig b.natAbs≤200)(hr:ndig (a*b).natAbs≤400):
  FT 83 #[.iface 99 (.agg #[]),.string (istr a),.string (istr b)] n0 [(1,gob1)] (.string (istr (a*b))) [(1,some gob1)] []:=by
 have key: ∃nx,CT 83 #[.iface 99 (.agg #[]),.string (istr a),.string (istr b)] (mkH 5 [(1,gob1)]) (.string (istr (a*b))) (mkH nx [(1,gob1)]):=by
  have hab:(digs a.natAbs).length≤200∨(digs b.natAbs).length≤200:=hm.imp (fun h=>digs_len_le h (by decide)) (fun h=>digs_len_le h (by decide))
  obtain⟨sx,xs,n,e1,e2,e3,e4,e5,e6,e7⟩:=nu_i 6 a (by omega) ha
  obtain⟨sy,ys,k,f1,f2,f3,f4,f5,f6,f7⟩:=nu_i 7 b (by omega) hb
  obtain⟨sg,zs,t,g1,g2,g3,g4,g5,g6,g7⟩:=pro_c 8 6 7 xs ys n n k k sx sy (by omega) (by omega) e1 f1 e2 f2 (by omega) (by omega)
  rw[e6,f6]at g6
  have T:=nt_i 9 8 sg zs t t (by omega) g1 g2 (by omega) g4 g5 (by rw[g6];exact hr)
  rw[g6]at T
  by_cases h1:(digs a.natAbs).length≤18
  ·by_cases h2:(digs b.natAbs).length≤18
   ·have hu:=lt_of_ndig h1
    have hv:=lt_of_ndig h2
    have h18:(10:Nat)^18=1000000000000000000:=by decide
    rw[h18]at hu hv
    obtain⟨p,hp⟩: ∃p,IntKind.wrap .i64 (a*b)=p:=⟨_,rfl⟩
    have hpr:=wrap64_range (a*b)
    rw[hp]at hpr
    have K1: ∀n0,5≤n0→_:=fun n0 h=>kis_i n0 a h h1
    have K2: ∀n0,5≤n0→_:=fun n0 h=>kis_i n0 b h h2
    have S1: ∀n0,5≤n0→_:=fun n0 h=>sm_i n0 a h h1
    have S2: ∀n0,5≤n0→_:=fun n0 h=>sm_i n0 b h h2
    by_cases h0:a=0
    ·have R:=ca_pro_s0 _ _ a b K1 K2 S1 S2 p hp hpr h0
     have hpe:p=a*b:=by rw[←hp,h0,Int.zero_mul];rfl
     rw[hpe]at R
     exact⟨_,R⟩
    ·by_cases hqv:IntKind.wrap .i64 (Int.tdiv p a)=b
     ·have R:=ca_pro_s1 _ _ a b K1 K2 S1 S2 p hp hpr _ h0 rfl hqv
      rw[times_ok (by omega) (by omega) hp h0 hqv]at R
      exact⟨_,R⟩
     ·exact⟨_,ca_pro_s2 _ _ a b K1 K2 S1 S2 p hp hpr _ h0 rfl hqv sx xs n e7 sy ys k f7 sg zs t g7 _ T⟩
   ·exact⟨9,ca_pro_23 _ _ (fun n0 h=>kis_i n0 a h h1) (fun n0 h=>kil_i n0 b h (by omega) hb) sx xs n e7 sy ys k f7 sg zs t g7 _ T⟩
  ·by_cases h2:(digs b.natAbs).length≤18
   ·exact⟨9,ca_pro_32 _ _ (fun n0 h=>kil_i n0 a h (by omega) ha) (fun n0 h=>kis_i n0 b h h2) sx xs n e7 sy ys k f7 sg zs t g7 _ T⟩
   ·exact⟨9,ca_pro_33 _ _ (fun n0 h=>kil_i n0 a h (by omega) ha) (fun n0 h=>kil_i n0 b h (by omega) hb) sx xs n e7 sy ys k f7 sg zs t g7 _ T⟩
 obtain⟨nx,S⟩:=key
 exact fsp_glob [(1,gob1)] [] [] [] [] [] n0 S (by decide+kernel) (by rfl) rfl (by rfl) rfl (by simp) (by simp) hG rfl rfl rfl (by simp) (by simp) rfl rfl rfl
theorem Mul_o(sa sb sr:ByteArray)(hc0:(FT 83 (z_82c_2 sa sb) 8 [(1,gob1)] (.string sr) [(1,some gob1)] [])):CT 38 #[(.string sa),(.string sb)] (mkH 5 [(1,gob1)]) (.tuple #[(.string sr),(lI 0)]) (mkH 8 [(1,gob1)]):=
 sF (sc:=[(35,.call [1] (.string sr) [(1,some gob1)] []),(30,.stay)]) (by kernel_rfl) (aI hc0 tt) (Gets.refl _)
theorem Mul_i(n0:Nat)(a b:Int)(hG:5≤n0)(ha:ndig a.natAbs≤400)(hb:ndig b.natAbs≤400)(hm:ndig a.natAbs≤200∨ndig b.natAbs≤200)(hr:ndig (a*b).natAbs≤400):
  FT 38 #[.string (istr a),.string (istr b)] n0 [(1,gob1)] (.tuple #[.string (istr (a*b)),.int .i64 (.ofNat 0)]) [(1,some gob1)] []:=by
 have S:=Mul_o (istr a) (istr b) (istr (a*b)) (ca_pro_i 8 a b (by omega) ha hb hm hr)
 exact fsp_glob [(1,gob1)] [] [] [] [] [] n0 S (by decide+kernel) (by rfl) rfl (by rfl) rfl (by simp) (by simp) hG rfl rfl rfl (by simp) (by simp) rfl rfl rfl
noncomputable section
abbrev z_bbd_0(F:List Nat):List Value:=[(nW (F.getD 0 0)),(nW (F.getD 1 0)),(nW (F.getD 2 0)),(nW (F.getD 3 0)),(nW (F.getD 4 0)),(nW (F.getD 5 0)),(nW (F.getD 6 0)),(nW (F.getD 7 0)),(nW (F.getD 8 0)),(nW (F.getD 9 0)),(nW (F.getD 10 0)),(nW (F.getD 11 0)),(nW (F.getD 12 0)),(nW (F.getD 13 0)),(nW (F.getD 14 0)),(nW (F.getD 15 0)),(nW (F.getD 16 0)),(nW (F.getD 17 0)),(nW (F.getD 18 0)),(nW (F.getD 19 0)),(nW (F.getD 20 0)),(nW (F.getD 21 0)),(nW (F.getD 22 0)),(nW (F.getD 23 0)),(nW (F.getD 24 0)),(nW (F.getD 25 0)),(nW (F.getD 26 0)),(nW (F.getD 27 0)),(nW (F.getD 28 0)),(nW (F.getD 29 0)),(nW (F.getD 30 0)),(nW (F.getD 31 0)),(nW (F.getD 32 0)),(nW (F.getD 33 0)),(nW (F.getD 34 0)),(nW (F.getD 35 0)),(nW (F.getD 36 0)),(nW (F.getD 37 0)),(nW (F.getD 38 0)),(nW (F.getD 39 0)),(nW (F.getD 40 0)),(nW (F.getD 41 0)),(nW (F.getD 42 0)),(nW (F.getD 43 0)),(nW (F.getD 44 0))]
end
theorem full_list{F:List Nat}(h:F.length=45):List.take 45 (List.drop 0 (ns .u32 F))=(List.range 45).map fun i=>.int .u32 ((F.getD i 0:Nat):Int):=by
 rw[List.drop_zero,List.take_of_length_le (by rw[ns_length,h];exact Nat.le_refl _)]
 apply List.ext_getElem?
 intro i
 by_cases hi:i<45
 ·rw[ns_get (by omega)]
  simp[List.getElem?_map,List.getElem?_range hi]
 ·rw[List.getElem?_eq_none (by rw[ns_length];omega),List.getElem?_eq_none (by simp;omega)]
theorem eqInts_map(F E:List Nat): ∀l:List Nat,eqInts (l.map fun i=>.int .u32 ((F.getD i 0:Nat):Int)) (l.map fun i=>.int .u32 ((E.getD i 0:Nat):Int))=l.all fun i=>F.getD i 0==E.getD i 0
 |[]=>rfl
 |i::l=>by
  simp only[List.map_cons,eqInts,List.all_cons,eqInts_map F E l]
  congr 1
  rw[Bool.eq_iff_iff,beq_iff_eq,beq_iff_eq]
  omega
theorem eq_full{F E:List Nat}(h:F.length=45)(g:E.length=45)(b:Bool)(hb:decide (F=E)=b):eqInts ((List.range 45).map fun i=>.int .u32 ((F.getD i 0:Nat):Int)) ((List.range 45).map fun i=>.int .u32 ((E.getD i 0:Nat):Int))=b:=by
 rw[eqInts_map,←hb,Bool.eq_iff_iff,List.all_eq_true,decide_eq_true_eq]
 constructor
 ·intro q
  apply List.ext_getElem?
  intro i
  by_cases hi:i<45
  ·have:=q i (List.mem_range.2 hi)
   rw[beq_iff_eq]at this
   simp only[List.getD_eq_getElem?_getD]at this
   rw[List.getElem?_eq_getElem (by omega),List.getElem?_eq_getElem (by omega)]at this ⊢
   simpa using this
  ·rw[List.getElem?_eq_none (by omega),List.getElem?_eq_none (by omega)]
 ·rintro rfl i _
  rw[beq_iff_eq]
theorem val_inj: ∀{l m:List Nat},Lim l→Lim m→l.length=m.length→val l=val m→l=m
 |[],[],_,_,_,_=>rfl
 |[],_::_,_,_,h,_=>by simp at h
 |_::_,[],_,_,h,_=>by simp at h
 |x::l,y::m,hl,hm,h,hv=>by
  rw[show val (x::l)=x+1000000000*val l from rfl,show val (y::m)=y+1000000000*val m from rfl]at hv
  have h1:=hl x (by simp)
  have h2:=hm y (by simp)
  have h3:=val_inj (l:=l) (m:=m) (fun z hz=>hl z (by simp[hz])) (fun z hz=>hm z (by simp[hz])) (by simpa using h) (by omega)
  rw[h3,show x=y by rw[h3]at hv;omega]
abbrev fvl(F:List Nat):List Value:=(List.range 45).map fun i=>.int .u32 ((F.getD i 0:Nat):Int)
abbrev fv(F:List Nat):Value:=.agg ⟨fvl F⟩
def fl45(xs:List Nat)(n:Nat):List Nat:=xs.take n++List.replicate (45-n) 0
theorem fl45_len{xs:List Nat}{n:Nat}(h:n≤xs.length)(h45:n≤45):(fl45 xs n).length=45:=by
 unfold fl45
 rw[List.length_append,List.length_take,List.length_replicate]
 omega
theorem fl45_lim{xs:List Nat}{n:Nat}(h:Lim xs):Lim (fl45 xs n):=(h.take n).append (Lim.replicate _)
theorem fl45_val(xs:List Nat)(n:Nat):val (fl45 xs n)=val (xs.take n):=by
 unfold fl45
 rw[val_append,val_replicate,Nat.mul_zero,Nat.add_zero]
theorem fu_o(xs F:List Nat)(n c:Nat)(sx:Bool)(hc:n≤xs.length)(h45:n≤45)(hF:F=xs.take n++List.replicate (45-n) 0)(hl:F.length=45):CT 176 #[(.agg #[(.bool sx),(sl 5 n c)])] (mkH 6 [(5,(cU xs))]) (.agg #[(nW (F.getD 0 0)),(nW (F.getD 1 0)),(nW (F.getD 2 0)),(nW (F.getD 3 0)),(nW (F.getD 4 0)),(nW (F.getD 5 0)),(nW (F.getD 6 0)),(nW (F.getD 7 0)),(nW (F.getD 8 0)),(nW (F.getD 9 0)),(nW (F.getD 10 0)),(nW (F.getD 11 0)),(nW (F.getD 12 0)),(nW (F.getD 13 0)),(nW (F.getD 14 0)),(nW (F.getD 15 0)),(nW (F.getD 16 0)),(nW (F.getD 17 0)),(nW (F.getD 18 0)),(nW (F.getD 19 0)),(nW (F.getD 20 0)),(nW (F.getD 21 0)),(nW (F.getD 22 0)),(nW (F.getD 23 0)),(nW (F.getD 24 0)),(nW (F.getD 25 0)),(nW (F.getD 26 0)),(nW (F.getD 27 0)),(nW (F.getD 28 0)),(nW (F.getD 29 0)),(nW (F.getD 30 0)),(nW (F.getD 31 0)),(nW (F.getD 32 0)),(nW (F.getD 33 0)),(nW (F.getD 34 0)),(nW (F.getD 35 0)),(nW (F.getD 36 0)),(nW (F.getD 37 0)),(nW (F.getD 38 0)),(nW (F.getD 39 0)),(nW (F.getD 40 0)),(nW (F.getD 41 0)),(nW (F.getD 42 0)),(nW (F.getD 43 0)),(nW (F.getD 44 0))]) (mkH 9 [(5,(cU xs))]):=
 sF (sc:=[(10,.drwM [(3,.cpy n (ns .u32 F))] []),(2,.op (.ldn (z_bbd_0 F))),(3,.stay)]) (by kernel_rfl) (aI (aI tt (aI tt (aI tt (aI (show 0+n≤(ns .u32 xs).length∧Nat.min n 45=n∧0+n≤([(lW 0),(lW 0),(lW 0),(lW 0),(lW 0),(lW 0),(lW 0),(lW 0),(lW 0),(lW 0),(lW 0),(lW 0),(lW 0),(lW 0),(lW 0),(lW 0),(lW 0),(lW 0),(lW 0),(lW 0),(lW 0),(lW 0),(lW 0),(lW 0),(lW 0),(lW 0),(lW 0),(lW 0),(lW 0),(lW 0),(lW 0),(lW 0),(lW 0),(lW 0),(lW 0),(lW 0),(lW 0),(lW 0),(lW 0),(lW 0),(lW 0),(lW 0),(lW 0),(lW 0),(lW 0)]:List Value).length∧(List.take n (List.take n (List.drop 0 (ns .u32 xs)))).all (·.oneCell')=true∧lspl ([(lW 0),(lW 0),(lW 0),(lW 0),(lW 0),(lW 0),(lW 0),(lW 0),(lW 0),(lW 0),(lW 0),(lW 0),(lW 0),(lW 0),(lW 0),(lW 0),(lW 0),(lW 0),(lW 0),(lW 0),(lW 0),(lW 0),(lW 0),(lW 0),(lW 0),(lW 0),(lW 0),(lW 0),(lW 0),(lW 0),(lW 0),(lW 0),(lW 0),(lW 0),(lW 0),(lW 0),(lW 0),(lW 0),(lW 0),(lW 0),(lW 0),(lW 0),(lW 0),(lW 0),(lW 0)]:List Value) 0 (List.take n (List.take n (List.drop 0 (ns .u32 xs))))=(ns .u32 F) from (by subst hF;exact ns_cpy hc h45)) tt)))) (aI (show 0+45≤(ns .u32 F).length∧(List.take 45 (List.drop 0 (ns .u32 F)))=(z_bbd_0 F) from⟨by rw[ns_length,hl];exact Nat.le_refl _,by rw[full_list hl];rfl⟩) tt)) (Gets.refl _)
theorem fu_c(n0 b:Nat)(xs:List Nat)(n c:Nat)(sx:Bool)(hb:5≤b∧b<n0)(hc:n≤xs.length)(h45:n≤45):
  FT 176 #[.agg #[.bool sx,sl b n c]] n0 [(b,cU xs)] (fv (fl45 xs n)) [(b,some (cU xs))] []:=
 fsp_flat [b] [cU xs] [cU xs] [] [] n0 (fu_o xs (fl45 xs n) n c sx hc h45 rfl (fl45_len hc h45)) rfl rfl rfl (by simp) (by simp;omega) (by omega) (by simp[flat,ns_closed]) (by simp[flat,ns_closed]) rfl (by simp) (by simp) rfl rfl rfl
theorem neg_f:CT 125 #[bF] (mkH 5 []) bF (mkH 5 []):=
 sF (sc:=[(10,.stay)]) (by kernel_rfl) tt (Gets.refl _)
theorem neg_fc(n0:Nat)(hG:5≤n0):FT 125 #[bF] n0 [] bF [] []:=
 fsp_flat [] [] [] [] [] n0 (neg_f) rfl rfl rfl (by simp) (by simp) hG rfl rfl rfl (by simp) (by simp) rfl rfl rfl
theorem neg_t:CT 125 #[bT] (mkH 5 []) bT (mkH 5 []):=
 sF (sc:=[(10,.stay)]) (by kernel_rfl) tt (Gets.refl _)
theorem neg_tc(n0:Nat)(hG:5≤n0):FT 125 #[bT] n0 [] bT [] []:=
 fsp_flat [] [] [] [] [] n0 (neg_t) rfl rfl rfl (by simp) (by simp) hG rfl rfl rfl (by simp) (by simp) rfl rfl rfl
noncomputable section
abbrev z_76a_0(xs ys:List Nat):List (Nat×AObj):=[(5,(cU xs)),(6,(cU ys))]
end
def cmpZ(a b:Int):Int:=if a<b then -1 else if a=b then 0 else 1
theorem cmpZ_lt{a b:Int}(h:a<b):cmpZ a b= -1:=by unfold cmpZ;rw[if_pos h]
theorem cmpZ_eq{a b:Int}(h:a=b):cmpZ a b=0:=by unfold cmpZ;rw[if_neg (by omega),if_pos h]
theorem cmpZ_gt{a b:Int}(h:b<a):cmpZ a b=1:=by unfold cmpZ;rw[if_neg (by omega),if_neg (by omega)]
theorem nc_ffe(xs ys:List Nat)(n c k e:Nat)(hc:n≤xs.length)(hk:k≤ys.length)(h45:n≤45)(hk45:k≤45)(l1:(fl45 xs n).length=45)(l2:(fl45 ys k).length=45)(he:fl45 xs n=fl45 ys k):CT 137 #[(.agg #[bF,(sl 5 n c)]),(.agg #[bF,(sl 6 k e)])] (mkH 7 (z_76a_0 xs ys)) (lI 0) (mkH 9 (z_76a_0 xs ys)):=
 sF (sc:=[(8,.drwM [(10,.eqA true)] [⟨7,[5],(fv (fl45 xs n)),[(5,some (cU xs))],[]⟩,⟨9,[6],(fv (fl45 ys k)),[(6,some (cU ys))],[]⟩]),(6,.stay)]) (by kernel_rfl) (aI (aI tt (aI tt (aI tt (aI tt (aI tt (aI tt (aI tt (aI tt (aI (fu_c 9 5 xs n c false (by omega) (by omega) (by omega)) (aI (fu_c 9 6 ys k e false (by omega) (by omega) (by omega)) (aI (show eqInts (fvl (fl45 xs n)) (fvl (fl45 ys k))=true from (eq_full l1 l2 true (by simp[he]))) (aI tt tt)))))))))))) tt) (Gets.refl _)
theorem nc_ffl(xs ys:List Nat)(n c k e:Nat)(hc:n≤xs.length)(hk:k≤ys.length)(h45:n≤45)(hk45:k≤45)(l1:(fl45 xs n).length=45)(l2:(fl45 ys k).length=45)(he: ¬fl45 xs n=fl45 ys k)(q:Int)(hq:(FT 152 #[sl 5 n c,sl 6 k e] 11 [(5,cU xs),(6,cU ys)] (.int .i64 q) [(5,some (cU xs)),(6,some (cU ys))] []))(h0:q<0):CT 137 #[(.agg #[bF,(sl 5 n c)]),(.agg #[bF,(sl 6 k e)])] (mkH 7 (z_76a_0 xs ys)) (.int .i64 (.negSucc 0)) (mkH 11 (z_76a_0 xs ys)):=
 sF (sc:=[(8,.drwM [(10,.eqA false)] [⟨7,[5],(fv (fl45 xs n)),[(5,some (cU xs))],[]⟩,⟨9,[6],(fv (fl45 ys k)),[(6,some (cU ys))],[]⟩]),(16,.drwM [] [⟨2,[],bF,[],[]⟩,⟨5,[],bF,[],[]⟩]),(7,.call [] bF [] []),(9,.call [5,6] (.int .i64 q) [(5,some (cU xs)),(6,some (cU ys))] []),(0,.op (.rwB true)),(11,.stay)]) (by kernel_rfl) (aI (aI tt (aI tt (aI tt (aI tt (aI tt (aI tt (aI tt (aI tt (aI (fu_c 9 5 xs n c false (by omega) (by omega) (by omega)) (aI (fu_c 9 6 ys k e false (by omega) (by omega) (by omega)) (aI (show eqInts (fvl (fl45 xs n)) (fvl (fl45 ys k))=false from (eq_full l1 l2 false (by simp[he]))) (aI tt tt)))))))))))) (aI (aI tt (aI tt (aI tt (aI tt (aI (neg_fc 11 (by omega)) (aI (neg_fc 11 (by omega)) (aI tt tt))))))) (aI (neg_fc 11 (by omega)) (aI hq (aI (dT (p:=q<(0:Int))) tt))))) (Gets.refl _)
theorem nc_ffg(xs ys:List Nat)(n c k e:Nat)(hc:n≤xs.length)(hk:k≤ys.length)(h45:n≤45)(hk45:k≤45)(l1:(fl45 xs n).length=45)(l2:(fl45 ys k).length=45)(he: ¬fl45 xs n=fl45 ys k)(q:Int)(hq:(FT 152 #[sl 5 n c,sl 6 k e] 11 [(5,cU xs),(6,cU ys)] (.int .i64 q) [(5,some (cU xs)),(6,some (cU ys))] []))(h0: ¬q<0):CT 137 #[(.agg #[bF,(sl 5 n c)]),(.agg #[bF,(sl 6 k e)])] (mkH 7 (z_76a_0 xs ys)) (lI 1) (mkH 11 (z_76a_0 xs ys)):=
 sF (sc:=[(8,.drwM [(10,.eqA false)] [⟨7,[5],(fv (fl45 xs n)),[(5,some (cU xs))],[]⟩,⟨9,[6],(fv (fl45 ys k)),[(6,some (cU ys))],[]⟩]),(16,.drwM [] [⟨2,[],bF,[],[]⟩,⟨5,[],bF,[],[]⟩]),(7,.call [] bF [] []),(9,.call [5,6] (.int .i64 q) [(5,some (cU xs)),(6,some (cU ys))] []),(0,.op (.rwB false)),(12,.stay)]) (by kernel_rfl) (aI (aI tt (aI tt (aI tt (aI tt (aI tt (aI tt (aI tt (aI tt (aI (fu_c 9 5 xs n c false (by omega) (by omega) (by omega)) (aI (fu_c 9 6 ys k e false (by omega) (by omega) (by omega)) (aI (show eqInts (fvl (fl45 xs n)) (fvl (fl45 ys k))=false from (eq_full l1 l2 false (by simp[he]))) (aI tt tt)))))))))))) (aI (aI tt (aI tt (aI tt (aI tt (aI (neg_fc 11 (by omega)) (aI (neg_fc 11 (by omega)) (aI tt tt))))))) (aI (neg_fc 11 (by omega)) (aI hq (aI (dF (p:=q<(0:Int))) tt))))) (Gets.refl _)
theorem nc_ftd(xs ys:List Nat)(n c k e:Nat)(hc:n≤xs.length)(hk:k≤ys.length)(h45:n≤45)(hk45:k≤45)(l1:(fl45 xs n).length=45)(l2:(fl45 ys k).length=45):CT 137 #[(.agg #[bF,(sl 5 n c)]),(.agg #[bT,(sl 6 k e)])] (mkH 7 (z_76a_0 xs ys)) (lI 1) (mkH 11 (z_76a_0 xs ys)):=
 sF (sc:=[(8,.drw []),(16,.drwM [] [⟨2,[],bF,[],[]⟩,⟨5,[],bT,[],[]⟩]),(5,.call [] bF [] []),(12,.stay)]) (by kernel_rfl) (aI (aI tt (aI tt (aI tt (aI tt (aI tt (aI tt (aI tt (aI tt (aI tt (aI tt (aI tt (aI tt tt)))))))))))) (aI (aI tt (aI tt (aI tt (aI tt (aI (neg_fc 11 (by omega)) (aI (neg_tc 11 (by omega)) (aI tt tt))))))) (aI (neg_fc 11 (by omega)) tt))) (Gets.refl _)
theorem nc_tfd(xs ys:List Nat)(n c k e:Nat)(hc:n≤xs.length)(hk:k≤ys.length)(h45:n≤45)(hk45:k≤45)(l1:(fl45 xs n).length=45)(l2:(fl45 ys k).length=45):CT 137 #[(.agg #[bT,(sl 5 n c)]),(.agg #[bF,(sl 6 k e)])] (mkH 7 (z_76a_0 xs ys)) (.int .i64 (.negSucc 0)) (mkH 11 (z_76a_0 xs ys)):=
 sF (sc:=[(8,.drw []),(16,.drwM [] [⟨2,[],bT,[],[]⟩,⟨5,[],bF,[],[]⟩]),(5,.call [] bT [] []),(11,.stay)]) (by kernel_rfl) (aI (aI tt (aI tt (aI tt (aI tt (aI tt (aI tt (aI tt (aI tt (aI tt (aI tt (aI tt (aI tt tt)))))))))))) (aI (aI tt (aI tt (aI tt (aI tt (aI (neg_tc 11 (by omega)) (aI (neg_fc 11 (by omega)) (aI tt tt))))))) (aI (neg_tc 11 (by omega)) tt))) (Gets.refl _)
theorem nc_tte(xs ys:List Nat)(n c k e:Nat)(hc:n≤xs.length)(hk:k≤ys.length)(h45:n≤45)(hk45:k≤45)(l1:(fl45 xs n).length=45)(l2:(fl45 ys k).length=45)(he:fl45 xs n=fl45 ys k):CT 137 #[(.agg #[bT,(sl 5 n c)]),(.agg #[bT,(sl 6 k e)])] (mkH 7 (z_76a_0 xs ys)) (lI 0) (mkH 9 (z_76a_0 xs ys)):=
 sF (sc:=[(8,.drwM [(10,.eqA true)] [⟨7,[5],(fv (fl45 xs n)),[(5,some (cU xs))],[]⟩,⟨9,[6],(fv (fl45 ys k)),[(6,some (cU ys))],[]⟩]),(6,.stay)]) (by kernel_rfl) (aI (aI tt (aI tt (aI tt (aI tt (aI tt (aI tt (aI tt (aI tt (aI (fu_c 9 5 xs n c true (by omega) (by omega) (by omega)) (aI (fu_c 9 6 ys k e true (by omega) (by omega) (by omega)) (aI (show eqInts (fvl (fl45 xs n)) (fvl (fl45 ys k))=true from (eq_full l1 l2 true (by simp[he]))) (aI tt tt)))))))))))) tt) (Gets.refl _)
theorem nc_ttl(xs ys:List Nat)(n c k e:Nat)(hc:n≤xs.length)(hk:k≤ys.length)(h45:n≤45)(hk45:k≤45)(l1:(fl45 xs n).length=45)(l2:(fl45 ys k).length=45)(he: ¬fl45 xs n=fl45 ys k)(q:Int)(hq:(FT 152 #[sl 6 k e,sl 5 n c] 11 [(6,cU ys),(5,cU xs)] (.int .i64 q) [(6,some (cU ys)),(5,some (cU xs))] []))(h0:q<0):CT 137 #[(.agg #[bT,(sl 5 n c)]),(.agg #[bT,(sl 6 k e)])] (mkH 7 (z_76a_0 xs ys)) (.int .i64 (.negSucc 0)) (mkH 11 (z_76a_0 xs ys)):=
 sF (sc:=[(8,.drwM [(10,.eqA false)] [⟨7,[5],(fv (fl45 xs n)),[(5,some (cU xs))],[]⟩,⟨9,[6],(fv (fl45 ys k)),[(6,some (cU ys))],[]⟩]),(16,.drwM [] [⟨2,[],bT,[],[]⟩,⟨5,[],bT,[],[]⟩]),(7,.call [] bT [] []),(14,.call [6,5] (.int .i64 q) [(6,some (cU ys)),(5,some (cU xs))] []),(0,.op (.rwB true)),(11,.stay)]) (by kernel_rfl) (aI (aI tt (aI tt (aI tt (aI tt (aI tt (aI tt (aI tt (aI tt (aI (fu_c 9 5 xs n c true (by omega) (by omega) (by omega)) (aI (fu_c 9 6 ys k e true (by omega) (by omega) (by omega)) (aI (show eqInts (fvl (fl45 xs n)) (fvl (fl45 ys k))=false from (eq_full l1 l2 false (by simp[he]))) (aI tt tt)))))))))))) (aI (aI tt (aI tt (aI tt (aI tt (aI (neg_tc 11 (by omega)) (aI (neg_tc 11 (by omega)) (aI tt tt))))))) (aI (neg_tc 11 (by omega)) (aI hq (aI (dT (p:=q<(0:Int))) tt))))) (Gets.refl _)
theorem nc_ttg(xs ys:List Nat)(n c k e:Nat)(hc:n≤xs.length)(hk:k≤ys.length)(h45:n≤45)(hk45:k≤45)(l1:(fl45 xs n).length=45)(l2:(fl45 ys k).length=45)(he: ¬fl45 xs n=fl45 ys k)(q:Int)(hq:(FT 152 #[sl 6 k e,sl 5 n c] 11 [(6,cU ys),(5,cU xs)] (.int .i64 q) [(6,some (cU ys)),(5,some (cU xs))] []))(h0: ¬q<0):CT 137 #[(.agg #[bT,(sl 5 n c)]),(.agg #[bT,(sl 6 k e)])] (mkH 7 (z_76a_0 xs ys)) (lI 1) (mkH 11 (z_76a_0 xs ys)):=
 sF (sc:=[(8,.drwM [(10,.eqA false)] [⟨7,[5],(fv (fl45 xs n)),[(5,some (cU xs))],[]⟩,⟨9,[6],(fv (fl45 ys k)),[(6,some (cU ys))],[]⟩]),(16,.drwM [] [⟨2,[],bT,[],[]⟩,⟨5,[],bT,[],[]⟩]),(7,.call [] bT [] []),(14,.call [6,5] (.int .i64 q) [(6,some (cU ys)),(5,some (cU xs))] []),(0,.op (.rwB false)),(12,.stay)]) (by kernel_rfl) (aI (aI tt (aI tt (aI tt (aI tt (aI tt (aI tt (aI tt (aI tt (aI (fu_c 9 5 xs n c true (by omega) (by omega) (by omega)) (aI (fu_c 9 6 ys k e true (by omega) (by omega) (by omega)) (aI (show eqInts (fvl (fl45 xs n)) (fvl (fl45 ys k))=false from (eq_full l1 l2 false (by simp[he]))) (aI tt tt)))))))))))) (aI (aI tt (aI tt (aI tt (aI tt (aI (neg_tc 11 (by omega)) (aI (neg_tc 11 (by omega)) (aI tt tt))))))) (aI (neg_tc 11 (by omega)) (aI hq (aI (dF (p:=q<(0:Int))) tt))))) (Gets.refl _)
theorem nc_c(n0 bx byy:Nat)(xs ys:List Nat)(n c k e:Nat)(sx sy:Bool)(hb:5≤bx∧bx<n0∧5≤byy∧byy<n0∧bx≠byy)(hlx:Lim xs)(hly:Lim ys)(hc:n≤xs.length)(hk:k≤ys.length)(h45:n≤45)(hk45:k≤45)
  (hx:0<n→xs.getD (n-1) 0≠0) (hy:0<k→ys.getD (k-1) 0≠0) (hsx:sx=true→0<n) (hsy:sy=true→0<k):
  FT 137 #[.agg #[.bool sx,sl bx n c],.agg #[.bool sy,sl byy k e]] n0 [(bx,cU xs),(byy,cU ys)] (.int .i64 (cmpZ (iv sx (val (xs.take n))) (iv sy (val (ys.take k)))))
    [(bx,some (cU xs)),(byy,some (cU ys))] []:=by
 have l1:=fl45_len hc h45
 have l2:=fl45_len hk hk45
 cases sx with
 |false=>cases sy with
  |false=>
   by_cases hv:val (xs.take n)=val (ys.take k)
   ·have he:fl45 xs n=fl45 ys k:=val_inj (fl45_lim hlx) (fl45_lim hly) (by rw[l1,l2]) (by rw[fl45_val,fl45_val,hv])
    rw[cmpZ_eq (by rw[iv_f,iv_f,hv])]
    exact fsp_flat [bx,byy] [cU xs,cU ys] [cU xs,cU ys] [] [] n0 (nc_ffe xs ys n c k e hc hk h45 hk45 l1 l2 he) rfl rfl rfl (by simp[hb.2.2.2.2]) (by simp;omega) (by omega) (by simp[flat,ns_closed]) (by simp[flat,ns_closed]) rfl (by simp) (by simp) rfl rfl rfl
   ·have he: ¬fl45 xs n=fl45 ys k:=fun q=>hv (by rw[←fl45_val xs,←fl45_val ys,q])
    have hq:=cmp_c 11 5 6 xs ys n c k e (by omega) hlx hly hc hk (by omega) (by omega) hx hy
    by_cases h0:val (xs.take n)<val (ys.take k)
    ·rw[cmpZ_lt (by rw[iv_f,iv_f];omega)]
     exact fsp_flat [bx,byy] [cU xs,cU ys] [cU xs,cU ys] [] [] n0 (nc_ffl xs ys n c k e hc hk h45 hk45 l1 l2 he _ hq (cmpN_neg.2 h0)) rfl rfl rfl (by simp[hb.2.2.2.2]) (by simp;omega) (by omega) (by simp[flat,ns_closed]) (by simp[flat,ns_closed]) rfl (by simp) (by simp) rfl rfl rfl
    ·rw[cmpZ_gt (by rw[iv_f,iv_f];omega)]
     exact fsp_flat [bx,byy] [cU xs,cU ys] [cU xs,cU ys] [] [] n0 (nc_ffg xs ys n c k e hc hk h45 hk45 l1 l2 he _ hq (fun q=>h0 (cmpN_neg.1 q))) rfl rfl rfl (by simp[hb.2.2.2.2]) (by simp;omega) (by omega) (by simp[flat,ns_closed]) (by simp[flat,ns_closed]) rfl (by simp) (by simp) rfl rfl rfl
  |true=>
   have hpy:=val_pos (hsy rfl) hy
   rw[cmpZ_gt (by rw[iv_t,iv_f];omega)]
   exact fsp_flat [bx,byy] [cU xs,cU ys] [cU xs,cU ys] [] [] n0 (nc_ftd xs ys n c k e hc hk h45 hk45 l1 l2) rfl rfl rfl (by simp[hb.2.2.2.2]) (by simp;omega) (by omega) (by simp[flat,ns_closed]) (by simp[flat,ns_closed]) rfl (by simp) (by simp) rfl rfl rfl
 |true=>cases sy with
  |false=>
   have hpx:=val_pos (hsx rfl) hx
   rw[cmpZ_lt (by rw[iv_t,iv_f];omega)]
   exact fsp_flat [bx,byy] [cU xs,cU ys] [cU xs,cU ys] [] [] n0 (nc_tfd xs ys n c k e hc hk h45 hk45 l1 l2) rfl rfl rfl (by simp[hb.2.2.2.2]) (by simp;omega) (by omega) (by simp[flat,ns_closed]) (by simp[flat,ns_closed]) rfl (by simp) (by simp) rfl rfl rfl
  |true=>
   by_cases hv:val (xs.take n)=val (ys.take k)
   ·have he:fl45 xs n=fl45 ys k:=val_inj (fl45_lim hlx) (fl45_lim hly) (by rw[l1,l2]) (by rw[fl45_val,fl45_val,hv])
    rw[cmpZ_eq (by rw[iv_t,iv_t,hv])]
    exact fsp_flat [bx,byy] [cU xs,cU ys] [cU xs,cU ys] [] [] n0 (nc_tte xs ys n c k e hc hk h45 hk45 l1 l2 he) rfl rfl rfl (by simp[hb.2.2.2.2]) (by simp;omega) (by omega) (by simp[flat,ns_closed]) (by simp[flat,ns_closed]) rfl (by simp) (by simp) rfl rfl rfl
   ·have he: ¬fl45 xs n=fl45 ys k:=fun q=>hv (by rw[←fl45_val xs,←fl45_val ys,q])
    have hq:=cmp_c 11 6 5 ys xs k e n c (by omega) hly hlx hk hc (by omega) (by omega) hy hx
    by_cases h0:val (ys.take k)<val (xs.take n)
    ·rw[cmpZ_lt (by rw[iv_t,iv_t];omega)]
     exact fsp_flat [bx,byy] [cU xs,cU ys] [cU xs,cU ys] [] [] n0 (nc_ttl xs ys n c k e hc hk h45 hk45 l1 l2 he _ hq (cmpN_neg.2 h0)) rfl rfl rfl (by simp[hb.2.2.2.2]) (by simp;omega) (by omega) (by simp[flat,ns_closed]) (by simp[flat,ns_closed]) rfl (by simp) (by simp) rfl rfl rfl
    ·rw[cmpZ_gt (by rw[iv_t,iv_t];omega)]
     exact fsp_flat [bx,byy] [cU xs,cU ys] [cU xs,cU ys] [] [] n0 (nc_ttg xs ys n c k e hc hk h45 hk45 l1 l2 he _ hq (fun q=>h0 (cmpN_neg.1 q))) rfl rfl rfl (by simp[hb.2.2.2.2]) (by simp;omega) (by omega) (by simp[flat,ns_closed]) (by simp[flat,ns_closed]) rfl (by simp) (by simp) rfl rfl rfl
end Go.Proofs.YtldoiilgfcpipaaGreatDoor
