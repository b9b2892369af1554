import Derived.Test.YtldoiilgfcpipaaGreatDoorPRText
import Derived.Test.YtldoiilgfcpipaaGreatDoorPRLimbs
import Derived.Test.YtldoiilgfcpipaaGreatDoorRPlus
import Derived.Test.YtldoiilgfcpipaaGreatDoorPRMinus
import Derived.Test.YtldoiilgfcpipaaGreatDoorPRTextC
import Derived.Test.YtldoiilgfcpipaaGreatDoorPDec
import Derived.Test.YtldoiilgfcpipaaGreatDoorPWf
import Derived.Test.YtldoiilgfcpipaaGreatDoorPNatOf
set_option linter.unusedVariables false
set_option linter.unusedSimpArgs false
set_option maxRecDepth 100000
namespace Go.Proofs.YtldoiilgfcpipaaGreatDoor
open Go Go.AE Seg
noncomputable section
abbrev z_f7e_0(l1:List Nat):AObj:=.cells (ns .i64 l1) 3 (some 1) false
abbrev z_f7e_1(l2:List Nat):AObj:=.cells (ns .i64 l2) 3 (some 1) false
abbrev z_f7e_2(os:List Nat):AObj:=.cells (ns .i64 os) 3 (some 1) false
abbrev z_f7e_3:Value:=.tuple #[.int .i64 0,.int .i64 0,.bool false]
abbrev z_f7e_4(x y:Int):Value:=.int .i64 (cmpN x.natAbs y.natAbs)
abbrev z_f7e_5(x y:Int):Array Value:= #[(.string (istr x)),(.string (istr y))]
abbrev z_f7e_6(x y:Int):Array Value:= #[.string (istr x),.string (istr y)]
abbrev z_f7e_7:Value:=.tuple #[(lI 0),(lI 0),bF]
end
theorem pn_s(x y:Int)(hsm: ∀n0,5≤n0→FT 86 (z_f7e_6 x y) n0 [] (.tuple #[.int .i64 x,.int .i64 y,.bool true]) [] [])(hx:x.natAbs<1000000000)(hy:y.natAbs<1000000000):CT 40 (z_f7e_5 x y) (mkH 5 []) (.string (istr (x+y))) (mkH 5 []):=
 sF (sc:=[(9,.call [] (.tuple #[(.int .i64 x),(.int .i64 y),bT]) [] []),(17,.op (.rwI (x+y))),(0,.call [] (.string (istr (x+y))) [] []),(3,.stay)]) (by kernel_rfl) (aI (hsm 5 (by omega)) (aI (wI64 (a:=(x+y)) (r:=(x+y))) (aI (oi_i (x+y) 5 (by omega) (by omega)) tt))) (Gets.refl _)
theorem pn_pp(x y:Int)(l1 l2 os:List Nat)(t1 t2 t:Nat)(hsm: ∀n0,5≤n0→FT 86 (z_f7e_6 x y) n0 [] z_f7e_3 [] [])(hl1: ∀n0,5≤n0→FT 87 #[.string (dstr (digs x.natAbs))] n0 [] (sl n0 t1 0) [] [.cells (ns .i64 l1) 3 (some 1) false])(hl2: ∀n0,5≤n0→FT 87 #[.string (dstr (digs y.natAbs))] n0 [] (sl n0 t2 0) [] [.cells (ns .i64 l2) 3 (some 1) false])(hnx: ∀n0,5≤n0→FT 44 #[.string (istr x)] n0 [] bF [] [])(hny: ∀n0,5≤n0→FT 44 #[.string (istr y)] n0 [] bF [] [])(hp: ∀(n0 b1 b2:Nat),5≤b1→b1<n0→5≤b2→b2<n0→b1≠b2→FT 89 #[sl b1 t1 0,sl b2 t2 0] n0 [(b1,.cells (ns .i64 l1) 3 (some 1) false),(b2,.cells (ns .i64 l2) 3 (some 1) false)] (sl n0 t 0) [(b1,some (z_f7e_0 l1)),(b2,some (z_f7e_1 l2))] [.cells (ns .i64 os) 3 (some 1) false])(hs: ∀n0 b,5≤b∧b<n0→FT 88 #[.bool false,sl b t 0] n0 [(b,.cells (ns .i64 os) 3 (some 1) false)] (.string (istr (x+y))) [(b,some (z_f7e_2 os))] []):CT 40 (z_f7e_5 x y) (mkH 5 []) (.string (istr (x+y))) (mkH 8 []):=
 sF (sc:=[(9,.call [] z_f7e_7 [] []),(17,.call [] (.string (dstr (digs x.natAbs))) [] []),(0,.call [] (sl 5 t1 0) [] [(z_f7e_0 l1)]),(1,.call [] (.string (dstr (digs y.natAbs))) [] []),(0,.call [] (sl 6 t2 0) [] [(z_f7e_1 l2)]),(7,.call [] bF [] []),(1,.call [] bF [] []),(6,.call [] bF [] []),(2,.call [5,6] (sl 7 t 0) [(5,some (z_f7e_0 l1)),(6,some (z_f7e_1 l2))] [(z_f7e_2 os)]),(0,.call [7] (.string (istr (x+y))) [(7,some (z_f7e_2 os))] []),(3,.stay)]) (by kernel_rfl) (aI (hsm 5 (by omega)) (aI (ab_i x 5 (by omega)) (aI (hl1 5 (by omega)) (aI (ab_i y 6 (by omega)) (aI (hl2 6 (by omega)) (aI (hnx 7 (by omega)) (aI (hny 7 (by omega)) (aI (hnx 7 (by omega)) (aI (hp 7 5 6 (by omega) (by omega) (by omega) (by omega) (by omega)) (aI (hs 8 7 (by omega)) tt)))))))))) (Gets.refl _)
theorem pn_mm(x y:Int)(l1 l2 os:List Nat)(t1 t2 t:Nat)(hsm: ∀n0,5≤n0→FT 86 (z_f7e_6 x y) n0 [] z_f7e_3 [] [])(hl1: ∀n0,5≤n0→FT 87 #[.string (dstr (digs x.natAbs))] n0 [] (sl n0 t1 0) [] [.cells (ns .i64 l1) 3 (some 1) false])(hl2: ∀n0,5≤n0→FT 87 #[.string (dstr (digs y.natAbs))] n0 [] (sl n0 t2 0) [] [.cells (ns .i64 l2) 3 (some 1) false])(hnx: ∀n0,5≤n0→FT 44 #[.string (istr x)] n0 [] bT [] [])(hny: ∀n0,5≤n0→FT 44 #[.string (istr y)] n0 [] bT [] [])(hp: ∀(n0 b1 b2:Nat),5≤b1→b1<n0→5≤b2→b2<n0→b1≠b2→FT 89 #[sl b1 t1 0,sl b2 t2 0] n0 [(b1,.cells (ns .i64 l1) 3 (some 1) false),(b2,.cells (ns .i64 l2) 3 (some 1) false)] (sl n0 t 0) [(b1,some (z_f7e_0 l1)),(b2,some (z_f7e_1 l2))] [.cells (ns .i64 os) 3 (some 1) false])(hs: ∀n0 b,5≤b∧b<n0→FT 88 #[.bool true,sl b t 0] n0 [(b,.cells (ns .i64 os) 3 (some 1) false)] (.string (istr (x+y))) [(b,some (z_f7e_2 os))] []):CT 40 (z_f7e_5 x y) (mkH 5 []) (.string (istr (x+y))) (mkH 8 []):=
 sF (sc:=[(9,.call [] z_f7e_7 [] []),(17,.call [] (.string (dstr (digs x.natAbs))) [] []),(0,.call [] (sl 5 t1 0) [] [(z_f7e_0 l1)]),(1,.call [] (.string (dstr (digs y.natAbs))) [] []),(0,.call [] (sl 6 t2 0) [] [(z_f7e_1 l2)]),(7,.call [] bT [] []),(1,.call [] bT [] []),(6,.call [] bT [] []),(2,.call [5,6] (sl 7 t 0) [(5,some (z_f7e_0 l1)),(6,some (z_f7e_1 l2))] [(z_f7e_2 os)]),(0,.call [7] (.string (istr (x+y))) [(7,some (z_f7e_2 os))] []),(3,.stay)]) (by kernel_rfl) (aI (hsm 5 (by omega)) (aI (ab_i x 5 (by omega)) (aI (hl1 5 (by omega)) (aI (ab_i y 6 (by omega)) (aI (hl2 6 (by omega)) (aI (hnx 7 (by omega)) (aI (hny 7 (by omega)) (aI (hnx 7 (by omega)) (aI (hp 7 5 6 (by omega) (by omega) (by omega) (by omega) (by omega)) (aI (hs 8 7 (by omega)) tt)))))))))) (Gets.refl _)
theorem pn_pml(x y:Int)(l1 l2 os:List Nat)(t1 t2 t:Nat)(hsm: ∀n0,5≤n0→FT 86 (z_f7e_6 x y) n0 [] z_f7e_3 [] [])(hl1: ∀n0,5≤n0→FT 87 #[.string (dstr (digs x.natAbs))] n0 [] (sl n0 t1 0) [] [.cells (ns .i64 l1) 3 (some 1) false])(hl2: ∀n0,5≤n0→FT 87 #[.string (dstr (digs y.natAbs))] n0 [] (sl n0 t2 0) [] [.cells (ns .i64 l2) 3 (some 1) false])(hnx: ∀n0,5≤n0→FT 44 #[.string (istr x)] n0 [] bF [] [])(hny: ∀n0,5≤n0→FT 44 #[.string (istr y)] n0 [] bT [] [])(hcm: ∀(n0 b1 b2:Nat),5≤b1→b1<n0→5≤b2→b2<n0→b1≠b2→FT 90 #[sl b1 t1 0,sl b2 t2 0] n0 [(b1,.cells (ns .i64 l1) 3 (some 1) false),(b2,.cells (ns .i64 l2) 3 (some 1) false)] (z_f7e_4 x y) [(b1,some (z_f7e_0 l1)),(b2,some (z_f7e_1 l2))] [])(hp: ∀(n0 b1 b2:Nat),5≤b1→b1<n0→5≤b2→b2<n0→b1≠b2→FT 91 #[sl b1 t2 0,sl b2 t1 0] n0 [(b1,.cells (ns .i64 l2) 3 (some 1) false),(b2,.cells (ns .i64 l1) 3 (some 1) false)] (sl n0 t 0) [(b1,some (z_f7e_1 l2)),(b2,some (z_f7e_0 l1))] [.cells (ns .i64 os) 3 (some 1) false])(hlt:cmpN x.natAbs y.natAbs<0)(hs: ∀n0 b,5≤b∧b<n0→FT 88 #[.bool true,sl b t 0] n0 [(b,.cells (ns .i64 os) 3 (some 1) false)] (.string (istr (x+y))) [(b,some (z_f7e_2 os))] []):CT 40 (z_f7e_5 x y) (mkH 5 []) (.string (istr (x+y))) (mkH 8 []):=
 sF (sc:=[(9,.call [] z_f7e_7 [] []),(17,.call [] (.string (dstr (digs x.natAbs))) [] []),(0,.call [] (sl 5 t1 0) [] [(z_f7e_0 l1)]),(1,.call [] (.string (dstr (digs y.natAbs))) [] []),(0,.call [] (sl 6 t2 0) [] [(z_f7e_1 l2)]),(7,.call [] bF [] []),(1,.call [] bT [] []),(9,.call [5,6] (z_f7e_4 x y) [(5,some (z_f7e_0 l1)),(6,some (z_f7e_1 l2))] []),(0,.op (.rwB true)),(5,.call [] bT [] []),(2,.call [6,5] (sl 7 t 0) [(6,some (z_f7e_1 l2)),(5,some (z_f7e_0 l1))] [(z_f7e_2 os)]),(0,.call [7] (.string (istr (x+y))) [(7,some (z_f7e_2 os))] []),(3,.stay)]) (by kernel_rfl) (aI (hsm 5 (by omega)) (aI (ab_i x 5 (by omega)) (aI (hl1 5 (by omega)) (aI (ab_i y 6 (by omega)) (aI (hl2 6 (by omega)) (aI (hnx 7 (by omega)) (aI (hny 7 (by omega)) (aI (hcm 7 5 6 (by omega) (by omega) (by omega) (by omega) (by omega)) (aI (dT (p:=(cmpN x.natAbs y.natAbs)<(0:Int))) (aI (hny 7 (by omega)) (aI (hp 7 6 5 (by omega) (by omega) (by omega) (by omega) (by omega)) (aI (hs 8 7 (by omega)) tt)))))))))))) (Gets.refl _)
theorem pn_pmg(x y:Int)(l1 l2 os:List Nat)(t1 t2 t:Nat)(hsm: ∀n0,5≤n0→FT 86 (z_f7e_6 x y) n0 [] z_f7e_3 [] [])(hl1: ∀n0,5≤n0→FT 87 #[.string (dstr (digs x.natAbs))] n0 [] (sl n0 t1 0) [] [.cells (ns .i64 l1) 3 (some 1) false])(hl2: ∀n0,5≤n0→FT 87 #[.string (dstr (digs y.natAbs))] n0 [] (sl n0 t2 0) [] [.cells (ns .i64 l2) 3 (some 1) false])(hnx: ∀n0,5≤n0→FT 44 #[.string (istr x)] n0 [] bF [] [])(hny: ∀n0,5≤n0→FT 44 #[.string (istr y)] n0 [] bT [] [])(hcm: ∀(n0 b1 b2:Nat),5≤b1→b1<n0→5≤b2→b2<n0→b1≠b2→FT 90 #[sl b1 t1 0,sl b2 t2 0] n0 [(b1,.cells (ns .i64 l1) 3 (some 1) false),(b2,.cells (ns .i64 l2) 3 (some 1) false)] (z_f7e_4 x y) [(b1,some (z_f7e_0 l1)),(b2,some (z_f7e_1 l2))] [])(hp: ∀(n0 b1 b2:Nat),5≤b1→b1<n0→5≤b2→b2<n0→b1≠b2→FT 91 #[sl b1 t1 0,sl b2 t2 0] n0 [(b1,.cells (ns .i64 l1) 3 (some 1) false),(b2,.cells (ns .i64 l2) 3 (some 1) false)] (sl n0 t 0) [(b1,some (z_f7e_0 l1)),(b2,some (z_f7e_1 l2))] [.cells (ns .i64 os) 3 (some 1) false])(hge: ¬cmpN x.natAbs y.natAbs<0)(hs: ∀n0 b,5≤b∧b<n0→FT 88 #[.bool false,sl b t 0] n0 [(b,.cells (ns .i64 os) 3 (some 1) false)] (.string (istr (x+y))) [(b,some (z_f7e_2 os))] []):CT 40 (z_f7e_5 x y) (mkH 5 []) (.string (istr (x+y))) (mkH 8 []):=
 sF (sc:=[(9,.call [] z_f7e_7 [] []),(17,.call [] (.string (dstr (digs x.natAbs))) [] []),(0,.call [] (sl 5 t1 0) [] [(z_f7e_0 l1)]),(1,.call [] (.string (dstr (digs y.natAbs))) [] []),(0,.call [] (sl 6 t2 0) [] [(z_f7e_1 l2)]),(7,.call [] bF [] []),(1,.call [] bT [] []),(9,.call [5,6] (z_f7e_4 x y) [(5,some (z_f7e_0 l1)),(6,some (z_f7e_1 l2))] []),(0,.op (.rwB false)),(6,.call [] bF [] []),(2,.call [5,6] (sl 7 t 0) [(5,some (z_f7e_0 l1)),(6,some (z_f7e_1 l2))] [(z_f7e_2 os)]),(0,.call [7] (.string (istr (x+y))) [(7,some (z_f7e_2 os))] []),(3,.stay)]) (by kernel_rfl) (aI (hsm 5 (by omega)) (aI (ab_i x 5 (by omega)) (aI (hl1 5 (by omega)) (aI (ab_i y 6 (by omega)) (aI (hl2 6 (by omega)) (aI (hnx 7 (by omega)) (aI (hny 7 (by omega)) (aI (hcm 7 5 6 (by omega) (by omega) (by omega) (by omega) (by omega)) (aI (dF (p:=(cmpN x.natAbs y.natAbs)<(0:Int))) (aI (hnx 7 (by omega)) (aI (hp 7 5 6 (by omega) (by omega) (by omega) (by omega) (by omega)) (aI (hs 8 7 (by omega)) tt)))))))))))) (Gets.refl _)
theorem pn_mpl(x y:Int)(l1 l2 os:List Nat)(t1 t2 t:Nat)(hsm: ∀n0,5≤n0→FT 86 (z_f7e_6 x y) n0 [] z_f7e_3 [] [])(hl1: ∀n0,5≤n0→FT 87 #[.string (dstr (digs x.natAbs))] n0 [] (sl n0 t1 0) [] [.cells (ns .i64 l1) 3 (some 1) false])(hl2: ∀n0,5≤n0→FT 87 #[.string (dstr (digs y.natAbs))] n0 [] (sl n0 t2 0) [] [.cells (ns .i64 l2) 3 (some 1) false])(hnx: ∀n0,5≤n0→FT 44 #[.string (istr x)] n0 [] bT [] [])(hny: ∀n0,5≤n0→FT 44 #[.string (istr y)] n0 [] bF [] [])(hcm: ∀(n0 b1 b2:Nat),5≤b1→b1<n0→5≤b2→b2<n0→b1≠b2→FT 90 #[sl b1 t1 0,sl b2 t2 0] n0 [(b1,.cells (ns .i64 l1) 3 (some 1) false),(b2,.cells (ns .i64 l2) 3 (some 1) false)] (z_f7e_4 x y) [(b1,some (z_f7e_0 l1)),(b2,some (z_f7e_1 l2))] [])(hp: ∀(n0 b1 b2:Nat),5≤b1→b1<n0→5≤b2→b2<n0→b1≠b2→FT 91 #[sl b1 t2 0,sl b2 t1 0] n0 [(b1,.cells (ns .i64 l2) 3 (some 1) false),(b2,.cells (ns .i64 l1) 3 (some 1) false)] (sl n0 t 0) [(b1,some (z_f7e_1 l2)),(b2,some (z_f7e_0 l1))] [.cells (ns .i64 os) 3 (some 1) false])(hlt:cmpN x.natAbs y.natAbs<0)(hs: ∀n0 b,5≤b∧b<n0→FT 88 #[.bool false,sl b t 0] n0 [(b,.cells (ns .i64 os) 3 (some 1) false)] (.string (istr (x+y))) [(b,some (z_f7e_2 os))] []):CT 40 (z_f7e_5 x y) (mkH 5 []) (.string (istr (x+y))) (mkH 8 []):=
 sF (sc:=[(9,.call [] z_f7e_7 [] []),(17,.call [] (.string (dstr (digs x.natAbs))) [] []),(0,.call [] (sl 5 t1 0) [] [(z_f7e_0 l1)]),(1,.call [] (.string (dstr (digs y.natAbs))) [] []),(0,.call [] (sl 6 t2 0) [] [(z_f7e_1 l2)]),(7,.call [] bT [] []),(1,.call [] bF [] []),(9,.call [5,6] (z_f7e_4 x y) [(5,some (z_f7e_0 l1)),(6,some (z_f7e_1 l2))] []),(0,.op (.rwB true)),(5,.call [] bF [] []),(2,.call [6,5] (sl 7 t 0) [(6,some (z_f7e_1 l2)),(5,some (z_f7e_0 l1))] [(z_f7e_2 os)]),(0,.call [7] (.string (istr (x+y))) [(7,some (z_f7e_2 os))] []),(3,.stay)]) (by kernel_rfl) (aI (hsm 5 (by omega)) (aI (ab_i x 5 (by omega)) (aI (hl1 5 (by omega)) (aI (ab_i y 6 (by omega)) (aI (hl2 6 (by omega)) (aI (hnx 7 (by omega)) (aI (hny 7 (by omega)) (aI (hcm 7 5 6 (by omega) (by omega) (by omega) (by omega) (by omega)) (aI (dT (p:=(cmpN x.natAbs y.natAbs)<(0:Int))) (aI (hny 7 (by omega)) (aI (hp 7 6 5 (by omega) (by omega) (by omega) (by omega) (by omega)) (aI (hs 8 7 (by omega)) tt)))))))))))) (Gets.refl _)
theorem pn_mpg(x y:Int)(l1 l2 os:List Nat)(t1 t2 t:Nat)(hsm: ∀n0,5≤n0→FT 86 (z_f7e_6 x y) n0 [] z_f7e_3 [] [])(hl1: ∀n0,5≤n0→FT 87 #[.string (dstr (digs x.natAbs))] n0 [] (sl n0 t1 0) [] [.cells (ns .i64 l1) 3 (some 1) false])(hl2: ∀n0,5≤n0→FT 87 #[.string (dstr (digs y.natAbs))] n0 [] (sl n0 t2 0) [] [.cells (ns .i64 l2) 3 (some 1) false])(hnx: ∀n0,5≤n0→FT 44 #[.string (istr x)] n0 [] bT [] [])(hny: ∀n0,5≤n0→FT 44 #[.string (istr y)] n0 [] bF [] [])(hcm: ∀(n0 b1 b2:Nat),5≤b1→b1<n0→5≤b2→b2<n0→b1≠b2→FT 90 #[sl b1 t1 0,sl b2 t2 0] n0 [(b1,.cells (ns .i64 l1) 3 (some 1) false),(b2,.cells (ns .i64 l2) 3 (some 1) false)] (z_f7e_4 x y) [(b1,some (z_f7e_0 l1)),(b2,some (z_f7e_1 l2))] [])(hp: ∀(n0 b1 b2:Nat),5≤b1→b1<n0→5≤b2→b2<n0→b1≠b2→FT 91 #[sl b1 t1 0,sl b2 t2 0] n0 [(b1,.cells (ns .i64 l1) 3 (some 1) false),(b2,.cells (ns .i64 l2) 3 (some 1) false)] (sl n0 t 0) [(b1,some (z_f7e_0 l1)),(b2,some (z_f7e_1 l2))] [.cells (ns .i64 os) 3 (some 1) false])(hge: ¬cmpN x.natAbs y.natAbs<0)(hs: ∀n0 b,5≤b∧b<n0→FT 88 #[.bool true,sl b t 0] n0 [(b,.cells (ns .i64 os) 3 (some 1) false)] (.string (istr (x+y))) [(b,some (z_f7e_2 os))] []):CT 40 (z_f7e_5 x y) (mkH 5 []) (.string (istr (x+y))) (mkH 8 []):=
 sF (sc:=[(9,.call [] z_f7e_7 [] []),(17,.call [] (.string (dstr (digs x.natAbs))) [] []),(0,.call [] (sl 5 t1 0) [] [(z_f7e_0 l1)]),(1,.call [] (.string (dstr (digs y.natAbs))) [] []),(0,.call [] (sl 6 t2 0) [] [(z_f7e_1 l2)]),(7,.call [] bT [] []),(1,.call [] bF [] []),(9,.call [5,6] (z_f7e_4 x y) [(5,some (z_f7e_0 l1)),(6,some (z_f7e_1 l2))] []),(0,.op (.rwB false)),(6,.call [] bT [] []),(2,.call [5,6] (sl 7 t 0) [(5,some (z_f7e_0 l1)),(6,some (z_f7e_1 l2))] [(z_f7e_2 os)]),(0,.call [7] (.string (istr (x+y))) [(7,some (z_f7e_2 os))] []),(3,.stay)]) (by kernel_rfl) (aI (hsm 5 (by omega)) (aI (ab_i x 5 (by omega)) (aI (hl1 5 (by omega)) (aI (ab_i y 6 (by omega)) (aI (hl2 6 (by omega)) (aI (hnx 7 (by omega)) (aI (hny 7 (by omega)) (aI (hcm 7 5 6 (by omega) (by omega) (by omega) (by omega) (by omega)) (aI (dF (p:=(cmpN x.natAbs y.natAbs)<(0:Int))) (aI (hnx 7 (by omega)) (aI (hp 7 5 6 (by omega) (by omega) (by omega) (by omega) (by omega)) (aI (hs 8 7 (by omega)) tt)))))))))))) (Gets.refl _)
theorem ne_i'(z:Int)(b:Bool)(hb:decide (z<0)=b): ∀n0,5≤n0→FT 44 #[.string (istr z)] n0 [] (.bool b) [] []:=by
 intro n0 hG
 subst hb
 rcases int_cases z with⟨k,rfl,hm⟩|⟨k,h0,rfl,hm⟩
 ·rw[istr_nn,show decide (((k:Nat):Int)<0)=false by rw[decide_eq_false_iff_not];omega]
  exact ne_pc n0 _ hG (digs_dig _) (digs_len_pos _)
 ·rw[istr_neg h0,show decide (-((k:Nat):Int)<0)=true by rw[decide_eq_true_eq];omega]
  exact ne_mc n0 _ hG
theorem sg_i(n0 b:Nat)(xs:List Nat)(n:Nat)(neg:Bool)(z:Int)(hb:5≤b∧b<n0)(hn:n≤xs.length)(hm:n<1000000000)(hlx:F.Lim xs)(hv:0<n→0<F.val (xs.take n))(hz:z=if neg=true then -((F.val (xs.take n):Nat):Int) else ((F.val (xs.take n):Nat):Int)):
  FT 88 #[.bool neg,sl b n 0] n0 [(b,.cells (ns .i64 xs) 3 (some 1) false)] (.string (istr z)) [(b,some (.cells (ns .i64 xs) 3 (some 1) false))] []:=by
 subst hz
 cases neg with
 |false=>
  simp only[Bool.false_eq_true,if_false,istr_nn]
  exact rsg_n_c n0 b xs n hb hn hm hlx
 |true=>
  simp only[if_true]
  rcases Nat.eq_zero_or_pos n with h0|h0
  ·have hz:F.val (xs.take n)=0:=by rw[h0];rfl
   have:=rsg_z_c n0 b xs n hb hn hm hlx h0
   rw[hz]at this ⊢
   rw[show -(((0:Nat)):Int)=((0:Nat):Int) from rfl,istr_nn]
   exact this
  ·rw[istr_neg (hv h0)]
   exact rsg_m_c n0 b xs n hb hn hm hlx h0
theorem pl_i(x y:Int)(n0:Nat)(hG:5≤n0)(hx:(digs x.natAbs).length≤100000000)(hy:(digs y.natAbs).length≤100000000):FT 40 #[.string (istr x),.string (istr y)] n0 [] (.string (istr (x+y))) [] []:=by
 by_cases hsml:(digs x.natAbs).length≤9∧(digs y.natAbs).length≤9
 ·have h1:=lt_of_ndig hsml.1
  have h2:=lt_of_ndig hsml.2
  exact fsp_flat [] [] [] [] [] n0 (pn_s x y (fun n0 h=>sm_t x y n0 h hsml.1 hsml.2) h1 h2) rfl rfl rfl (by simp) (by simp) hG rfl rfl rfl (by simp) (by simp) rfl rfl rfl
 have hsm:=fun n0 h=>sm_f x y n0 h hsml (by omega) (by omega)
 obtain⟨l1,t1,a1,a2,a3,av,at1,ha⟩:=lb_c (digs x.natAbs) (digs_dig _) (digs_len_pos _) (by omega)
 obtain⟨l2,t2,b1,b2,b3,bv,bt1,hb⟩:=lb_c (digs y.natAbs) (digs_dig _) (digs_len_pos _) (by omega)
 rw[digs_val]at av bv
 have hpos:0<x.natAbs∨0<y.natAbs:=by
  rcases Nat.eq_zero_or_pos x.natAbs with h|h
  ·rcases Nat.eq_zero_or_pos y.natAbs with h'|h'
   ·exfalso
    apply hsml
    rw[h,h',digs_zero]
    exact⟨by decide,by decide⟩
   ·exact .inr h'
  ·exact .inl h
 have ta:0<x.natAbs→0<t1:=fun h=>by
  rcases Nat.eq_zero_or_pos t1 with h'|h'
  ·rw[h',List.take_zero]at av
   have:F.val []=0:=rfl
   omega
  ·exact h'
 have tb:0<y.natAbs→0<t2:=fun h=>by
  rcases Nat.eq_zero_or_pos t2 with h'|h'
  ·rw[h',List.take_zero]at bv
   have:F.val []=0:=rfl
   omega
  ·exact h'
 by_cases hx0:x<0<;>by_cases hy0:y<0
 · · obtain⟨os,o1,o2,o3,o4,hp⟩:=rp_c l1 l2 t1 t2 a2 b2 a1 b1 (by omega) (by omega) (by omega)
     have ov:F.val (os.take os.length)=x.natAbs+y.natAbs:=by rw[List.take_length,o2,av,bv]
     exact fsp_flat [] [] [] [] [] n0 (pn_mm x y l1 l2 os t1 t2 os.length hsm ha hb (ne_i' x true (by simp[hx0])) (ne_i' y true (by simp[hy0])) hp (fun n0 b h=>sg_i n0 b os os.length true (x+y) h (Nat.le_refl _) (by omega) o1 (fun _=>by rw[ov];omega) (by rw[ov];simp;omega))) rfl rfl rfl (by simp) (by simp) hG rfl rfl rfl (by simp) (by simp) rfl rfl rfl
 · · have hcm:=fun (n0 b1_ b2_:Nat) (g1:5≤b1_) (g2:b1_<n0) (g3:5≤b2_) (g4:b2_<n0) (g5:b1_≠b2_)=>rc_c n0 b1_ b2_ l1 l2 t1 t2 ⟨g1,g2,g3,g4,g5⟩ a1 b1 a2 b2 (by omega) (by omega) at1 bt1
     rw[av,bv]at hcm
     by_cases hc:cmpN x.natAbs y.natAbs<0
     ·have hle:x.natAbs≤y.natAbs:=by have h:=cmpN_neg.1 hc;omega
      have ht:t1≤t2:=by
       rcases Nat.lt_or_ge t2 t1 with h|h
       ·have h3:=F.val_lt_of_len b1 b2 h at1
        rw[bv,av]at h3
        omega
       ·exact h
      obtain⟨os,t,o1,o2,o3,o4,hp⟩:=rm_c l2 l1 t2 t1 b2 a2 b1 a1 (by omega) (by omega) (by omega) ht (by rw[bv,av];exact hle)
      rw[bv,av]at o4
      have o5:t≤os.length:=by rw[o2];exact F.top_le _ _
      have o6:0<t→0<F.val (os.take t):=fun h=>by
       have h1:=F.top_pos os os.length (by rw[←o2];exact h)
       rw[←o2]at h1
       obtain⟨q,hq⟩: ∃q,t=q+1:=⟨t-1,by omega⟩
       rw[hq,Nat.add_sub_cancel]at h1
       rw[hq,F.val_take_succ]
       have h2:1*1≤os.getD q 0*10000^q:=Nat.mul_le_mul (by omega) (F.pow_pos q)
       omega
      exact fsp_flat [] [] [] [] [] n0 (pn_mpl x y l1 l2 os t1 t2 t hsm ha hb (ne_i' x true (by simp[hx0])) (ne_i' y false (by simp[hy0])) hcm hp hc (fun n0 b h=>sg_i n0 b os t false (x+y) h o5 (by omega) o1 o6 (by simp;omega))) rfl rfl rfl (by simp) (by simp) hG rfl rfl rfl (by simp) (by simp) rfl rfl rfl
     ·have hle:y.natAbs≤x.natAbs:=by have h:=mt cmpN_neg.2 hc;omega
      have ht:t2≤t1:=by
       rcases Nat.lt_or_ge t1 t2 with h|h
       ·have h3:=F.val_lt_of_len a1 a2 h bt1
        rw[av,bv]at h3
        omega
       ·exact h
      obtain⟨os,t,o1,o2,o3,o4,hp⟩:=rm_c l1 l2 t1 t2 a2 b2 a1 b1 (by omega) (by omega) (by omega) ht (by rw[av,bv];exact hle)
      rw[av,bv]at o4
      have o5:t≤os.length:=by rw[o2];exact F.top_le _ _
      have o6:0<t→0<F.val (os.take t):=fun h=>by
       have h1:=F.top_pos os os.length (by rw[←o2];exact h)
       rw[←o2]at h1
       obtain⟨q,hq⟩: ∃q,t=q+1:=⟨t-1,by omega⟩
       rw[hq,Nat.add_sub_cancel]at h1
       rw[hq,F.val_take_succ]
       have h2:1*1≤os.getD q 0*10000^q:=Nat.mul_le_mul (by omega) (F.pow_pos q)
       omega
      exact fsp_flat [] [] [] [] [] n0 (pn_mpg x y l1 l2 os t1 t2 t hsm ha hb (ne_i' x true (by simp[hx0])) (ne_i' y false (by simp[hy0])) hcm hp hc (fun n0 b h=>sg_i n0 b os t true (x+y) h o5 (by omega) o1 o6 (by simp;omega))) rfl rfl rfl (by simp) (by simp) hG rfl rfl rfl (by simp) (by simp) rfl rfl rfl
 · · have hcm:=fun (n0 b1_ b2_:Nat) (g1:5≤b1_) (g2:b1_<n0) (g3:5≤b2_) (g4:b2_<n0) (g5:b1_≠b2_)=>rc_c n0 b1_ b2_ l1 l2 t1 t2 ⟨g1,g2,g3,g4,g5⟩ a1 b1 a2 b2 (by omega) (by omega) at1 bt1
     rw[av,bv]at hcm
     by_cases hc:cmpN x.natAbs y.natAbs<0
     ·have hle:x.natAbs≤y.natAbs:=by have h:=cmpN_neg.1 hc;omega
      have ht:t1≤t2:=by
       rcases Nat.lt_or_ge t2 t1 with h|h
       ·have h3:=F.val_lt_of_len b1 b2 h at1
        rw[bv,av]at h3
        omega
       ·exact h
      obtain⟨os,t,o1,o2,o3,o4,hp⟩:=rm_c l2 l1 t2 t1 b2 a2 b1 a1 (by omega) (by omega) (by omega) ht (by rw[bv,av];exact hle)
      rw[bv,av]at o4
      have o5:t≤os.length:=by rw[o2];exact F.top_le _ _
      have o6:0<t→0<F.val (os.take t):=fun h=>by
       have h1:=F.top_pos os os.length (by rw[←o2];exact h)
       rw[←o2]at h1
       obtain⟨q,hq⟩: ∃q,t=q+1:=⟨t-1,by omega⟩
       rw[hq,Nat.add_sub_cancel]at h1
       rw[hq,F.val_take_succ]
       have h2:1*1≤os.getD q 0*10000^q:=Nat.mul_le_mul (by omega) (F.pow_pos q)
       omega
      exact fsp_flat [] [] [] [] [] n0 (pn_pml x y l1 l2 os t1 t2 t hsm ha hb (ne_i' x false (by simp[hx0])) (ne_i' y true (by simp[hy0])) hcm hp hc (fun n0 b h=>sg_i n0 b os t true (x+y) h o5 (by omega) o1 o6 (by simp;omega))) rfl rfl rfl (by simp) (by simp) hG rfl rfl rfl (by simp) (by simp) rfl rfl rfl
     ·have hle:y.natAbs≤x.natAbs:=by have h:=mt cmpN_neg.2 hc;omega
      have ht:t2≤t1:=by
       rcases Nat.lt_or_ge t1 t2 with h|h
       ·have h3:=F.val_lt_of_len a1 a2 h bt1
        rw[av,bv]at h3
        omega
       ·exact h
      obtain⟨os,t,o1,o2,o3,o4,hp⟩:=rm_c l1 l2 t1 t2 a2 b2 a1 b1 (by omega) (by omega) (by omega) ht (by rw[av,bv];exact hle)
      rw[av,bv]at o4
      have o5:t≤os.length:=by rw[o2];exact F.top_le _ _
      have o6:0<t→0<F.val (os.take t):=fun h=>by
       have h1:=F.top_pos os os.length (by rw[←o2];exact h)
       rw[←o2]at h1
       obtain⟨q,hq⟩: ∃q,t=q+1:=⟨t-1,by omega⟩
       rw[hq,Nat.add_sub_cancel]at h1
       rw[hq,F.val_take_succ]
       have h2:1*1≤os.getD q 0*10000^q:=Nat.mul_le_mul (by omega) (F.pow_pos q)
       omega
      exact fsp_flat [] [] [] [] [] n0 (pn_pmg x y l1 l2 os t1 t2 t hsm ha hb (ne_i' x false (by simp[hx0])) (ne_i' y true (by simp[hy0])) hcm hp hc (fun n0 b h=>sg_i n0 b os t false (x+y) h o5 (by omega) o1 o6 (by simp;omega))) rfl rfl rfl (by simp) (by simp) hG rfl rfl rfl (by simp) (by simp) rfl rfl rfl
 · · obtain⟨os,o1,o2,o3,o4,hp⟩:=rp_c l1 l2 t1 t2 a2 b2 a1 b1 (by omega) (by omega) (by omega)
     have ov:F.val (os.take os.length)=x.natAbs+y.natAbs:=by rw[List.take_length,o2,av,bv]
     exact fsp_flat [] [] [] [] [] n0 (pn_pp x y l1 l2 os t1 t2 os.length hsm ha hb (ne_i' x false (by simp[hx0])) (ne_i' y false (by simp[hy0])) hp (fun n0 b h=>sg_i n0 b os os.length false (x+y) h (Nat.le_refl _) (by omega) o1 (fun _=>by rw[ov];omega) (by rw[ov];simp;omega))) rfl rfl rfl (by simp) (by simp) hG rfl rfl rfl (by simp) (by simp) rfl rfl rfl
noncomputable section
abbrev z_768_0(l1:List Nat):AObj:=.cells (ns .i64 l1) 3 (some 1) false
abbrev z_768_1(l2:List Nat):AObj:=.cells (ns .i64 l2) 3 (some 1) false
abbrev z_768_2(os:List Nat):AObj:=.cells (ns .i64 os) 3 none false
abbrev z_768_3:Value:=.tuple #[.int .i64 0,.int .i64 0,.bool false]
end
theorem tn_s(x y:Int)(hsm: ∀n0,5≤n0→FT 86 #[.string (istr x),.string (istr y)] n0 [] (.tuple #[.int .i64 x,.int .i64 y,.bool true]) [] [])(hxy:(x*y).natAbs<1000000000000000001):CT 41 #[(.string (istr x)),(.string (istr y))] (mkH 5 []) (.string (istr (x*y))) (mkH 5 []):=
 sF (sc:=[(9,.call [] (.tuple #[(.int .i64 x),(.int .i64 y),bT]) [] []),(17,.op (.rwI (x*y))),(0,.call [] (.string (istr (x*y))) [] []),(3,.stay)]) (by kernel_rfl) (aI (hsm 5 (by omega)) (aI (show IntKind.wrap .i64 (x*y)=(x*y) from (by rw[wrap_i64 (by omega) (by omega)])) (aI (oi_i (x*y) 5 (by omega) (by omega)) tt))) (Gets.refl _)
theorem tn_ff(x y:Int)(l1 l2 os:List Nat)(t1 t2 t c:Nat)(hsm: ∀n0,5≤n0→FT 86 #[.string (istr x),.string (istr y)] n0 [] z_768_3 [] [])(hl1: ∀n0,5≤n0→FT 87 #[.string (dstr (digs x.natAbs))] n0 [] (sl n0 t1 0) [] [.cells (ns .i64 l1) 3 (some 1) false])(hl2: ∀n0,5≤n0→FT 87 #[.string (dstr (digs y.natAbs))] n0 [] (sl n0 t2 0) [] [.cells (ns .i64 l2) 3 (some 1) false])(hnx: ∀n0,5≤n0→FT 44 #[.string (istr x)] n0 [] bF [] [])(hny: ∀n0,5≤n0→FT 44 #[.string (istr y)] n0 [] bF [] [])(hp: ∀(n0 b1 b2:Nat),5≤b1→b1<n0→5≤b2→b2<n0→b1≠b2→FT 92 #[sl b1 t1 0,sl b2 t2 0] n0 [(b1,.cells (ns .i64 l1) 3 (some 1) false),(b2,.cells (ns .i64 l2) 3 (some 1) false)] (sl n0 t c) [(b1,some (z_768_0 l1)),(b2,some (z_768_1 l2))] [.cells (ns .i64 os) 3 none false])(hs: ∀n0 b,5≤b∧b<n0→FT 88 #[.bool false,sl b t c] n0 [(b,.cells (ns .i64 os) 3 none false)] (.string (istr (x*y))) [(b,some (z_768_2 os))] []):CT 41 #[(.string (istr x)),(.string (istr y))] (mkH 5 []) (.string (istr (x*y))) (mkH 8 []):=
 sF (sc:=[(9,.call [] (.tuple #[(lI 0),(lI 0),bF]) [] []),(17,.call [] bF [] []),(1,.call [] bF [] []),(2,.call [] (.string (dstr (digs x.natAbs))) [] []),(0,.call [] (sl 5 t1 0) [] [(z_768_0 l1)]),(1,.call [] (.string (dstr (digs y.natAbs))) [] []),(0,.call [] (sl 6 t2 0) [] [(z_768_1 l2)]),(0,.call [5,6] (sl 7 t c) [(5,some (z_768_0 l1)),(6,some (z_768_1 l2))] [(z_768_2 os)]),(0,.call [7] (.string (istr (x*y))) [(7,some (z_768_2 os))] []),(3,.stay)]) (by kernel_rfl) (aI (hsm 5 (by omega)) (aI (hnx 5 (by omega)) (aI (hny 5 (by omega)) (aI (ab_i x 5 (by omega)) (aI (hl1 5 (by omega)) (aI (ab_i y 6 (by omega)) (aI (hl2 6 (by omega)) (aI (hp 7 5 6 (by omega) (by omega) (by omega) (by omega) (by omega)) (aI (hs 8 7 (by omega)) tt))))))))) (Gets.refl _)
theorem tn_ft(x y:Int)(l1 l2 os:List Nat)(t1 t2 t c:Nat)(hsm: ∀n0,5≤n0→FT 86 #[.string (istr x),.string (istr y)] n0 [] z_768_3 [] [])(hl1: ∀n0,5≤n0→FT 87 #[.string (dstr (digs x.natAbs))] n0 [] (sl n0 t1 0) [] [.cells (ns .i64 l1) 3 (some 1) false])(hl2: ∀n0,5≤n0→FT 87 #[.string (dstr (digs y.natAbs))] n0 [] (sl n0 t2 0) [] [.cells (ns .i64 l2) 3 (some 1) false])(hnx: ∀n0,5≤n0→FT 44 #[.string (istr x)] n0 [] bF [] [])(hny: ∀n0,5≤n0→FT 44 #[.string (istr y)] n0 [] bT [] [])(hp: ∀(n0 b1 b2:Nat),5≤b1→b1<n0→5≤b2→b2<n0→b1≠b2→FT 92 #[sl b1 t1 0,sl b2 t2 0] n0 [(b1,.cells (ns .i64 l1) 3 (some 1) false),(b2,.cells (ns .i64 l2) 3 (some 1) false)] (sl n0 t c) [(b1,some (z_768_0 l1)),(b2,some (z_768_1 l2))] [.cells (ns .i64 os) 3 none false])(hs: ∀n0 b,5≤b∧b<n0→FT 88 #[.bool true,sl b t c] n0 [(b,.cells (ns .i64 os) 3 none false)] (.string (istr (x*y))) [(b,some (z_768_2 os))] []):CT 41 #[(.string (istr x)),(.string (istr y))] (mkH 5 []) (.string (istr (x*y))) (mkH 8 []):=
 sF (sc:=[(9,.call [] (.tuple #[(lI 0),(lI 0),bF]) [] []),(17,.call [] bF [] []),(1,.call [] bT [] []),(2,.call [] (.string (dstr (digs x.natAbs))) [] []),(0,.call [] (sl 5 t1 0) [] [(z_768_0 l1)]),(1,.call [] (.string (dstr (digs y.natAbs))) [] []),(0,.call [] (sl 6 t2 0) [] [(z_768_1 l2)]),(0,.call [5,6] (sl 7 t c) [(5,some (z_768_0 l1)),(6,some (z_768_1 l2))] [(z_768_2 os)]),(0,.call [7] (.string (istr (x*y))) [(7,some (z_768_2 os))] []),(3,.stay)]) (by kernel_rfl) (aI (hsm 5 (by omega)) (aI (hnx 5 (by omega)) (aI (hny 5 (by omega)) (aI (ab_i x 5 (by omega)) (aI (hl1 5 (by omega)) (aI (ab_i y 6 (by omega)) (aI (hl2 6 (by omega)) (aI (hp 7 5 6 (by omega) (by omega) (by omega) (by omega) (by omega)) (aI (hs 8 7 (by omega)) tt))))))))) (Gets.refl _)
theorem tn_tf(x y:Int)(l1 l2 os:List Nat)(t1 t2 t c:Nat)(hsm: ∀n0,5≤n0→FT 86 #[.string (istr x),.string (istr y)] n0 [] z_768_3 [] [])(hl1: ∀n0,5≤n0→FT 87 #[.string (dstr (digs x.natAbs))] n0 [] (sl n0 t1 0) [] [.cells (ns .i64 l1) 3 (some 1) false])(hl2: ∀n0,5≤n0→FT 87 #[.string (dstr (digs y.natAbs))] n0 [] (sl n0 t2 0) [] [.cells (ns .i64 l2) 3 (some 1) false])(hnx: ∀n0,5≤n0→FT 44 #[.string (istr x)] n0 [] bT [] [])(hny: ∀n0,5≤n0→FT 44 #[.string (istr y)] n0 [] bF [] [])(hp: ∀(n0 b1 b2:Nat),5≤b1→b1<n0→5≤b2→b2<n0→b1≠b2→FT 92 #[sl b1 t1 0,sl b2 t2 0] n0 [(b1,.cells (ns .i64 l1) 3 (some 1) false),(b2,.cells (ns .i64 l2) 3 (some 1) false)] (sl n0 t c) [(b1,some (z_768_0 l1)),(b2,some (z_768_1 l2))] [.cells (ns .i64 os) 3 none false])(hs: ∀n0 b,5≤b∧b<n0→FT 88 #[.bool true,sl b t c] n0 [(b,.cells (ns .i64 os) 3 none false)] (.string (istr (x*y))) [(b,some (z_768_2 os))] []):CT 41 #[(.string (istr x)),(.string (istr y))] (mkH 5 []) (.string (istr (x*y))) (mkH 8 []):=
 sF (sc:=[(9,.call [] (.tuple #[(lI 0),(lI 0),bF]) [] []),(17,.call [] bT [] []),(1,.call [] bF [] []),(2,.call [] (.string (dstr (digs x.natAbs))) [] []),(0,.call [] (sl 5 t1 0) [] [(z_768_0 l1)]),(1,.call [] (.string (dstr (digs y.natAbs))) [] []),(0,.call [] (sl 6 t2 0) [] [(z_768_1 l2)]),(0,.call [5,6] (sl 7 t c) [(5,some (z_768_0 l1)),(6,some (z_768_1 l2))] [(z_768_2 os)]),(0,.call [7] (.string (istr (x*y))) [(7,some (z_768_2 os))] []),(3,.stay)]) (by kernel_rfl) (aI (hsm 5 (by omega)) (aI (hnx 5 (by omega)) (aI (hny 5 (by omega)) (aI (ab_i x 5 (by omega)) (aI (hl1 5 (by omega)) (aI (ab_i y 6 (by omega)) (aI (hl2 6 (by omega)) (aI (hp 7 5 6 (by omega) (by omega) (by omega) (by omega) (by omega)) (aI (hs 8 7 (by omega)) tt))))))))) (Gets.refl _)
theorem tn_tt(x y:Int)(l1 l2 os:List Nat)(t1 t2 t c:Nat)(hsm: ∀n0,5≤n0→FT 86 #[.string (istr x),.string (istr y)] n0 [] z_768_3 [] [])(hl1: ∀n0,5≤n0→FT 87 #[.string (dstr (digs x.natAbs))] n0 [] (sl n0 t1 0) [] [.cells (ns .i64 l1) 3 (some 1) false])(hl2: ∀n0,5≤n0→FT 87 #[.string (dstr (digs y.natAbs))] n0 [] (sl n0 t2 0) [] [.cells (ns .i64 l2) 3 (some 1) false])(hnx: ∀n0,5≤n0→FT 44 #[.string (istr x)] n0 [] bT [] [])(hny: ∀n0,5≤n0→FT 44 #[.string (istr y)] n0 [] bT [] [])(hp: ∀(n0 b1 b2:Nat),5≤b1→b1<n0→5≤b2→b2<n0→b1≠b2→FT 92 #[sl b1 t1 0,sl b2 t2 0] n0 [(b1,.cells (ns .i64 l1) 3 (some 1) false),(b2,.cells (ns .i64 l2) 3 (some 1) false)] (sl n0 t c) [(b1,some (z_768_0 l1)),(b2,some (z_768_1 l2))] [.cells (ns .i64 os) 3 none false])(hs: ∀n0 b,5≤b∧b<n0→FT 88 #[.bool false,sl b t c] n0 [(b,.cells (ns .i64 os) 3 none false)] (.string (istr (x*y))) [(b,some (z_768_2 os))] []):CT 41 #[(.string (istr x)),(.string (istr y))] (mkH 5 []) (.string (istr (x*y))) (mkH 8 []):=
 sF (sc:=[(9,.call [] (.tuple #[(lI 0),(lI 0),bF]) [] []),(17,.call [] bT [] []),(1,.call [] bT [] []),(2,.call [] (.string (dstr (digs x.natAbs))) [] []),(0,.call [] (sl 5 t1 0) [] [(z_768_0 l1)]),(1,.call [] (.string (dstr (digs y.natAbs))) [] []),(0,.call [] (sl 6 t2 0) [] [(z_768_1 l2)]),(0,.call [5,6] (sl 7 t c) [(5,some (z_768_0 l1)),(6,some (z_768_1 l2))] [(z_768_2 os)]),(0,.call [7] (.string (istr (x*y))) [(7,some (z_768_2 os))] []),(3,.stay)]) (by kernel_rfl) (aI (hsm 5 (by omega)) (aI (hnx 5 (by omega)) (aI (hny 5 (by omega)) (aI (ab_i x 5 (by omega)) (aI (hl1 5 (by omega)) (aI (ab_i y 6 (by omega)) (aI (hl2 6 (by omega)) (aI (hp 7 5 6 (by omega) (by omega) (by omega) (by omega) (by omega)) (aI (hs 8 7 (by omega)) tt))))))))) (Gets.refl _)
theorem abs_mul_pos{x y:Int}(h:(0≤x∧0≤y)∨(x≤0∧y≤0)):x*y=((x.natAbs*y.natAbs:Nat):Int):=by
 rw[←Int.natAbs_mul]
 have:0≤x*y:=by
  rcases h with⟨h1,h2⟩|⟨h1,h2⟩
  ·exact Int.mul_nonneg h1 h2
  ·exact Int.mul_nonneg_of_nonpos_of_nonpos h1 h2
 omega
theorem abs_mul_neg{x y:Int}(h:(0≤x∧y≤0)∨(x≤0∧0≤y)):x*y= -((x.natAbs*y.natAbs:Nat):Int):=by
 rw[←Int.natAbs_mul]
 have:x*y≤0:=by
  rcases h with⟨h1,h2⟩|⟨h1,h2⟩
  ·exact Int.mul_nonpos_of_nonneg_of_nonpos h1 h2
  ·rw[Int.mul_comm];exact Int.mul_nonpos_of_nonneg_of_nonpos h2 h1
 omega
theorem sgc_i(n0 b:Nat)(xs:List Nat)(n c:Nat)(neg:Bool)(z:Int)(hb:5≤b∧b<n0)(hn:n≤xs.length)(hm:n<1000000000)(hlx:F.Lim xs)(hv:0<n→0<F.val (xs.take n))(hz:z=if neg=true then -((F.val (xs.take n):Nat):Int) else ((F.val (xs.take n):Nat):Int)):
  FT 88 #[.bool neg,sl b n c] n0 [(b,.cells (ns .i64 xs) 3 none false)] (.string (istr z)) [(b,some (.cells (ns .i64 xs) 3 none false))] []:=by
 subst hz
 cases neg with
 |false=>
  simp only[Bool.false_eq_true,if_false,istr_nn]
  exact rsh_n_c n0 b xs n c hb hn hm hlx
 |true=>
  simp only[if_true]
  rcases Nat.eq_zero_or_pos n with h0|h0
  ·have hz:F.val (xs.take n)=0:=by rw[h0];rfl
   have:=rsh_z_c n0 b xs n c hb hn hm hlx h0
   rw[hz]at this ⊢
   rw[show -(((0:Nat)):Int)=((0:Nat):Int) from rfl,istr_nn]
   exact this
  ·rw[istr_neg (hv h0)]
   exact rsh_m_c n0 b xs n c hb hn hm hlx h0
theorem tn_i(x y:Int)(n0:Nat)(hG:5≤n0)(hx:(digs x.natAbs).length≤1000000)(hy:(digs y.natAbs).length≤1000000):FT 41 #[.string (istr x),.string (istr y)] n0 [] (.string (istr (x*y))) [] []:=by
 by_cases hsml:(digs x.natAbs).length≤9∧(digs y.natAbs).length≤9
 ·have h1:=lt_of_ndig hsml.1
  have h2:=lt_of_ndig hsml.2
  have h9:(10:Nat)^9=1000000000:=by decide
  rw[h9]at h1 h2
  have h3:(x*y).natAbs<1000000000000000001:=by
   rw[Int.natAbs_mul]
   have:=Nat.mul_le_mul (Nat.le_of_lt h1) (Nat.le_of_lt h2)
   omega
  exact fsp_flat [] [] [] [] [] n0 (tn_s x y (fun n0 h=>sm_t x y n0 h hsml.1 hsml.2) h3) rfl rfl rfl (by simp) (by simp) hG rfl rfl rfl (by simp) (by simp) rfl rfl rfl
 have hsm:=fun n0 h=>sm_f x y n0 h hsml (by omega) (by omega)
 obtain⟨l1,t1,a1,a2,a3,av,at1,ha⟩:=lb_c (digs x.natAbs) (digs_dig _) (digs_len_pos _) (by omega)
 obtain⟨l2,t2,b1,b2,b3,bv,bt1,hb⟩:=lb_c (digs y.natAbs) (digs_dig _) (digs_len_pos _) (by omega)
 rw[digs_val]at av bv
 obtain⟨zs,o1,o2,ov,-⟩:=rtm_c 7 5 6 l1 l2 t1 t2 (by omega) a1 b1 a2 b2 (by omega) (by omega)
 rw[av,bv]at ov
 have htp:=F.top_le zs (t1+t2)
 have hp: ∀(n0 b1_ b2_:Nat),5≤b1_→b1_<n0→5≤b2_→b2_<n0→b1_≠b2_→_:=fun n0 b1_ b2_ g1 g2 g3 g4 g5=>rtmz_c n0 b1_ b2_ l1 l2 zs t1 t2 ⟨g1,g2,g3,g4,g5⟩ o1 o2 (by rw[ov,av,bv]) a1 b1 a2 b2 (by omega) (by omega)
 have hpos:0<F.top zs (t1+t2)→0<F.val (zs.take (F.top zs (t1+t2))):=fun h=>by
  have h1:=F.top_pos zs (t1+t2) h
  obtain⟨q,hq⟩: ∃q,F.top zs (t1+t2)=q+1:=⟨F.top zs (t1+t2)-1,by omega⟩
  rw[hq,Nat.add_sub_cancel]at h1
  rw[hq,F.val_take_succ]
  have h2:1*1≤zs.getD q 0*10000^q:=Nat.mul_le_mul (by omega) (F.pow_pos q)
  omega
 by_cases hx0:x<0<;>by_cases hy0:y<0
 ·exact fsp_flat [] [] [] [] [] n0 (tn_tt x y l1 l2 zs t1 t2 (F.top zs (t1+t2)) (t1+t2) hsm ha hb (ne_i' x true (by simp[hx0])) (ne_i' y true (by simp[hy0])) hp (fun n0 b h=>sgc_i n0 b zs (F.top zs (t1+t2)) (t1+t2) false (x*y) h (by omega) (by omega) o1 hpos (by rw[ov];simp only[Bool.false_eq_true,if_false];exact abs_mul_pos (by omega)))) rfl rfl rfl (by simp) (by simp) hG rfl rfl rfl (by simp) (by simp) rfl rfl rfl
 ·exact fsp_flat [] [] [] [] [] n0 (tn_tf x y l1 l2 zs t1 t2 (F.top zs (t1+t2)) (t1+t2) hsm ha hb (ne_i' x true (by simp[hx0])) (ne_i' y false (by simp[hy0])) hp (fun n0 b h=>sgc_i n0 b zs (F.top zs (t1+t2)) (t1+t2) true (x*y) h (by omega) (by omega) o1 hpos (by rw[ov];simp only[if_true];exact abs_mul_neg (by omega)))) rfl rfl rfl (by simp) (by simp) hG rfl rfl rfl (by simp) (by simp) rfl rfl rfl
 ·exact fsp_flat [] [] [] [] [] n0 (tn_ft x y l1 l2 zs t1 t2 (F.top zs (t1+t2)) (t1+t2) hsm ha hb (ne_i' x false (by simp[hx0])) (ne_i' y true (by simp[hy0])) hp (fun n0 b h=>sgc_i n0 b zs (F.top zs (t1+t2)) (t1+t2) true (x*y) h (by omega) (by omega) o1 hpos (by rw[ov];simp only[if_true];exact abs_mul_neg (by omega)))) rfl rfl rfl (by simp) (by simp) hG rfl rfl rfl (by simp) (by simp) rfl rfl rfl
 ·exact fsp_flat [] [] [] [] [] n0 (tn_ff x y l1 l2 zs t1 t2 (F.top zs (t1+t2)) (t1+t2) hsm ha hb (ne_i' x false (by simp[hx0])) (ne_i' y false (by simp[hy0])) hp (fun n0 b h=>sgc_i n0 b zs (F.top zs (t1+t2)) (t1+t2) false (x*y) h (by omega) (by omega) o1 hpos (by rw[ov];simp only[Bool.false_eq_true,if_false];exact abs_mul_pos (by omega)))) rfl rfl rfl (by simp) (by simp) hG rfl rfl rfl (by simp) (by simp) rfl rfl rfl
theorem cp_s(x y:Int)(hsm: ∀n0,5≤n0→FT 86 #[.string (istr x),.string (istr y)] n0 [] (.tuple #[.int .i64 x,.int .i64 y,.bool true]) [] [])(hxy:x<y):CT 42 #[(.string (istr x)),(.string (istr y))] (mkH 5 []) (.int .i64 (.negSucc 0)) (mkH 5 []):=
 sF (sc:=[(9,.call [] (.tuple #[(.int .i64 x),(.int .i64 y),bT]) [] []),(18,.op (.rwB true)),(7,.stay)]) (by kernel_rfl) (aI (hsm 5 (by omega)) (aI (dT (p:=x<y)) tt)) (Gets.refl _)
theorem cp_b(x y:Int)(l1 l2:List Nat)(t1 t2:Nat)(hsm: ∀n0,5≤n0→FT 86 #[.string (istr x),.string (istr y)] n0 [] (.tuple #[.int .i64 0,.int .i64 0,.bool false]) [] [])(hl1: ∀n0,5≤n0→FT 87 #[.string (istr x)] n0 [] (sl n0 t1 0) [] [.cells (ns .i64 l1) 3 (some 1) false])(hl2: ∀n0,5≤n0→FT 87 #[.string (istr y)] n0 [] (sl n0 t2 0) [] [.cells (ns .i64 l2) 3 (some 1) false])(hnx: ∀n0,5≤n0→FT 44 #[.string (istr x)] n0 [] bF [] [])(hny: ∀n0,5≤n0→FT 44 #[.string (istr y)] n0 [] bF [] [])(hcm: ∀(n0 b1 b2:Nat),5≤b1→b1<n0→5≤b2→b2<n0→b1≠b2→FT 90 #[sl b1 t1 0,sl b2 t2 0] n0 [(b1,.cells (ns .i64 l1) 3 (some 1) false),(b2,.cells (ns .i64 l2) 3 (some 1) false)] (.int .i64 (.negSucc 0)) [(b1,some (.cells (ns .i64 l1) 3 (some 1) false)),(b2,some (.cells (ns .i64 l2) 3 (some 1) false))] []):CT 42 #[(.string (istr x)),(.string (istr y))] (mkH 5 []) (.int .i64 (.negSucc 0)) (mkH 7 []):=
 sF (sc:=[(9,.call [] (.tuple #[(lI 0),(lI 0),bF]) [] []),(18,.call [] bF [] []),(1,.call [] bF [] []),(8,.call [] bF [] []),(6,.call [] (sl 5 t1 0) [] [(.cells (ns .i64 l1) 3 (some 1) false)]),(1,.call [] (sl 6 t2 0) [] [(.cells (ns .i64 l2) 3 (some 1) false)]),(0,.call [5,6] (.int .i64 (.negSucc 0)) [(5,some (.cells (ns .i64 l1) 3 (some 1) false)),(6,some (.cells (ns .i64 l2) 3 (some 1) false))] []),(3,.stay)]) (by kernel_rfl) (aI (hsm 5 (by omega)) (aI (hnx 5 (by omega)) (aI (hny 5 (by omega)) (aI (hnx 5 (by omega)) (aI (hl1 5 (by omega)) (aI (hl2 6 (by omega)) (aI (hcm 7 5 6 (by omega) (by omega) (by omega) (by omega) (by omega)) tt))))))) (Gets.refl _)
theorem istr_abs{z:Int}(h:0≤z):istr z=dstr (digs z.natAbs):=by
 rw[←istr_nn,Int.natAbs_of_nonneg h]
theorem cp_i(x y:Int)(hx0:0≤x)(hxy:x<y)(n0:Nat)(hG:5≤n0)(hx:(digs x.natAbs).length≤1000000)(hy:(digs y.natAbs).length≤1000000):FT 42 #[.string (istr x),.string (istr y)] n0 [] (.int .i64 (.negSucc 0)) [] []:=by
 by_cases hsml:(digs x.natAbs).length≤9∧(digs y.natAbs).length≤9
 ·exact fsp_flat [] [] [] [] [] n0 (cp_s x y (fun n0 h=>sm_t x y n0 h hsml.1 hsml.2) hxy) rfl rfl rfl (by simp) (by simp) hG rfl rfl rfl (by simp) (by simp) rfl rfl rfl
 have hsm:=fun n0 h=>sm_f x y n0 h hsml (by omega) (by omega)
 obtain⟨l1,t1,a1,a2,a3,av,at1,ha⟩:=lb_c (digs x.natAbs) (digs_dig _) (digs_len_pos _) (by omega)
 obtain⟨l2,t2,b1,b2,b3,bv,bt1,hb⟩:=lb_c (digs y.natAbs) (digs_dig _) (digs_len_pos _) (by omega)
 rw[digs_val]at av bv
 rw[←istr_abs hx0]at ha
 rw[←istr_abs (by omega)]at hb
 have hcm:=fun (n0 b1_ b2_:Nat) (g1:5≤b1_) (g2:b1_<n0) (g3:5≤b2_) (g4:b2_<n0) (g5:b1_≠b2_)=>rc_c n0 b1_ b2_ l1 l2 t1 t2 ⟨g1,g2,g3,g4,g5⟩ a1 b1 a2 b2 (by omega) (by omega) at1 bt1
 rw[av,bv,cmpN_lt (by omega)]at hcm
 exact fsp_flat [] [] [] [] [] n0 (cp_b x y l1 l2 t1 t2 hsm ha hb (ne_i' x false (by simp[hx0])) (ne_i' y false (by simp;omega)) hcm) rfl rfl rfl (by simp) (by simp) hG rfl rfl rfl (by simp) (by simp) rfl rfl rfl
theorem ce_s(x y:Int)(hsm: ∀n0,5≤n0→FT 86 #[.string (istr x),.string (istr y)] n0 [] (.tuple #[.int .i64 x,.int .i64 y,.bool true]) [] [])(hxy:x=y):CT 42 #[(.string (istr x)),(.string (istr y))] (mkH 5 []) (.int .i64 (min (1:Int) (x-y))) (mkH 5 []):=
 sF (sc:=[(9,.call [] (.tuple #[(.int .i64 x),(.int .i64 y),bT]) [] []),(18,.op (.rwB false)),(7,.op (.rwI (x-y))),(0,.op (.rwI (min (1:Int) (x-y)))),(3,.stay)]) (by kernel_rfl) (aI (hsm 5 (by omega)) (aI (dF (p:=x<y)) (aI (wI64 (a:=(x-y)) (r:=(x-y))) (aI (show (if (x-y)<(1:Int) then (x-y) else (1:Int))=(min (1:Int) (x-y)) from (by omega)) tt)))) (Gets.refl _)
theorem ce_b(x y:Int)(l1 l2:List Nat)(t1 t2:Nat)(hsm: ∀n0,5≤n0→FT 86 #[.string (istr x),.string (istr y)] n0 [] (.tuple #[.int .i64 0,.int .i64 0,.bool false]) [] [])(hl1: ∀n0,5≤n0→FT 87 #[.string (istr x)] n0 [] (sl n0 t1 0) [] [.cells (ns .i64 l1) 3 (some 1) false])(hl2: ∀n0,5≤n0→FT 87 #[.string (istr y)] n0 [] (sl n0 t2 0) [] [.cells (ns .i64 l2) 3 (some 1) false])(hnx: ∀n0,5≤n0→FT 44 #[.string (istr x)] n0 [] bF [] [])(hny: ∀n0,5≤n0→FT 44 #[.string (istr y)] n0 [] bF [] [])(hcm: ∀(n0 b1 b2:Nat),5≤b1→b1<n0→5≤b2→b2<n0→b1≠b2→FT 90 #[sl b1 t1 0,sl b2 t2 0] n0 [(b1,.cells (ns .i64 l1) 3 (some 1) false),(b2,.cells (ns .i64 l2) 3 (some 1) false)] (lI 0) [(b1,some (.cells (ns .i64 l1) 3 (some 1) false)),(b2,some (.cells (ns .i64 l2) 3 (some 1) false))] []):CT 42 #[(.string (istr x)),(.string (istr y))] (mkH 5 []) (lI 0) (mkH 7 []):=
 sF (sc:=[(9,.call [] (.tuple #[(lI 0),(lI 0),bF]) [] []),(18,.call [] bF [] []),(1,.call [] bF [] []),(8,.call [] bF [] []),(6,.call [] (sl 5 t1 0) [] [(.cells (ns .i64 l1) 3 (some 1) false)]),(1,.call [] (sl 6 t2 0) [] [(.cells (ns .i64 l2) 3 (some 1) false)]),(0,.call [5,6] (lI 0) [(5,some (.cells (ns .i64 l1) 3 (some 1) false)),(6,some (.cells (ns .i64 l2) 3 (some 1) false))] []),(3,.stay)]) (by kernel_rfl) (aI (hsm 5 (by omega)) (aI (hnx 5 (by omega)) (aI (hny 5 (by omega)) (aI (hnx 5 (by omega)) (aI (hl1 5 (by omega)) (aI (hl2 6 (by omega)) (aI (hcm 7 5 6 (by omega) (by omega) (by omega) (by omega) (by omega)) tt))))))) (Gets.refl _)
theorem F.cmpN_self(a:Nat):cmpN a a=0:=by unfold cmpN;simp
theorem ce_i(x y:Int)(hx0:0≤x)(hxy:x=y)(n0:Nat)(hG:5≤n0)(hx:(digs x.natAbs).length≤1000000)(hy:(digs y.natAbs).length≤1000000):FT 42 #[.string (istr x),.string (istr y)] n0 [] (lI 0) [] []:=by
 by_cases hsml:(digs x.natAbs).length≤9∧(digs y.natAbs).length≤9
 ·have hS:=ce_s x y (fun n0 h=>sm_t x y n0 h hsml.1 hsml.2) hxy
  rw[show min (1:Int) (x-y)=0 by omega]at hS
  exact fsp_flat [] [] [] [] [] n0 (hS) rfl rfl rfl (by simp) (by simp) hG rfl rfl rfl (by simp) (by simp) rfl rfl rfl
 have hsm:=fun n0 h=>sm_f x y n0 h hsml (by omega) (by omega)
 obtain⟨l1,t1,a1,a2,a3,av,at1,ha⟩:=lb_c (digs x.natAbs) (digs_dig _) (digs_len_pos _) (by omega)
 obtain⟨l2,t2,b1,b2,b3,bv,bt1,hb⟩:=lb_c (digs y.natAbs) (digs_dig _) (digs_len_pos _) (by omega)
 rw[digs_val]at av bv
 rw[←istr_abs hx0]at ha
 rw[←istr_abs (by omega)]at hb
 have hcm:=fun (n0 b1_ b2_:Nat) (g1:5≤b1_) (g2:b1_<n0) (g3:5≤b2_) (g4:b2_<n0) (g5:b1_≠b2_)=>rc_c n0 b1_ b2_ l1 l2 t1 t2 ⟨g1,g2,g3,g4,g5⟩ a1 b1 a2 b2 (by omega) (by omega) at1 bt1
 rw[av,bv,show y.natAbs=x.natAbs by rw[hxy],F.cmpN_self]at hcm
 exact fsp_flat [] [] [] [] [] n0 (ce_b x y l1 l2 t1 t2 hsm ha hb (ne_i' x false (by simp[hx0])) (ne_i' y false (by simp;omega)) hcm) rfl rfl rfl (by simp) (by simp) hG rfl rfl rfl (by simp) (by simp) rfl rfl rfl
theorem fo_i(z:Int)(n0:Nat)(hG:5≤n0)(hz:(digs z.natAbs).length<1099511627776):FT 104 #[.string (istr z)] n0 [] bT [] []:=by
 rcases int_cases z with⟨k,rfl,hm⟩|⟨k,h0,rfl,hm⟩
 ·rw[istr_nn]
  rw[hm]at hz
  exact fo_pc n0 _ hG (digs_dig _) (digs_len_pos _) hz (fun h=>digs_head k (by
   rcases Nat.eq_zero_or_pos k with q|q
   ·rw[q,digs_zero]at h
    exact absurd h (by decide)
   ·exact q))
 ·rw[istr_neg h0]
  rw[hm]at hz
  exact fo_mc n0 _ hG (digs_dig _) (digs_len_pos _) hz (fun _=>digs_head k h0) (digs_head k h0)
theorem ck_o(z:Int)(hz:(digs z.natAbs).length≤400):CT 74 #[(.string (istr z))] (mkH 5 []) (lI 0) (mkH 5 []):=
 sF (sc:=[(8,.call [] bT [] []),(8,.call [] (.string (dstr (digs z.natAbs))) [] []),(1,.op (.rwB false)),(8,.stay)]) (by kernel_rfl) (aI (fo_i z 5 (by omega) (by omega)) (aI (ab_i z 5 (by omega)) (aI (show decide ((((dstr (digs z.natAbs)).size:Nat):Int)>(400:Int))=false from (by simp only[decide_eq_true_eq,decide_eq_false_iff_not,dstr_size,gt_iff_lt]<;>omega)) tt))) (Gets.refl _)
theorem ck_i(z:Int)(n0:Nat)(hG:5≤n0)(hz:(digs z.natAbs).length≤400):FT 74 #[.string (istr z)] n0 [] (lI 0) [] []:=
 fsp_flat [] [] [] [] [] n0 (ck_o z hz) rfl rfl rfl (by simp) (by simp) hG rfl rfl rfl (by simp) (by simp) rfl rfl rfl
noncomputable section
abbrev z_e11_4(sg:Bool)(t:Nat):Value:=.agg #[(.bool sg),(sl 8 t t)]
abbrev z_e11_0(sg:Bool)(t:Nat)(zs:List Nat)(sr:ByteArray):Prop:=FT 112 #[(z_e11_4 sg t)] 9 [(1,gob1),(8,(cU zs))] (.string sr) [(1,some gob1),(8,some (cU zs))] []
abbrev z_e11_1(sx:Bool)(n:Nat):Value:=.agg #[(.bool sx),(sl 6 n n)]
abbrev z_e11_2(sy:Bool)(k:Nat):Value:=.agg #[(.bool sy),(sl 7 k k)]
abbrev z_e11_3(xs ys:List Nat):List (Nat×Option AObj):=[(6,some (cU xs)),(7,some (cU ys))]
end
theorem ca_sum_s(sa sb:ByteArray)(u v:Int)(hksa: ∀n0,5≤n0→FT 145 #[.string sa] n0 [] (lI 2) [] [])(hksb: ∀n0,5≤n0→FT 145 #[.string sb] n0 [] (lI 2) [] [])(hssa: ∀n0,5≤n0→FT 109 #[.string sa] n0 [] (.int .i64 u) [] [])(hssb: ∀n0,5≤n0→FT 109 #[.string sb] n0 [] (.int .i64 v) [] [])(hu: -1000000000000000000<u∧u<1000000000000000000)(hv: -1000000000000000000<v∧v<1000000000000000000):CT 83 #[(.iface 97 (.agg #[])),(.string sa),(.string sb)] (mkH 5 [(1,gob1)]) (.string (istr (u+v))) (mkH 6 [(1,gob1)]):=
 sF (sc:=[(46,.call [] (lI 2) [] []),(52,.call [] (lI 2) [] []),(79,.call [] (.int .i64 u) [] []),(1,.call [] (.int .i64 v) [] []),(10,.op (.rwI (u+v))),(27,.call [1] (.string (istr (u+v))) [] []),(7,.stay)]) (by kernel_rfl) (aI (hksa 6 (by omega)) (aI (hksb 6 (by omega)) (aI (hssa 6 (by omega)) (aI (hssb 6 (by omega)) (aI (wI64 (a:=(u+v)) (r:=(u+v))) (aI (fmt_c 6 (u+v) (by omega) (by omega)) tt)))))) (Gets.refl _)
theorem ca_sum_23(sa sb:ByteArray)(hksa: ∀n0,5≤n0→FT 145 #[.string sa] n0 [] (lI 2) [] [])(hksb: ∀n0,5≤n0→FT 145 #[.string sb] n0 [] (lI 3) [] [])(sx:Bool)(xs:List Nat)(n:Nat)(hc1:(FT 111 #[(.string sa)] 6 [] (z_e11_1 sx n) [] [(cU xs)]))(sy:Bool)(ys:List Nat)(k:Nat)(hc3:(FT 111 #[(.string sb)] 7 [] (z_e11_2 sy k) [] [(cU ys)]))(sg:Bool)(zs:List Nat)(t:Nat)(hc5:(FT 272 #[(.agg #[]),(z_e11_1 sx n),(z_e11_2 sy k)] 8 [(6,(cU xs)),(7,(cU ys))] (z_e11_4 sg t) (z_e11_3 xs ys) [(cU zs)]))(sr:ByteArray)(hc7:(z_e11_0 sg t zs sr)):CT 83 #[(.iface 97 (.agg #[])),(.string sa),(.string sb)] (mkH 5 [(1,gob1)]) (.string sr) (mkH 9 [(1,gob1)]):=
 sF (sc:=[(46,.call [] (lI 2) [] []),(52,.call [] (lI 3) [] []),(53,.drwM [] [⟨2,[],(z_e11_1 sx n),[],[(cU xs)]⟩,⟨4,[],(z_e11_2 sy k),[],[(cU ys)]⟩,⟨8,[6,7],(z_e11_4 sg t),(z_e11_3 xs ys),[(cU zs)]⟩,⟨9,[1,8],(.string sr),[(1,some gob1),(8,some (cU zs))],[]⟩]),(1,.stay)]) (by kernel_rfl) (aI (hksa 6 (by omega)) (aI (hksb 6 (by omega)) (aI (aI tt (aI tt (aI tt (aI tt (aI tt (aI tt (aI hc1 (aI hc3 (aI hc5 (aI hc7 (aI tt tt))))))))))) tt))) (Gets.refl _)
theorem ca_sum_32(sa sb:ByteArray)(hksa: ∀n0,5≤n0→FT 145 #[.string sa] n0 [] (lI 3) [] [])(hksb: ∀n0,5≤n0→FT 145 #[.string sb] n0 [] (lI 2) [] [])(sx:Bool)(xs:List Nat)(n:Nat)(hc1:(FT 111 #[(.string sa)] 6 [] (z_e11_1 sx n) [] [(cU xs)]))(sy:Bool)(ys:List Nat)(k:Nat)(hc3:(FT 111 #[(.string sb)] 7 [] (z_e11_2 sy k) [] [(cU ys)]))(sg:Bool)(zs:List Nat)(t:Nat)(hc5:(FT 272 #[(.agg #[]),(z_e11_1 sx n),(z_e11_2 sy k)] 8 [(6,(cU xs)),(7,(cU ys))] (z_e11_4 sg t) (z_e11_3 xs ys) [(cU zs)]))(sr:ByteArray)(hc7:(z_e11_0 sg t zs sr)):CT 83 #[(.iface 97 (.agg #[])),(.string sa),(.string sb)] (mkH 5 [(1,gob1)]) (.string sr) (mkH 9 [(1,gob1)]):=
 sF (sc:=[(46,.call [] (lI 3) [] []),(52,.call [] (lI 2) [] []),(53,.drwM [] [⟨2,[],(z_e11_1 sx n),[],[(cU xs)]⟩,⟨4,[],(z_e11_2 sy k),[],[(cU ys)]⟩,⟨8,[6,7],(z_e11_4 sg t),(z_e11_3 xs ys),[(cU zs)]⟩,⟨9,[1,8],(.string sr),[(1,some gob1),(8,some (cU zs))],[]⟩]),(1,.stay)]) (by kernel_rfl) (aI (hksa 6 (by omega)) (aI (hksb 6 (by omega)) (aI (aI tt (aI tt (aI tt (aI tt (aI tt (aI tt (aI hc1 (aI hc3 (aI hc5 (aI hc7 (aI tt tt))))))))))) tt))) (Gets.refl _)
theorem ca_sum_33(sa sb:ByteArray)(hksa: ∀n0,5≤n0→FT 145 #[.string sa] n0 [] (lI 3) [] [])(hksb: ∀n0,5≤n0→FT 145 #[.string sb] n0 [] (lI 3) [] [])(sx:Bool)(xs:List Nat)(n:Nat)(hc1:(FT 111 #[(.string sa)] 6 [] (z_e11_1 sx n) [] [(cU xs)]))(sy:Bool)(ys:List Nat)(k:Nat)(hc3:(FT 111 #[(.string sb)] 7 [] (z_e11_2 sy k) [] [(cU ys)]))(sg:Bool)(zs:List Nat)(t:Nat)(hc5:(FT 272 #[(.agg #[]),(z_e11_1 sx n),(z_e11_2 sy k)] 8 [(6,(cU xs)),(7,(cU ys))] (z_e11_4 sg t) (z_e11_3 xs ys) [(cU zs)]))(sr:ByteArray)(hc7:(z_e11_0 sg t zs sr)):CT 83 #[(.iface 97 (.agg #[])),(.string sa),(.string sb)] (mkH 5 [(1,gob1)]) (.string sr) (mkH 9 [(1,gob1)]):=
 sF (sc:=[(46,.call [] (lI 3) [] []),(52,.call [] (lI 3) [] []),(53,.drwM [] [⟨2,[],(z_e11_1 sx n),[],[(cU xs)]⟩,⟨4,[],(z_e11_2 sy k),[],[(cU ys)]⟩,⟨8,[6,7],(z_e11_4 sg t),(z_e11_3 xs ys),[(cU zs)]⟩,⟨9,[1,8],(.string sr),[(1,some gob1),(8,some (cU zs))],[]⟩]),(1,.stay)]) (by kernel_rfl) (aI (hksa 6 (by omega)) (aI (hksb 6 (by omega)) (aI (aI tt (aI tt (aI tt (aI tt (aI tt (aI tt (aI hc1 (aI hc3 (aI hc5 (aI hc7 (aI tt tt))))))))))) tt))) (Gets.refl _)
theorem ca_sum_i(n0:Nat)(a b:Int)(hG:5≤n0)(ha:ndig a.natAbs≤400)(hb:ndig b.natAbs≤400)(hr:ndig (a+b).natAbs≤400):
  FT 83 #[.iface 97 (.agg #[]),.string (istr a),.string (istr b)] n0 [(1,gob1)] (.string (istr (a+b))) [(1,some gob1)] []:=by
 have key: ∃nx,CT 83 #[.iface 97 (.agg #[]),.string (istr a),.string (istr b)] (mkH 5 [(1,gob1)]) (.string (istr (a+b))) (mkH nx [(1,gob1)]):=by
  by_cases hsh:(digs a.natAbs).length≤18∧(digs b.natAbs).length≤18
  ·have hu:=lt_of_ndig hsh.1
   have hv:=lt_of_ndig hsh.2
   have h18:(10:Nat)^18=1000000000000000000:=by decide
   rw[h18]at hu hv
   exact⟨_,ca_sum_s _ _ a b (fun n0 h=>kis_i n0 a h hsh.1) (fun n0 h=>kis_i n0 b h hsh.2) (fun n0 h=>sm_i n0 a h hsh.1) (fun n0 h=>sm_i n0 b h hsh.2) (by omega) (by omega)⟩
  ·obtain⟨sx,xs,n,e1,e2,e3,e4,e5,e6,e7⟩:=nu_i 6 a (by omega) ha
   obtain⟨sy,ys,k,f1,f2,f3,f4,f5,f6,f7⟩:=nu_i 7 b (by omega) hb
   obtain⟨sg,zs,t,g1,g2,g3,g4,g5,g6,g7⟩:=sum_c 8 6 7 xs ys n n k k sx sy (by omega) e1 f1 e2 f2 (by omega) (by omega) e4 f4 e5 f5
   rw[e6,f6]at g6
   have T:=nt_i 9 8 sg zs t t (by omega) g1 g2 (by omega) g4 g5 (by rw[g6];exact hr)
   rw[g6]at T
   by_cases h1:(digs a.natAbs).length≤18
   ·exact⟨9,ca_sum_23 _ _ (fun n0 h=>kis_i n0 a h h1) (fun n0 h=>kil_i n0 b h (by omega) hb) sx xs n e7 sy ys k f7 sg zs t g7 _ T⟩
   ·by_cases h2:(digs b.natAbs).length≤18
    ·exact⟨9,ca_sum_32 _ _ (fun n0 h=>kil_i n0 a h (by omega) ha) (fun n0 h=>kis_i n0 b h h2) sx xs n e7 sy ys k f7 sg zs t g7 _ T⟩
    ·exact⟨9,ca_sum_33 _ _ (fun n0 h=>kil_i n0 a h (by omega) ha) (fun n0 h=>kil_i n0 b h (by omega) hb) sx xs n e7 sy ys k f7 sg zs t g7 _ T⟩
 obtain⟨nx,S⟩:=key
 exact fsp_glob [(1,gob1)] [] [] [] [] [] n0 S (by decide+kernel) (by rfl) rfl (by rfl) rfl (by simp) (by simp) hG rfl rfl rfl (by simp) (by simp) rfl rfl rfl
theorem Add_o(sa sb sr:ByteArray)(hc0:FT 83 #[(.iface 97 (.agg #[])),(.string sa),(.string sb)] 8 [(1,gob1)] (.string sr) [(1,some gob1)] []):CT 36 #[(.string sa),(.string sb)] (mkH 5 [(1,gob1)]) (.tuple #[(.string sr),(lI 0)]) (mkH 8 [(1,gob1)]):=
 sF (sc:=[(35,.call [1] (.string sr) [(1,some gob1)] []),(30,.stay)]) (by kernel_rfl) (aI hc0 tt) (Gets.refl _)
theorem Add_i(n0:Nat)(a b:Int)(hG:5≤n0)(ha:ndig a.natAbs≤400)(hb:ndig b.natAbs≤400)(hr:ndig (a+b).natAbs≤400):
  FT 36 #[.string (istr a),.string (istr b)] n0 [(1,gob1)] (.tuple #[.string (istr (a+b)),.int .i64 (.ofNat 0)]) [(1,some gob1)] []:=by
 have S:=Add_o (istr a) (istr b) (istr (a+b)) (ca_sum_i 8 a b (by omega) ha hb hr)
 exact fsp_glob [(1,gob1)] [] [] [] [] [] n0 S (by decide+kernel) (by rfl) rfl (by rfl) rfl (by simp) (by simp) hG rfl rfl rfl (by simp) (by simp) rfl rfl rfl
end Go.Proofs.YtldoiilgfcpipaaGreatDoor
