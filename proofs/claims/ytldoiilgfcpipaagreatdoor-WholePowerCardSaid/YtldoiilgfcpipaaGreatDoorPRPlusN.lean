import Derived.Test.YtldoiilgfcpipaaGreatDoorPRTrim
import Derived.Test.YtldoiilgfcpipaaGreatDoorPRLimbs
import Derived.Test.YtldoiilgfcpipaaGreatDoorRPlus
import Derived.Test.YtldoiilgfcpipaaGreatDoorPRMinus
import Derived.Test.YtldoiilgfcpipaaGreatDoorPRTextC
import Derived.Test.YtldoiilgfcpipaaGreatDoorLF
import Derived.Test.YtldoiilgfcpipaaGreatDoorLE
set_option linter.unusedVariables false
set_option linter.unusedSimpArgs false
set_option maxRecDepth 100000
namespace Go.Proofs.YtldoiilgfcpipaaGreatDoor
open Go Go.AE Seg
noncomputable section
abbrev Cq(l1:List Nat):AObj:=.cells (ns .i64 l1) 3 (some 1) false
abbrev Cp(l2:List Nat):AObj:=.cells (ns .i64 l2) 3 (some 1) false
abbrev Gf(os:List Nat):AObj:=.cells (ns .i64 os) 3 (some 1) false
abbrev Wo:Value:=.tuple #[.int .i64 0,.int .i64 0,.bool false]
abbrev Sa(x y:Int):Value:=.int .i64 (Hg x.natAbs y.natAbs)
abbrev Ue(x y:Int):Array Value:= #[(.string (Ad x)),(.string (Ad y))]
abbrev Up(x y:Int):Array Value:= #[.string (Ad x),.string (Ad y)]
abbrev Vy:Value:=.tuple #[(lI 0),(lI 0),bF]
end
theorem pn_s(x y:Int)(hsm: ∀n0,5≤n0→FT 86 (Up x y) n0 [] (.tuple #[.int .i64 x,.int .i64 y,.bool true]) [] [])(hx:x.natAbs<1000000000)(hy:y.natAbs<1000000000):CT 40 (Ue x y) (Ag 5 []) (.string (Ad (x+y))) (Ag 5 []):=
 sF (sc:=[(9,.call [] (.tuple #[(.int .i64 x),(.int .i64 y),bT]) [] []),(17,.op (.rwI (x+y))),(0,.call [] (.string (Ad (x+y))) [] []),(3,.stay)]) kr (aI (hsm 5 om) (aI (Ao (a:=(x+y)) (r:=(x+y))) (aI (oi_i (x+y) 5 om om) tt))) (Gets.refl _)
theorem pn_pp(x y:Int)(l1 l2 os:List Nat)(t1 t2 t:Nat)(hsm: ∀n0,5≤n0→FT 86 (Up x y) n0 [] Wo [] [])(hl1: ∀n0,5≤n0→FT 87 #[.string (Aa (Ae x.natAbs))] n0 [] (sl n0 t1 0) [] [.cells (ns .i64 l1) 3 (some 1) false])(hl2: ∀n0,5≤n0→FT 87 #[.string (Aa (Ae y.natAbs))] n0 [] (sl n0 t2 0) [] [.cells (ns .i64 l2) 3 (some 1) false])(hnx: ∀n0,5≤n0→FT 44 #[.string (Ad x)] n0 [] bF [] [])(hny: ∀n0,5≤n0→FT 44 #[.string (Ad y)] n0 [] bF [] [])(hp: ∀(n0 b1 b2:Nat),5≤b1→b1<n0→5≤b2→b2<n0→b1≠b2→FT 89 #[sl b1 t1 0,sl b2 t2 0] n0 [(b1,.cells (ns .i64 l1) 3 (some 1) false),(b2,.cells (ns .i64 l2) 3 (some 1) false)] (sl n0 t 0) [(b1,some (Cq l1)),(b2,some (Cp l2))] [.cells (ns .i64 os) 3 (some 1) false])(hs: ∀n0 b,5≤b∧b<n0→FT 88 #[.bool false,sl b t 0] n0 [(b,.cells (ns .i64 os) 3 (some 1) false)] (.string (Ad (x+y))) [(b,some (Gf os))] []):CT 40 (Ue x y) (Ag 5 []) (.string (Ad (x+y))) (Ag 8 []):=
 sF (sc:=[(9,.call [] Vy [] []),(17,.call [] (.string (Aa (Ae x.natAbs))) [] []),(0,.call [] (sl 5 t1 0) [] [(Cq l1)]),(1,.call [] (.string (Aa (Ae y.natAbs))) [] []),(0,.call [] (sl 6 t2 0) [] [(Cp l2)]),(7,.call [] bF [] []),(1,.call [] bF [] []),(6,.call [] bF [] []),(2,.call [5,6] (sl 7 t 0) [(5,some (Cq l1)),(6,some (Cp l2))] [(Gf os)]),(0,.call [7] (.string (Ad (x+y))) [(7,some (Gf os))] []),(3,.stay)]) kr (aI (hsm 5 om) (aI (Gq x 5 om) (aI (hl1 5 om) (aI (Gq y 6 om) (aI (hl2 6 om) (aI (hnx 7 om) (aI (hny 7 om) (aI (hnx 7 om) (aI (hp 7 5 6 om om om om om) (aI (hs 8 7 om) tt)))))))))) (Gets.refl _)
theorem pn_mm(x y:Int)(l1 l2 os:List Nat)(t1 t2 t:Nat)(hsm: ∀n0,5≤n0→FT 86 (Up x y) n0 [] Wo [] [])(hl1: ∀n0,5≤n0→FT 87 #[.string (Aa (Ae x.natAbs))] n0 [] (sl n0 t1 0) [] [.cells (ns .i64 l1) 3 (some 1) false])(hl2: ∀n0,5≤n0→FT 87 #[.string (Aa (Ae y.natAbs))] n0 [] (sl n0 t2 0) [] [.cells (ns .i64 l2) 3 (some 1) false])(hnx: ∀n0,5≤n0→FT 44 #[.string (Ad x)] n0 [] bT [] [])(hny: ∀n0,5≤n0→FT 44 #[.string (Ad y)] n0 [] bT [] [])(hp: ∀(n0 b1 b2:Nat),5≤b1→b1<n0→5≤b2→b2<n0→b1≠b2→FT 89 #[sl b1 t1 0,sl b2 t2 0] n0 [(b1,.cells (ns .i64 l1) 3 (some 1) false),(b2,.cells (ns .i64 l2) 3 (some 1) false)] (sl n0 t 0) [(b1,some (Cq l1)),(b2,some (Cp l2))] [.cells (ns .i64 os) 3 (some 1) false])(hs: ∀n0 b,5≤b∧b<n0→FT 88 #[.bool true,sl b t 0] n0 [(b,.cells (ns .i64 os) 3 (some 1) false)] (.string (Ad (x+y))) [(b,some (Gf os))] []):CT 40 (Ue x y) (Ag 5 []) (.string (Ad (x+y))) (Ag 8 []):=
 sF (sc:=[(9,.call [] Vy [] []),(17,.call [] (.string (Aa (Ae x.natAbs))) [] []),(0,.call [] (sl 5 t1 0) [] [(Cq l1)]),(1,.call [] (.string (Aa (Ae y.natAbs))) [] []),(0,.call [] (sl 6 t2 0) [] [(Cp l2)]),(7,.call [] bT [] []),(1,.call [] bT [] []),(6,.call [] bT [] []),(2,.call [5,6] (sl 7 t 0) [(5,some (Cq l1)),(6,some (Cp l2))] [(Gf os)]),(0,.call [7] (.string (Ad (x+y))) [(7,some (Gf os))] []),(3,.stay)]) kr (aI (hsm 5 om) (aI (Gq x 5 om) (aI (hl1 5 om) (aI (Gq y 6 om) (aI (hl2 6 om) (aI (hnx 7 om) (aI (hny 7 om) (aI (hnx 7 om) (aI (hp 7 5 6 om om om om om) (aI (hs 8 7 om) tt)))))))))) (Gets.refl _)
theorem pn_pml(x y:Int)(l1 l2 os:List Nat)(t1 t2 t:Nat)(hsm: ∀n0,5≤n0→FT 86 (Up x y) n0 [] Wo [] [])(hl1: ∀n0,5≤n0→FT 87 #[.string (Aa (Ae x.natAbs))] n0 [] (sl n0 t1 0) [] [.cells (ns .i64 l1) 3 (some 1) false])(hl2: ∀n0,5≤n0→FT 87 #[.string (Aa (Ae y.natAbs))] n0 [] (sl n0 t2 0) [] [.cells (ns .i64 l2) 3 (some 1) false])(hnx: ∀n0,5≤n0→FT 44 #[.string (Ad x)] n0 [] bF [] [])(hny: ∀n0,5≤n0→FT 44 #[.string (Ad y)] n0 [] bT [] [])(hcm: ∀(n0 b1 b2:Nat),5≤b1→b1<n0→5≤b2→b2<n0→b1≠b2→FT 90 #[sl b1 t1 0,sl b2 t2 0] n0 [(b1,.cells (ns .i64 l1) 3 (some 1) false),(b2,.cells (ns .i64 l2) 3 (some 1) false)] (Sa x y) [(b1,some (Cq l1)),(b2,some (Cp l2))] [])(hp: ∀(n0 b1 b2:Nat),5≤b1→b1<n0→5≤b2→b2<n0→b1≠b2→FT 91 #[sl b1 t2 0,sl b2 t1 0] n0 [(b1,.cells (ns .i64 l2) 3 (some 1) false),(b2,.cells (ns .i64 l1) 3 (some 1) false)] (sl n0 t 0) [(b1,some (Cp l2)),(b2,some (Cq l1))] [.cells (ns .i64 os) 3 (some 1) false])(hlt:Hg x.natAbs y.natAbs<0)(hs: ∀n0 b,5≤b∧b<n0→FT 88 #[.bool true,sl b t 0] n0 [(b,.cells (ns .i64 os) 3 (some 1) false)] (.string (Ad (x+y))) [(b,some (Gf os))] []):CT 40 (Ue x y) (Ag 5 []) (.string (Ad (x+y))) (Ag 8 []):=
 sF (sc:=[(9,.call [] Vy [] []),(17,.call [] (.string (Aa (Ae x.natAbs))) [] []),(0,.call [] (sl 5 t1 0) [] [(Cq l1)]),(1,.call [] (.string (Aa (Ae y.natAbs))) [] []),(0,.call [] (sl 6 t2 0) [] [(Cp l2)]),(7,.call [] bF [] []),(1,.call [] bT [] []),(9,.call [5,6] (Sa x y) [(5,some (Cq l1)),(6,some (Cp l2))] []),(0,.op (.rwB true)),(5,.call [] bT [] []),(2,.call [6,5] (sl 7 t 0) [(6,some (Cp l2)),(5,some (Cq l1))] [(Gf os)]),(0,.call [7] (.string (Ad (x+y))) [(7,some (Gf os))] []),(3,.stay)]) kr (aI (hsm 5 om) (aI (Gq x 5 om) (aI (hl1 5 om) (aI (Gq y 6 om) (aI (hl2 6 om) (aI (hnx 7 om) (aI (hny 7 om) (aI (hcm 7 5 6 om om om om om) (aI (dT (p:=(Hg x.natAbs y.natAbs)<(0:Int))) (aI (hny 7 om) (aI (hp 7 6 5 om om om om om) (aI (hs 8 7 om) tt)))))))))))) (Gets.refl _)
theorem pn_pmg(x y:Int)(l1 l2 os:List Nat)(t1 t2 t:Nat)(hsm: ∀n0,5≤n0→FT 86 (Up x y) n0 [] Wo [] [])(hl1: ∀n0,5≤n0→FT 87 #[.string (Aa (Ae x.natAbs))] n0 [] (sl n0 t1 0) [] [.cells (ns .i64 l1) 3 (some 1) false])(hl2: ∀n0,5≤n0→FT 87 #[.string (Aa (Ae y.natAbs))] n0 [] (sl n0 t2 0) [] [.cells (ns .i64 l2) 3 (some 1) false])(hnx: ∀n0,5≤n0→FT 44 #[.string (Ad x)] n0 [] bF [] [])(hny: ∀n0,5≤n0→FT 44 #[.string (Ad y)] n0 [] bT [] [])(hcm: ∀(n0 b1 b2:Nat),5≤b1→b1<n0→5≤b2→b2<n0→b1≠b2→FT 90 #[sl b1 t1 0,sl b2 t2 0] n0 [(b1,.cells (ns .i64 l1) 3 (some 1) false),(b2,.cells (ns .i64 l2) 3 (some 1) false)] (Sa x y) [(b1,some (Cq l1)),(b2,some (Cp l2))] [])(hp: ∀(n0 b1 b2:Nat),5≤b1→b1<n0→5≤b2→b2<n0→b1≠b2→FT 91 #[sl b1 t1 0,sl b2 t2 0] n0 [(b1,.cells (ns .i64 l1) 3 (some 1) false),(b2,.cells (ns .i64 l2) 3 (some 1) false)] (sl n0 t 0) [(b1,some (Cq l1)),(b2,some (Cp l2))] [.cells (ns .i64 os) 3 (some 1) false])(hge: ¬Hg x.natAbs y.natAbs<0)(hs: ∀n0 b,5≤b∧b<n0→FT 88 #[.bool false,sl b t 0] n0 [(b,.cells (ns .i64 os) 3 (some 1) false)] (.string (Ad (x+y))) [(b,some (Gf os))] []):CT 40 (Ue x y) (Ag 5 []) (.string (Ad (x+y))) (Ag 8 []):=
 sF (sc:=[(9,.call [] Vy [] []),(17,.call [] (.string (Aa (Ae x.natAbs))) [] []),(0,.call [] (sl 5 t1 0) [] [(Cq l1)]),(1,.call [] (.string (Aa (Ae y.natAbs))) [] []),(0,.call [] (sl 6 t2 0) [] [(Cp l2)]),(7,.call [] bF [] []),(1,.call [] bT [] []),(9,.call [5,6] (Sa x y) [(5,some (Cq l1)),(6,some (Cp l2))] []),(0,.op (.rwB false)),(6,.call [] bF [] []),(2,.call [5,6] (sl 7 t 0) [(5,some (Cq l1)),(6,some (Cp l2))] [(Gf os)]),(0,.call [7] (.string (Ad (x+y))) [(7,some (Gf os))] []),(3,.stay)]) kr (aI (hsm 5 om) (aI (Gq x 5 om) (aI (hl1 5 om) (aI (Gq y 6 om) (aI (hl2 6 om) (aI (hnx 7 om) (aI (hny 7 om) (aI (hcm 7 5 6 om om om om om) (aI (dF (p:=(Hg x.natAbs y.natAbs)<(0:Int))) (aI (hnx 7 om) (aI (hp 7 5 6 om om om om om) (aI (hs 8 7 om) tt)))))))))))) (Gets.refl _)
theorem pn_mpl(x y:Int)(l1 l2 os:List Nat)(t1 t2 t:Nat)(hsm: ∀n0,5≤n0→FT 86 (Up x y) n0 [] Wo [] [])(hl1: ∀n0,5≤n0→FT 87 #[.string (Aa (Ae x.natAbs))] n0 [] (sl n0 t1 0) [] [.cells (ns .i64 l1) 3 (some 1) false])(hl2: ∀n0,5≤n0→FT 87 #[.string (Aa (Ae y.natAbs))] n0 [] (sl n0 t2 0) [] [.cells (ns .i64 l2) 3 (some 1) false])(hnx: ∀n0,5≤n0→FT 44 #[.string (Ad x)] n0 [] bT [] [])(hny: ∀n0,5≤n0→FT 44 #[.string (Ad y)] n0 [] bF [] [])(hcm: ∀(n0 b1 b2:Nat),5≤b1→b1<n0→5≤b2→b2<n0→b1≠b2→FT 90 #[sl b1 t1 0,sl b2 t2 0] n0 [(b1,.cells (ns .i64 l1) 3 (some 1) false),(b2,.cells (ns .i64 l2) 3 (some 1) false)] (Sa x y) [(b1,some (Cq l1)),(b2,some (Cp l2))] [])(hp: ∀(n0 b1 b2:Nat),5≤b1→b1<n0→5≤b2→b2<n0→b1≠b2→FT 91 #[sl b1 t2 0,sl b2 t1 0] n0 [(b1,.cells (ns .i64 l2) 3 (some 1) false),(b2,.cells (ns .i64 l1) 3 (some 1) false)] (sl n0 t 0) [(b1,some (Cp l2)),(b2,some (Cq l1))] [.cells (ns .i64 os) 3 (some 1) false])(hlt:Hg x.natAbs y.natAbs<0)(hs: ∀n0 b,5≤b∧b<n0→FT 88 #[.bool false,sl b t 0] n0 [(b,.cells (ns .i64 os) 3 (some 1) false)] (.string (Ad (x+y))) [(b,some (Gf os))] []):CT 40 (Ue x y) (Ag 5 []) (.string (Ad (x+y))) (Ag 8 []):=
 sF (sc:=[(9,.call [] Vy [] []),(17,.call [] (.string (Aa (Ae x.natAbs))) [] []),(0,.call [] (sl 5 t1 0) [] [(Cq l1)]),(1,.call [] (.string (Aa (Ae y.natAbs))) [] []),(0,.call [] (sl 6 t2 0) [] [(Cp l2)]),(7,.call [] bT [] []),(1,.call [] bF [] []),(9,.call [5,6] (Sa x y) [(5,some (Cq l1)),(6,some (Cp l2))] []),(0,.op (.rwB true)),(5,.call [] bF [] []),(2,.call [6,5] (sl 7 t 0) [(6,some (Cp l2)),(5,some (Cq l1))] [(Gf os)]),(0,.call [7] (.string (Ad (x+y))) [(7,some (Gf os))] []),(3,.stay)]) kr (aI (hsm 5 om) (aI (Gq x 5 om) (aI (hl1 5 om) (aI (Gq y 6 om) (aI (hl2 6 om) (aI (hnx 7 om) (aI (hny 7 om) (aI (hcm 7 5 6 om om om om om) (aI (dT (p:=(Hg x.natAbs y.natAbs)<(0:Int))) (aI (hny 7 om) (aI (hp 7 6 5 om om om om om) (aI (hs 8 7 om) tt)))))))))))) (Gets.refl _)
theorem pn_mpg(x y:Int)(l1 l2 os:List Nat)(t1 t2 t:Nat)(hsm: ∀n0,5≤n0→FT 86 (Up x y) n0 [] Wo [] [])(hl1: ∀n0,5≤n0→FT 87 #[.string (Aa (Ae x.natAbs))] n0 [] (sl n0 t1 0) [] [.cells (ns .i64 l1) 3 (some 1) false])(hl2: ∀n0,5≤n0→FT 87 #[.string (Aa (Ae y.natAbs))] n0 [] (sl n0 t2 0) [] [.cells (ns .i64 l2) 3 (some 1) false])(hnx: ∀n0,5≤n0→FT 44 #[.string (Ad x)] n0 [] bT [] [])(hny: ∀n0,5≤n0→FT 44 #[.string (Ad y)] n0 [] bF [] [])(hcm: ∀(n0 b1 b2:Nat),5≤b1→b1<n0→5≤b2→b2<n0→b1≠b2→FT 90 #[sl b1 t1 0,sl b2 t2 0] n0 [(b1,.cells (ns .i64 l1) 3 (some 1) false),(b2,.cells (ns .i64 l2) 3 (some 1) false)] (Sa x y) [(b1,some (Cq l1)),(b2,some (Cp l2))] [])(hp: ∀(n0 b1 b2:Nat),5≤b1→b1<n0→5≤b2→b2<n0→b1≠b2→FT 91 #[sl b1 t1 0,sl b2 t2 0] n0 [(b1,.cells (ns .i64 l1) 3 (some 1) false),(b2,.cells (ns .i64 l2) 3 (some 1) false)] (sl n0 t 0) [(b1,some (Cq l1)),(b2,some (Cp l2))] [.cells (ns .i64 os) 3 (some 1) false])(hge: ¬Hg x.natAbs y.natAbs<0)(hs: ∀n0 b,5≤b∧b<n0→FT 88 #[.bool true,sl b t 0] n0 [(b,.cells (ns .i64 os) 3 (some 1) false)] (.string (Ad (x+y))) [(b,some (Gf os))] []):CT 40 (Ue x y) (Ag 5 []) (.string (Ad (x+y))) (Ag 8 []):=
 sF (sc:=[(9,.call [] Vy [] []),(17,.call [] (.string (Aa (Ae x.natAbs))) [] []),(0,.call [] (sl 5 t1 0) [] [(Cq l1)]),(1,.call [] (.string (Aa (Ae y.natAbs))) [] []),(0,.call [] (sl 6 t2 0) [] [(Cp l2)]),(7,.call [] bT [] []),(1,.call [] bF [] []),(9,.call [5,6] (Sa x y) [(5,some (Cq l1)),(6,some (Cp l2))] []),(0,.op (.rwB false)),(6,.call [] bT [] []),(2,.call [5,6] (sl 7 t 0) [(5,some (Cq l1)),(6,some (Cp l2))] [(Gf os)]),(0,.call [7] (.string (Ad (x+y))) [(7,some (Gf os))] []),(3,.stay)]) kr (aI (hsm 5 om) (aI (Gq x 5 om) (aI (hl1 5 om) (aI (Gq y 6 om) (aI (hl2 6 om) (aI (hnx 7 om) (aI (hny 7 om) (aI (hcm 7 5 6 om om om om om) (aI (dF (p:=(Hg x.natAbs y.natAbs)<(0:Int))) (aI (hnx 7 om) (aI (hp 7 5 6 om om om om om) (aI (hs 8 7 om) tt)))))))))))) (Gets.refl _)
theorem Cb(z:Int)(b:Bool)(hb:decide (z<0)=b): ∀n0,5≤n0→FT 44 #[.string (Ad z)] n0 [] (.bool b) [] []:=by
 intro n0 hG
 subst hb
 rcases Gz z with⟨k,rfl,hm⟩|⟨k,h0,rfl,hm⟩
 ·rw[Df,show decide (((k:Nat):Int)<0)=false by rw[decide_eq_false_iff_not];omega]
  exact ne_pc n0 _ hG (Bx _) (Be _)
 ·rw[Hp h0,show decide (-((k:Nat):Int)<0)=true by rw[decide_eq_true_eq];omega]
  exact ne_mc n0 _ hG
theorem sg_i(n0 b:Nat)(xs:List Nat)(n:Nat)(neg:Bool)(z:Int)(hb:5≤b∧b<n0)(hn:n≤xs.length)(hm:n<1000000000)(hlx:F.Lim xs)(hv:0<n→0<F.val (xs.take n))(hz:z=if neg=true then -((F.val (xs.take n):Nat):Int) else ((F.val (xs.take n):Nat):Int)):
  FT 88 #[.bool neg,sl b n 0] n0 [(b,.cells (ns .i64 xs) 3 (some 1) false)] (.string (Ad z)) [(b,some (cI xs (some 1)))] []:=by
 subst hz
 cases neg with
 |false=>
  simp only[Bool.false_eq_true,if_false,Df]
  exact rsg_n_c n0 b xs n hb hn hm hlx
 |true=>
  simp only[if_true]
  rcases Nat.eq_zero_or_pos n with h0|h0
  ·have hz:F.val (xs.take n)=0:=by rw[h0];rfl
   have:=rsg_z_c n0 b xs n hb hn hm hlx h0
   rw[hz]at this ⊢
   rw[show -(((0:Nat)):Int)=((0:Nat):Int) from rfl,Df]
   exact this
  ·rw[Hp (hv h0)]
   exact rsg_m_c n0 b xs n hb hn hm hlx h0
theorem pl_i(x y:Int)(n0:Nat)(hG:5≤n0)(hx:(Ae x.natAbs).length≤100000000)(hy:(Ae y.natAbs).length≤100000000):FT 40 #[.string (Ad x),.string (Ad y)] n0 [] (.string (Ad (x+y))) [] []:=by
 by_cases hsml:(Ae x.natAbs).length≤9∧(Ae y.natAbs).length≤9
 ·have h1:=Da hsml.1
  have h2:=Da hsml.2
  exact Lv n0 (pn_s x y (fun n0 h=>sm_t x y n0 h hsml.1 hsml.2) h1 h2) hG
 have hsm:=fun n0 h=>sm_f x y n0 h hsml om om
 obtain⟨l1,t1,a1,a2,a3,av,at1,ha⟩:=lb_c (Ae x.natAbs) (Bx _) (Be _) om
 obtain⟨l2,t2,b1,b2,b3,bv,bt1,hb⟩:=lb_c (Ae y.natAbs) (Bx _) (Be _) om
 rw[Gb]at av bv
 have hpos:0<x.natAbs∨0<y.natAbs:=by
  rcases Nat.eq_zero_or_pos x.natAbs with h|h
  ·rcases Nat.eq_zero_or_pos y.natAbs with h'|h'
   ·exfalso
    apply hsml
    rw[h,h',Gi]
    exact⟨by decide,by decide⟩
   ·exact .inr h'
  ·exact .inl h
 have ta:0<x.natAbs→0<t1:=fun h=>by
  rcases Nat.eq_zero_or_pos t1 with h'|h'
  ·rw[h',List.take_zero]at av
   have:F.val []=0:=rfl
   omega
  ·exact h'
 have tb:0<y.natAbs→0<t2:=fun h=>by
  rcases Nat.eq_zero_or_pos t2 with h'|h'
  ·rw[h',List.take_zero]at bv
   have:F.val []=0:=rfl
   omega
  ·exact h'
 by_cases hx0:x<0<;>by_cases hy0:y<0
 · · obtain⟨os,o1,o2,o3,o4,hp⟩:=rp_c l1 l2 t1 t2 a2 b2 a1 b1 om om om
     have ov:F.val (os.take os.length)=x.natAbs+y.natAbs:=by rw[List.take_length,o2,av,bv]
     exact Lv n0 (pn_mm x y l1 l2 os t1 t2 os.length hsm ha hb (Cb x true (by simp[hx0])) (Cb y true (by simp[hy0])) hp (fun n0 b h=>sg_i n0 b os os.length true (x+y) h (Nat.le_refl _) om o1 (fun _=>by rw[ov];omega) (by rw[ov];simp;omega))) hG
 · · have hcm:=fun (n0 b1_ b2_:Nat) (g1:5≤b1_) (g2:b1_<n0) (g3:5≤b2_) (g4:b2_<n0) (g5:b1_≠b2_)=>rc_c n0 b1_ b2_ l1 l2 t1 t2 ⟨g1,g2,g3,g4,g5⟩ a1 b1 a2 b2 om om at1 bt1
     rw[av,bv]at hcm
     by_cases hc:Hg x.natAbs y.natAbs<0
     ·have hle:x.natAbs≤y.natAbs:=by have h:=Kh.1 hc;omega
      have ht:t1≤t2:=by
       rcases Nat.lt_or_ge t2 t1 with h|h
       ·have h3:=F.val_lt_of_len b1 b2 h at1
        rw[bv,av]at h3
        omega
       ·exact h
      obtain⟨os,t,o1,o2,o3,o4,hp⟩:=rm_c l2 l1 t2 t1 b2 a2 b1 a1 om om om ht (by rw[bv,av];exact hle)
      rw[bv,av]at o4
      have o5:t≤os.length:=by rw[o2];exact F.top_le _ _
      have o6:0<t→0<F.val (os.take t):=fun h=>by
       have h1:=F.top_pos os os.length (by rw[←o2];exact h)
       rw[←o2]at h1
       obtain⟨q,hq⟩: ∃q,t=q+1:=⟨t-1,by omega⟩
       rw[hq,Nat.add_sub_cancel]at h1
       rw[hq,F.val_take_succ]
       have h2:1*1≤os.getD q 0*10000^q:=Nat.mul_le_mul om (F.pow_pos q)
       omega
      exact Lv n0 (pn_mpl x y l1 l2 os t1 t2 t hsm ha hb (Cb x true (by simp[hx0])) (Cb y false (by simp[hy0])) hcm hp hc (fun n0 b h=>sg_i n0 b os t false (x+y) h o5 om o1 o6 (by simp;omega))) hG
     ·have hle:y.natAbs≤x.natAbs:=by have h:=mt Kh.2 hc;omega
      have ht:t2≤t1:=by
       rcases Nat.lt_or_ge t1 t2 with h|h
       ·have h3:=F.val_lt_of_len a1 a2 h bt1
        rw[av,bv]at h3
        omega
       ·exact h
      obtain⟨os,t,o1,o2,o3,o4,hp⟩:=rm_c l1 l2 t1 t2 a2 b2 a1 b1 om om om ht (by rw[av,bv];exact hle)
      rw[av,bv]at o4
      have o5:t≤os.length:=by rw[o2];exact F.top_le _ _
      have o6:0<t→0<F.val (os.take t):=fun h=>by
       have h1:=F.top_pos os os.length (by rw[←o2];exact h)
       rw[←o2]at h1
       obtain⟨q,hq⟩: ∃q,t=q+1:=⟨t-1,by omega⟩
       rw[hq,Nat.add_sub_cancel]at h1
       rw[hq,F.val_take_succ]
       have h2:1*1≤os.getD q 0*10000^q:=Nat.mul_le_mul om (F.pow_pos q)
       omega
      exact Lv n0 (pn_mpg x y l1 l2 os t1 t2 t hsm ha hb (Cb x true (by simp[hx0])) (Cb y false (by simp[hy0])) hcm hp hc (fun n0 b h=>sg_i n0 b os t true (x+y) h o5 om o1 o6 (by simp;omega))) hG
 · · have hcm:=fun (n0 b1_ b2_:Nat) (g1:5≤b1_) (g2:b1_<n0) (g3:5≤b2_) (g4:b2_<n0) (g5:b1_≠b2_)=>rc_c n0 b1_ b2_ l1 l2 t1 t2 ⟨g1,g2,g3,g4,g5⟩ a1 b1 a2 b2 om om at1 bt1
     rw[av,bv]at hcm
     by_cases hc:Hg x.natAbs y.natAbs<0
     ·have hle:x.natAbs≤y.natAbs:=by have h:=Kh.1 hc;omega
      have ht:t1≤t2:=by
       rcases Nat.lt_or_ge t2 t1 with h|h
       ·have h3:=F.val_lt_of_len b1 b2 h at1
        rw[bv,av]at h3
        omega
       ·exact h
      obtain⟨os,t,o1,o2,o3,o4,hp⟩:=rm_c l2 l1 t2 t1 b2 a2 b1 a1 om om om ht (by rw[bv,av];exact hle)
      rw[bv,av]at o4
      have o5:t≤os.length:=by rw[o2];exact F.top_le _ _
      have o6:0<t→0<F.val (os.take t):=fun h=>by
       have h1:=F.top_pos os os.length (by rw[←o2];exact h)
       rw[←o2]at h1
       obtain⟨q,hq⟩: ∃q,t=q+1:=⟨t-1,by omega⟩
       rw[hq,Nat.add_sub_cancel]at h1
       rw[hq,F.val_take_succ]
       have h2:1*1≤os.getD q 0*10000^q:=Nat.mul_le_mul om (F.pow_pos q)
       omega
      exact Lv n0 (pn_pml x y l1 l2 os t1 t2 t hsm ha hb (Cb x false (by simp[hx0])) (Cb y true (by simp[hy0])) hcm hp hc (fun n0 b h=>sg_i n0 b os t true (x+y) h o5 om o1 o6 (by simp;omega))) hG
     ·have hle:y.natAbs≤x.natAbs:=by have h:=mt Kh.2 hc;omega
      have ht:t2≤t1:=by
       rcases Nat.lt_or_ge t1 t2 with h|h
       ·have h3:=F.val_lt_of_len a1 a2 h bt1
        rw[av,bv]at h3
        omega
       ·exact h
      obtain⟨os,t,o1,o2,o3,o4,hp⟩:=rm_c l1 l2 t1 t2 a2 b2 a1 b1 om om om ht (by rw[av,bv];exact hle)
      rw[av,bv]at o4
      have o5:t≤os.length:=by rw[o2];exact F.top_le _ _
      have o6:0<t→0<F.val (os.take t):=fun h=>by
       have h1:=F.top_pos os os.length (by rw[←o2];exact h)
       rw[←o2]at h1
       obtain⟨q,hq⟩: ∃q,t=q+1:=⟨t-1,by omega⟩
       rw[hq,Nat.add_sub_cancel]at h1
       rw[hq,F.val_take_succ]
       have h2:1*1≤os.getD q 0*10000^q:=Nat.mul_le_mul om (F.pow_pos q)
       omega
      exact Lv n0 (pn_pmg x y l1 l2 os t1 t2 t hsm ha hb (Cb x false (by simp[hx0])) (Cb y true (by simp[hy0])) hcm hp hc (fun n0 b h=>sg_i n0 b os t false (x+y) h o5 om o1 o6 (by simp;omega))) hG
 · · obtain⟨os,o1,o2,o3,o4,hp⟩:=rp_c l1 l2 t1 t2 a2 b2 a1 b1 om om om
     have ov:F.val (os.take os.length)=x.natAbs+y.natAbs:=by rw[List.take_length,o2,av,bv]
     exact Lv n0 (pn_pp x y l1 l2 os t1 t2 os.length hsm ha hb (Cb x false (by simp[hx0])) (Cb y false (by simp[hy0])) hp (fun n0 b h=>sg_i n0 b os os.length false (x+y) h (Nat.le_refl _) om o1 (fun _=>by rw[ov];omega) (by rw[ov];simp;omega))) hG
noncomputable section
abbrev Lj(l1:List Nat):AObj:=.cells (ns .i64 l1) 3 (some 1) false
abbrev Lg(l2:List Nat):AObj:=.cells (ns .i64 l2) 3 (some 1) false
abbrev Lh(os:List Nat):AObj:=.cells (ns .i64 os) 3 none false
abbrev z_768_3:Value:=.tuple #[.int .i64 0,.int .i64 0,.bool false]
end
theorem tn_s(x y:Int)(hsm: ∀n0,5≤n0→FT 86 #[.string (Ad x),.string (Ad y)] n0 [] (.tuple #[.int .i64 x,.int .i64 y,.bool true]) [] [])(hxy:(x*y).natAbs<1000000000000000001):CT 41 #[(.string (Ad x)),(.string (Ad y))] (Ag 5 []) (.string (Ad (x*y))) (Ag 5 []):=
 sF (sc:=[(9,.call [] (.tuple #[(.int .i64 x),(.int .i64 y),bT]) [] []),(17,.op (.rwI (x*y))),(0,.call [] (.string (Ad (x*y))) [] []),(3,.stay)]) kr (aI (hsm 5 om) (aI (show IntKind.wrap .i64 (x*y)=(x*y) from (by rw[Bw om om])) (aI (oi_i (x*y) 5 om om) tt))) (Gets.refl _)
theorem tn_ff(x y:Int)(l1 l2 os:List Nat)(t1 t2 t c:Nat)(hsm: ∀n0,5≤n0→FT 86 #[.string (Ad x),.string (Ad y)] n0 [] z_768_3 [] [])(hl1: ∀n0,5≤n0→FT 87 #[.string (Aa (Ae x.natAbs))] n0 [] (sl n0 t1 0) [] [.cells (ns .i64 l1) 3 (some 1) false])(hl2: ∀n0,5≤n0→FT 87 #[.string (Aa (Ae y.natAbs))] n0 [] (sl n0 t2 0) [] [.cells (ns .i64 l2) 3 (some 1) false])(hnx: ∀n0,5≤n0→FT 44 #[.string (Ad x)] n0 [] bF [] [])(hny: ∀n0,5≤n0→FT 44 #[.string (Ad y)] n0 [] bF [] [])(hp: ∀(n0 b1 b2:Nat),5≤b1→b1<n0→5≤b2→b2<n0→b1≠b2→FT 92 #[sl b1 t1 0,sl b2 t2 0] n0 [(b1,.cells (ns .i64 l1) 3 (some 1) false),(b2,.cells (ns .i64 l2) 3 (some 1) false)] (sl n0 t c) [(b1,some (Lj l1)),(b2,some (Lg l2))] [.cells (ns .i64 os) 3 none false])(hs: ∀n0 b,5≤b∧b<n0→FT 88 #[.bool false,sl b t c] n0 [(b,.cells (ns .i64 os) 3 none false)] (.string (Ad (x*y))) [(b,some (Lh os))] []):CT 41 #[(.string (Ad x)),(.string (Ad y))] (Ag 5 []) (.string (Ad (x*y))) (Ag 8 []):=
 sF (sc:=[(9,.call [] (.tuple #[(lI 0),(lI 0),bF]) [] []),(17,.call [] bF [] []),(1,.call [] bF [] []),(2,.call [] (.string (Aa (Ae x.natAbs))) [] []),(0,.call [] (sl 5 t1 0) [] [(Lj l1)]),(1,.call [] (.string (Aa (Ae y.natAbs))) [] []),(0,.call [] (sl 6 t2 0) [] [(Lg l2)]),(0,.call [5,6] (sl 7 t c) [(5,some (Lj l1)),(6,some (Lg l2))] [(Lh os)]),(0,.call [7] (.string (Ad (x*y))) [(7,some (Lh os))] []),(3,.stay)]) kr (aI (hsm 5 om) (aI (hnx 5 om) (aI (hny 5 om) (aI (Gq x 5 om) (aI (hl1 5 om) (aI (Gq y 6 om) (aI (hl2 6 om) (aI (hp 7 5 6 om om om om om) (aI (hs 8 7 om) tt))))))))) (Gets.refl _)
theorem tn_ft(x y:Int)(l1 l2 os:List Nat)(t1 t2 t c:Nat)(hsm: ∀n0,5≤n0→FT 86 #[.string (Ad x),.string (Ad y)] n0 [] z_768_3 [] [])(hl1: ∀n0,5≤n0→FT 87 #[.string (Aa (Ae x.natAbs))] n0 [] (sl n0 t1 0) [] [.cells (ns .i64 l1) 3 (some 1) false])(hl2: ∀n0,5≤n0→FT 87 #[.string (Aa (Ae y.natAbs))] n0 [] (sl n0 t2 0) [] [.cells (ns .i64 l2) 3 (some 1) false])(hnx: ∀n0,5≤n0→FT 44 #[.string (Ad x)] n0 [] bF [] [])(hny: ∀n0,5≤n0→FT 44 #[.string (Ad y)] n0 [] bT [] [])(hp: ∀(n0 b1 b2:Nat),5≤b1→b1<n0→5≤b2→b2<n0→b1≠b2→FT 92 #[sl b1 t1 0,sl b2 t2 0] n0 [(b1,.cells (ns .i64 l1) 3 (some 1) false),(b2,.cells (ns .i64 l2) 3 (some 1) false)] (sl n0 t c) [(b1,some (Lj l1)),(b2,some (Lg l2))] [.cells (ns .i64 os) 3 none false])(hs: ∀n0 b,5≤b∧b<n0→FT 88 #[.bool true,sl b t c] n0 [(b,.cells (ns .i64 os) 3 none false)] (.string (Ad (x*y))) [(b,some (Lh os))] []):CT 41 #[(.string (Ad x)),(.string (Ad y))] (Ag 5 []) (.string (Ad (x*y))) (Ag 8 []):=
 sF (sc:=[(9,.call [] (.tuple #[(lI 0),(lI 0),bF]) [] []),(17,.call [] bF [] []),(1,.call [] bT [] []),(2,.call [] (.string (Aa (Ae x.natAbs))) [] []),(0,.call [] (sl 5 t1 0) [] [(Lj l1)]),(1,.call [] (.string (Aa (Ae y.natAbs))) [] []),(0,.call [] (sl 6 t2 0) [] [(Lg l2)]),(0,.call [5,6] (sl 7 t c) [(5,some (Lj l1)),(6,some (Lg l2))] [(Lh os)]),(0,.call [7] (.string (Ad (x*y))) [(7,some (Lh os))] []),(3,.stay)]) kr (aI (hsm 5 om) (aI (hnx 5 om) (aI (hny 5 om) (aI (Gq x 5 om) (aI (hl1 5 om) (aI (Gq y 6 om) (aI (hl2 6 om) (aI (hp 7 5 6 om om om om om) (aI (hs 8 7 om) tt))))))))) (Gets.refl _)
theorem tn_tf(x y:Int)(l1 l2 os:List Nat)(t1 t2 t c:Nat)(hsm: ∀n0,5≤n0→FT 86 #[.string (Ad x),.string (Ad y)] n0 [] z_768_3 [] [])(hl1: ∀n0,5≤n0→FT 87 #[.string (Aa (Ae x.natAbs))] n0 [] (sl n0 t1 0) [] [.cells (ns .i64 l1) 3 (some 1) false])(hl2: ∀n0,5≤n0→FT 87 #[.string (Aa (Ae y.natAbs))] n0 [] (sl n0 t2 0) [] [.cells (ns .i64 l2) 3 (some 1) false])(hnx: ∀n0,5≤n0→FT 44 #[.string (Ad x)] n0 [] bT [] [])(hny: ∀n0,5≤n0→FT 44 #[.string (Ad y)] n0 [] bF [] [])(hp: ∀(n0 b1 b2:Nat),5≤b1→b1<n0→5≤b2→b2<n0→b1≠b2→FT 92 #[sl b1 t1 0,sl b2 t2 0] n0 [(b1,.cells (ns .i64 l1) 3 (some 1) false),(b2,.cells (ns .i64 l2) 3 (some 1) false)] (sl n0 t c) [(b1,some (Lj l1)),(b2,some (Lg l2))] [.cells (ns .i64 os) 3 none false])(hs: ∀n0 b,5≤b∧b<n0→FT 88 #[.bool true,sl b t c] n0 [(b,.cells (ns .i64 os) 3 none false)] (.string (Ad (x*y))) [(b,some (Lh os))] []):CT 41 #[(.string (Ad x)),(.string (Ad y))] (Ag 5 []) (.string (Ad (x*y))) (Ag 8 []):=
 sF (sc:=[(9,.call [] (.tuple #[(lI 0),(lI 0),bF]) [] []),(17,.call [] bT [] []),(1,.call [] bF [] []),(2,.call [] (.string (Aa (Ae x.natAbs))) [] []),(0,.call [] (sl 5 t1 0) [] [(Lj l1)]),(1,.call [] (.string (Aa (Ae y.natAbs))) [] []),(0,.call [] (sl 6 t2 0) [] [(Lg l2)]),(0,.call [5,6] (sl 7 t c) [(5,some (Lj l1)),(6,some (Lg l2))] [(Lh os)]),(0,.call [7] (.string (Ad (x*y))) [(7,some (Lh os))] []),(3,.stay)]) kr (aI (hsm 5 om) (aI (hnx 5 om) (aI (hny 5 om) (aI (Gq x 5 om) (aI (hl1 5 om) (aI (Gq y 6 om) (aI (hl2 6 om) (aI (hp 7 5 6 om om om om om) (aI (hs 8 7 om) tt))))))))) (Gets.refl _)
theorem tn_tt(x y:Int)(l1 l2 os:List Nat)(t1 t2 t c:Nat)(hsm: ∀n0,5≤n0→FT 86 #[.string (Ad x),.string (Ad y)] n0 [] z_768_3 [] [])(hl1: ∀n0,5≤n0→FT 87 #[.string (Aa (Ae x.natAbs))] n0 [] (sl n0 t1 0) [] [.cells (ns .i64 l1) 3 (some 1) false])(hl2: ∀n0,5≤n0→FT 87 #[.string (Aa (Ae y.natAbs))] n0 [] (sl n0 t2 0) [] [.cells (ns .i64 l2) 3 (some 1) false])(hnx: ∀n0,5≤n0→FT 44 #[.string (Ad x)] n0 [] bT [] [])(hny: ∀n0,5≤n0→FT 44 #[.string (Ad y)] n0 [] bT [] [])(hp: ∀(n0 b1 b2:Nat),5≤b1→b1<n0→5≤b2→b2<n0→b1≠b2→FT 92 #[sl b1 t1 0,sl b2 t2 0] n0 [(b1,.cells (ns .i64 l1) 3 (some 1) false),(b2,.cells (ns .i64 l2) 3 (some 1) false)] (sl n0 t c) [(b1,some (Lj l1)),(b2,some (Lg l2))] [.cells (ns .i64 os) 3 none false])(hs: ∀n0 b,5≤b∧b<n0→FT 88 #[.bool false,sl b t c] n0 [(b,.cells (ns .i64 os) 3 none false)] (.string (Ad (x*y))) [(b,some (Lh os))] []):CT 41 #[(.string (Ad x)),(.string (Ad y))] (Ag 5 []) (.string (Ad (x*y))) (Ag 8 []):=
 sF (sc:=[(9,.call [] (.tuple #[(lI 0),(lI 0),bF]) [] []),(17,.call [] bT [] []),(1,.call [] bT [] []),(2,.call [] (.string (Aa (Ae x.natAbs))) [] []),(0,.call [] (sl 5 t1 0) [] [(Lj l1)]),(1,.call [] (.string (Aa (Ae y.natAbs))) [] []),(0,.call [] (sl 6 t2 0) [] [(Lg l2)]),(0,.call [5,6] (sl 7 t c) [(5,some (Lj l1)),(6,some (Lg l2))] [(Lh os)]),(0,.call [7] (.string (Ad (x*y))) [(7,some (Lh os))] []),(3,.stay)]) kr (aI (hsm 5 om) (aI (hnx 5 om) (aI (hny 5 om) (aI (Gq x 5 om) (aI (hl1 5 om) (aI (Gq y 6 om) (aI (hl2 6 om) (aI (hp 7 5 6 om om om om om) (aI (hs 8 7 om) tt))))))))) (Gets.refl _)
theorem abs_mul_pos{x y:Int}(h:(0≤x∧0≤y)∨(x≤0∧y≤0)):x*y=((x.natAbs*y.natAbs:Nat):Int):=by
 rw[←Int.natAbs_mul]
 have:0≤x*y:=by
  rcases h with⟨h1,h2⟩|⟨h1,h2⟩
  ·exact Int.mul_nonneg h1 h2
  ·exact Int.mul_nonneg_of_nonpos_of_nonpos h1 h2
 omega
theorem abs_mul_neg{x y:Int}(h:(0≤x∧y≤0)∨(x≤0∧0≤y)):x*y= -((x.natAbs*y.natAbs:Nat):Int):=by
 rw[←Int.natAbs_mul]
 have:x*y≤0:=by
  rcases h with⟨h1,h2⟩|⟨h1,h2⟩
  ·exact Int.mul_nonpos_of_nonneg_of_nonpos h1 h2
  ·rw[Int.mul_comm];exact Int.mul_nonpos_of_nonneg_of_nonpos h2 h1
 omega
theorem Uq(n0 b:Nat)(xs:List Nat)(n c:Nat)(neg:Bool)(z:Int)(hb:5≤b∧b<n0)(hn:n≤xs.length)(hm:n<1000000000)(hlx:F.Lim xs)(hv:0<n→0<F.val (xs.take n))(hz:z=if neg=true then -((F.val (xs.take n):Nat):Int) else ((F.val (xs.take n):Nat):Int)):
  FT 88 #[.bool neg,sl b n c] n0 [(b,.cells (ns .i64 xs) 3 none false)] (.string (Ad z)) [(b,some (cI xs none))] []:=by
 subst hz
 cases neg with
 |false=>
  simp only[Bool.false_eq_true,if_false,Df]
  exact rsh_n_c n0 b xs n c hb hn hm hlx
 |true=>
  simp only[if_true]
  rcases Nat.eq_zero_or_pos n with h0|h0
  ·have hz:F.val (xs.take n)=0:=by rw[h0];rfl
   have:=rsh_z_c n0 b xs n c hb hn hm hlx h0
   rw[hz]at this ⊢
   rw[show -(((0:Nat)):Int)=((0:Nat):Int) from rfl,Df]
   exact this
  ·rw[Hp (hv h0)]
   exact rsh_m_c n0 b xs n c hb hn hm hlx h0
theorem tn_i(x y:Int)(n0:Nat)(hG:5≤n0)(hx:(Ae x.natAbs).length≤1000000)(hy:(Ae y.natAbs).length≤1000000):FT 41 #[.string (Ad x),.string (Ad y)] n0 [] (.string (Ad (x*y))) [] []:=by
 by_cases hsml:(Ae x.natAbs).length≤9∧(Ae y.natAbs).length≤9
 ·have h1:=Da hsml.1
  have h2:=Da hsml.2
  have h9:(10:Nat)^9=1000000000:=by decide
  rw[h9]at h1 h2
  have h3:(x*y).natAbs<1000000000000000001:=by
   rw[Int.natAbs_mul]
   have:=Nat.mul_le_mul (Nat.le_of_lt h1) (Nat.le_of_lt h2)
   omega
  exact Lv n0 (tn_s x y (fun n0 h=>sm_t x y n0 h hsml.1 hsml.2) h3) hG
 have hsm:=fun n0 h=>sm_f x y n0 h hsml om om
 obtain⟨l1,t1,a1,a2,a3,av,at1,ha⟩:=lb_c (Ae x.natAbs) (Bx _) (Be _) om
 obtain⟨l2,t2,b1,b2,b3,bv,bt1,hb⟩:=lb_c (Ae y.natAbs) (Bx _) (Be _) om
 rw[Gb]at av bv
 obtain⟨zs,o1,o2,ov,-⟩:=rtm_c 7 5 6 l1 l2 t1 t2 om a1 b1 a2 b2 om om
 rw[av,bv]at ov
 have htp:=F.top_le zs (t1+t2)
 have hp: ∀(n0 b1_ b2_:Nat),5≤b1_→b1_<n0→5≤b2_→b2_<n0→b1_≠b2_→_:=fun n0 b1_ b2_ g1 g2 g3 g4 g5=>rtmz_c n0 b1_ b2_ l1 l2 zs t1 t2 ⟨g1,g2,g3,g4,g5⟩ o1 o2 (by rw[ov,av,bv]) a1 b1 a2 b2 om om
 have hpos:0<F.top zs (t1+t2)→0<F.val (zs.take (F.top zs (t1+t2))):=fun h=>by
  have h1:=F.top_pos zs (t1+t2) h
  obtain⟨q,hq⟩: ∃q,F.top zs (t1+t2)=q+1:=⟨F.top zs (t1+t2)-1,by omega⟩
  rw[hq,Nat.add_sub_cancel]at h1
  rw[hq,F.val_take_succ]
  have h2:1*1≤zs.getD q 0*10000^q:=Nat.mul_le_mul om (F.pow_pos q)
  omega
 by_cases hx0:x<0<;>by_cases hy0:y<0
 ·exact Lv n0 (tn_tt x y l1 l2 zs t1 t2 (F.top zs (t1+t2)) (t1+t2) hsm ha hb (Cb x true (by simp[hx0])) (Cb y true (by simp[hy0])) hp (fun n0 b h=>Uq n0 b zs (F.top zs (t1+t2)) (t1+t2) false (x*y) h om om o1 hpos (by rw[ov];simp only[Bool.false_eq_true,if_false];exact abs_mul_pos om))) hG
 ·exact Lv n0 (tn_tf x y l1 l2 zs t1 t2 (F.top zs (t1+t2)) (t1+t2) hsm ha hb (Cb x true (by simp[hx0])) (Cb y false (by simp[hy0])) hp (fun n0 b h=>Uq n0 b zs (F.top zs (t1+t2)) (t1+t2) true (x*y) h om om o1 hpos (by rw[ov];simp only[if_true];exact abs_mul_neg om))) hG
 ·exact Lv n0 (tn_ft x y l1 l2 zs t1 t2 (F.top zs (t1+t2)) (t1+t2) hsm ha hb (Cb x false (by simp[hx0])) (Cb y true (by simp[hy0])) hp (fun n0 b h=>Uq n0 b zs (F.top zs (t1+t2)) (t1+t2) true (x*y) h om om o1 hpos (by rw[ov];simp only[if_true];exact abs_mul_neg om))) hG
 ·exact Lv n0 (tn_ff x y l1 l2 zs t1 t2 (F.top zs (t1+t2)) (t1+t2) hsm ha hb (Cb x false (by simp[hx0])) (Cb y false (by simp[hy0])) hp (fun n0 b h=>Uq n0 b zs (F.top zs (t1+t2)) (t1+t2) false (x*y) h om om o1 hpos (by rw[ov];simp only[Bool.false_eq_true,if_false];exact abs_mul_pos om))) hG
noncomputable section
abbrev z_b1b_0(n:Nat):Value:=.int .i64 ((n:Int)-(2:Int))
end
noncomputable def gs_h_f(o1 o2:Option Nat)(e1 e2:Nat)(xs ys:List Nat)(t n tp:Nat)(i:Int)(j:List Value):Frame:=(Fr 138 ([(sl 5 t e1),(sl 6 n e2),uu,uu,(lI 0),(nI n),(nI tp),(lI 0),(.int .i64 i),(J j 0),(sl 6 n e2),(nI n),(nI n)]++(jj j 1 22 (uj 19 []))) [.code (cd Tryz.f138 [1,1,1,0,1,0,0]),.inLoop (cd Tryz.f138 [1,1,1,0,1,0,0]),.inBlock 0,.code (cd Tryz.f138 [1,1,1,1])])
noncomputable def gs_h_o(o1 o2:Option Nat)(e1 e2:Nat)(xs ys:List Nat)(t n tp:Nat)(i:Int):List (Nat×AObj):=[(5,(cI xs o1)),(6,(cI ys o2))]
noncomputable def gs_h(o1 o2:Option Nat)(e1 e2:Nat)(xs ys:List Nat)(t n tp:Nat)(i:Int)(j:List Value):AS:=⟨gs_h_f o1 o2 e1 e2 xs ys t n tp i j,[],Ag 7 (gs_h_o o1 o2 e1 e2 xs ys t n tp i)⟩
theorem gs_in(o1 o2:Option Nat)(e1 e2:Nat)(xs ys:List Nat)(t n:Nat):GT (Cg 138 #[(sl 5 t e1),(sl 6 n e2)] 7 [(5,(cI xs o1)),(6,(cI ys o2))]) (gs_h o1 o2 e1 e2 xs ys t n 0 (n:Int) [undef,undef,undef,undef,undef,undef,undef,undef,undef,undef,undef,undef,undef,undef,undef,undef,undef,undef,undef,undef,undef,undef,undef]):=
 sR (sc:=[(23,.stay)]) kr tt
theorem gs_n(o1 o2:Option Nat)(e1 e2:Nat)(xs ys:List Nat)(t n:Nat)(tp:Nat)(j:List Value)(ht:t<1099511627776)(hnm:n<1099511627776)(htp:tp<100000000)(i:Int)(hi:(n:Int)-2≤i)(hi0:i<0):GT (gs_h o1 o2 e1 e2 xs ys t n tp i j) (gs_h o1 o2 e1 e2 xs ys t n (tp*10000) (i-(1:Int)) ([(lI 0),(.int .i64 i),(nI n),(z_b1b_0 n),bT,(.int .i64 i),(.int .i64 (i-(1:Int))),(.int .i64 i),bF,bF,undef,undef,undef,undef,bF]++(jj j 15 4 [(nI tp),(nI (tp*10000)),(lI 0),(nI (tp*10000))]))):=
 sR (sc:=[(5,.op (.rwI ((n:Int)-(2:Int)))),(0,.op (.rwB true)),(13,.op (.rwB false)),(11,.op (.rwI (((tp*10000):Nat):Int))),(1,.op (.rwI (((tp*10000):Nat):Int))),(5,.op (.rwI (i-(1:Int)))),(3,.stay)]) kr (aI (Ao (a:=((n:Int)-(2:Int))) (r:=((n:Int)-(2:Int)))) (aI (dT (p:=i≥((n:Int)-(2:Int)))) (aI (dF (p:=i≥(0:Int))) (aI (Ao (a:=((tp:Int)*(10000:Int))) (r:=(((tp*10000):Nat):Int))) (aI (Ao (a:=((((tp*10000):Nat):Int)+(0:Int))) (r:=(((tp*10000):Nat):Int))) (aI (Ao (a:=(i-(1:Int))) (r:=(i-(1:Int)))) tt))))))
theorem gs_f(o1 o2:Option Nat)(e1 e2:Nat)(xs ys:List Nat)(t n:Nat)(tp:Nat)(j:List Value)(ht:t<1099511627776)(hnm:n<1099511627776)(htp:tp<100000000)(i:Nat)(hi:(n:Int)-2≤(i:Int))(him:i<1099511627776)(hi0:t≤i):GT (gs_h o1 o2 e1 e2 xs ys t n tp (i:Int) j) (gs_h o1 o2 e1 e2 xs ys t n (tp*10000) ((i:Int)-(1:Int)) ([(lI 0),(nI i),(nI n),(z_b1b_0 n),bT,(nI i),(.int .i64 ((i:Int)-(1:Int))),(nI i),bT,bT,(nI i),(sl 5 t e1),(nI t),bF,bF]++(jj j 15 4 [(nI tp),(nI (tp*10000)),(lI 0),(nI (tp*10000))]))):=
 sR (sc:=[(5,.op (.rwI ((n:Int)-(2:Int)))),(0,.op (.rwB true)),(13,.op (.rwB true)),(4,.op (.rwB false)),(6,.op (.rwI (((tp*10000):Nat):Int))),(1,.op (.rwI (((tp*10000):Nat):Int))),(5,.op (.rwI ((i:Int)-(1:Int)))),(3,.stay)]) kr (aI (Ao (a:=((n:Int)-(2:Int))) (r:=((n:Int)-(2:Int)))) (aI (dT (p:=(i:Int)≥((n:Int)-(2:Int)))) (aI (dT (p:=(i:Int)≥(0:Int))) (aI (dF (p:=(i:Int)<(t:Int))) (aI (Ao (a:=((tp:Int)*(10000:Int))) (r:=(((tp*10000):Nat):Int))) (aI (Ao (a:=((((tp*10000):Nat):Int)+(0:Int))) (r:=(((tp*10000):Nat):Int))) (aI (Ao (a:=((i:Int)-(1:Int))) (r:=((i:Int)-(1:Int)))) tt)))))))
theorem gs_t(o1 o2:Option Nat)(e1 e2:Nat)(xs ys:List Nat)(t n:Nat)(tp:Nat)(j:List Value)(ht:t<1099511627776)(hnm:n<1099511627776)(htp:tp<100000000)(i:Nat)(a:Nat)(hi:(n:Int)-2≤(i:Int))(hi0:i<t)(ha:a<10000)(hx:(ns .i64 xs)[i]? =some (nI a)):GT (gs_h o1 o2 e1 e2 xs ys t n tp (i:Int) j) (gs_h o1 o2 e1 e2 xs ys t n ((tp*10000)+a) ((i:Int)-(1:Int)) [(nI a),(nI i),(nI n),(z_b1b_0 n),bT,(nI i),(.int .i64 ((i:Int)-(1:Int))),(nI i),bT,bT,(nI i),(sl 5 t e1),(nI t),bT,bT,(sl 5 t e1),(nI i),(pp 5 i),(nI a),(nI tp),(nI (tp*10000)),(nI a),(nI ((tp*10000)+a))]):=
 sR (sc:=[(5,.op (.rwI ((n:Int)-(2:Int)))),(0,.op (.rwB true)),(13,.op (.rwB true)),(4,.op (.rwB true)),(6,.op (.idx i)),(0,.op (.ld (nI a))),(4,.op (.rwI (((tp*10000):Nat):Int))),(1,.op (.rwI ((((tp*10000)+a):Nat):Int))),(5,.op (.rwI ((i:Int)-(1:Int)))),(3,.stay)]) kr (aI (Ao (a:=((n:Int)-(2:Int))) (r:=((n:Int)-(2:Int)))) (aI (dT (p:=(i:Int)≥((n:Int)-(2:Int)))) (aI (dT (p:=(i:Int)≥(0:Int))) (aI (dT (p:=(i:Int)<(t:Int))) (aI (ix (i:Int) (t:Int) 0 1 i) (aI hx (aI (Ao (a:=((tp:Int)*(10000:Int))) (r:=(((tp*10000):Nat):Int))) (aI (Ao (a:=((((tp*10000):Nat):Int)+(a:Int))) (r:=((((tp*10000)+a):Nat):Int))) (aI (Ao (a:=((i:Int)-(1:Int))) (r:=((i:Int)-(1:Int)))) tt)))))))))
theorem gs_1(o1 o2:Option Nat)(e1 e2:Nat)(xs ys:List Nat)(t n:Nat)(tp:Nat)(j:List Value)(ht:t<1099511627776)(hnm:n<1099511627776)(htp:tp<1000000000000)(i:Int)(n1 a w:Nat)(hi:i<(n:Int)-2)(hn1:n=n1+1)(ha:a<10000)(ha0:0<a)(hx:(ns .i64 ys)[n1]? =some (nI a))(h1:n≤1)(hw:w=tp/(a*10000))(hr:GT (Cg 138 #[(sl 5 t e1),(sl 6 n e2)] 7 [(5,(cI xs o1)),(6,(cI ys o2))]) (gs_h o1 o2 e1 e2 xs ys t n tp i j)):CT 138 #[(sl 5 t e1),(sl 6 n e2)] (Ag 7 [(5,(cI xs o1)),(6,(cI ys o2))]) (nI (min 9999 w)) (Ag 7 [(5,(cI xs o1)),(6,(cI ys o2))]):=
 sF (sc:=[(5,.op (.rwI ((n:Int)-(2:Int)))),(0,.op (.rwB false)),(7,.op (.rwI (n1:Int))),(0,.op (.idx n1)),(0,.op (.ld (nI a))),(0,.op (.rwI (((a*10000):Nat):Int))),(6,.op (.rwB false)),(7,.op (.div (w:Int))),(0,.op (.rwI (((min 9999 w):Nat):Int))),(3,.stay)]) kr (aI (Ao (a:=((n:Int)-(2:Int))) (r:=((n:Int)-(2:Int)))) (aI (dF (p:=i≥((n:Int)-(2:Int)))) (aI (Ao (a:=((n:Int)-(1:Int))) (r:=(n1:Int))) (aI (ix (n1:Int) (n:Int) 0 1 n1) (aI hx (aI (Ao (a:=((a:Int)*(10000:Int))) (r:=(((a*10000):Nat):Int))) (aI (dF (p:=(n:Int)>(1:Int))) (aI (show (((a*10000):Nat):Int)≠0∧IntKind.wrap .i64 (Int.tdiv (tp:Int) (((a*10000):Nat):Int))=(w:Int) from⟨by omega,by subst hw;exact quo_wrap om⟩) (aI (show (if (w:Int)<(9999:Int) then (w:Int) else (9999:Int))=(((min 9999 w):Nat):Int) from (by split<;>omega)) tt))))))))) hr
theorem gs_2(o1 o2:Option Nat)(e1 e2:Nat)(xs ys:List Nat)(t n:Nat)(tp:Nat)(j:List Value)(ht:t<1099511627776)(hnm:n<1099511627776)(htp:tp<1000000000000)(i:Int)(n1 a w:Nat)(hi:i<(n:Int)-2)(hn1:n=n1+1)(ha:a<10000)(ha0:0<a)(hx:(ns .i64 ys)[n1]? =some (nI a))(n2 b:Nat)(h1:1<n)(hn2:n=n2+2)(hb:b<10000)(hy:(ns .i64 ys)[n2]? =some (nI b))(hw:w=tp/(a*10000+b))(hr:GT (Cg 138 #[(sl 5 t e1),(sl 6 n e2)] 7 [(5,(cI xs o1)),(6,(cI ys o2))]) (gs_h o1 o2 e1 e2 xs ys t n tp i j)):CT 138 #[(sl 5 t e1),(sl 6 n e2)] (Ag 7 [(5,(cI xs o1)),(6,(cI ys o2))]) (nI (min 9999 w)) (Ag 7 [(5,(cI xs o1)),(6,(cI ys o2))]):=
 sF (sc:=[(5,.op (.rwI ((n:Int)-(2:Int)))),(0,.op (.rwB false)),(7,.op (.rwI (n1:Int))),(0,.op (.idx n1)),(0,.op (.ld (nI a))),(0,.op (.rwI (((a*10000):Nat):Int))),(6,.op (.rwB true)),(6,.op (.rwI (n2:Int))),(0,.op (.idx n2)),(0,.op (.ld (nI b))),(0,.op (.rwI ((((a*10000)+b):Nat):Int))),(6,.op (.div (w:Int))),(0,.op (.rwI (((min 9999 w):Nat):Int))),(3,.stay)]) kr (aI (Ao (a:=((n:Int)-(2:Int))) (r:=((n:Int)-(2:Int)))) (aI (dF (p:=i≥((n:Int)-(2:Int)))) (aI (Ao (a:=((n:Int)-(1:Int))) (r:=(n1:Int))) (aI (ix (n1:Int) (n:Int) 0 1 n1) (aI hx (aI (Ao (a:=((a:Int)*(10000:Int))) (r:=(((a*10000):Nat):Int))) (aI (dT (p:=(n:Int)>(1:Int))) (aI (Ao (a:=((n:Int)-(2:Int))) (r:=(n2:Int))) (aI (ix (n2:Int) (n:Int) 0 1 n2) (aI hy (aI (Ao (a:=((((a*10000):Nat):Int)+(b:Int))) (r:=((((a*10000)+b):Nat):Int))) (aI (show ((((a*10000)+b):Nat):Int)≠0∧IntKind.wrap .i64 (Int.tdiv (tp:Int) ((((a*10000)+b):Nat):Int))=(w:Int) from⟨by omega,by subst hw;exact quo_wrap om⟩) (aI (show (if (w:Int)<(9999:Int) then (w:Int) else (9999:Int))=(((min 9999 w):Nat):Int) from (by split<;>omega)) tt))))))))))))) hr
theorem gs_step{s0:AS}{o1 o2:Option Nat}{e1 e2:Nat}{xs ys:List Nat}{t n tp:Nat}{i:Int}{j:List Value}(hlx:F.Lim xs)(htx:t≤xs.length)(ht:t<1099511627776)(hnm:n<1099511627776)(htp:tp<100000000)(hi:(n:Int)-2≤i)(him:i≤n)(hr:GT s0 (gs_h o1 o2 e1 e2 xs ys t n tp i j)):
  ∃j',GT s0 (gs_h o1 o2 e1 e2 xs ys t n (tp*10000+F.gd xs t i) (i-1) j'):=by
 by_cases h0:i<0
 ·rw[F.gd_neg xs t h0,Nat.add_zero]
  exact⟨_,hr.trans (gs_n o1 o2 e1 e2 xs ys t n tp j ht hnm htp i hi h0)⟩
 ·obtain⟨k,rfl⟩: ∃k:Nat,i=k:=⟨i.toNat,by omega⟩
  by_cases hk:k<t
  ·have e:F.gd xs t (k:Int)=xs.getD k 0:=by rw[F.gd_nat,F.getD_take hk]
   rw[e]
   exact⟨_,hr.trans (gs_t o1 o2 e1 e2 xs ys t n tp j ht hnm htp k _ hi hk (hlx.get k) (Ar))⟩
  ·have e:F.gd xs t (k:Int)=0:=by rw[F.gd_nat,F.getD_le (by rw[List.length_take];omega)]
   rw[e,Nat.add_zero]
   exact⟨_,hr.trans (gs_f o1 o2 e1 e2 xs ys t n tp j ht hnm htp k hi om om)⟩
theorem gs_c(o1 o2:Option Nat)(e1 e2:Nat)(xs ys:List Nat)(t n:Nat)(n0 bx byy:Nat)(hb:5≤bx∧bx<n0∧5≤byy∧byy<n0∧bx≠byy)(hlx:F.Lim xs)(hly:F.Lim ys)(htx:t≤xs.length)(hny:n≤ys.length)(ht:t<1099511627776)(hnm:n<1099511627776)(h0:0<n)(hy:ys.getD (n-1) 0≠0):
  FT 138 #[sl bx t e1,sl byy n e2] n0 [(bx,.cells (ns .i64 xs) 3 o1 false),(byy,.cells (ns .i64 ys) 3 o2 false)] (nI (F.guessF xs t ys n)) [(bx,some (cI xs o1)),(byy,some (cI ys o2))] []:=by
 have g0:=F.gd_lt hlx t (n:Int)
 have g1:=F.gd_lt hlx t ((n:Int)-1)
 have g2:=F.gd_lt hlx t ((n:Int)-2)
 obtain⟨j1,r1⟩:=gs_step (tp:=0) (i:=(n:Int)) hlx htx ht hnm de om om (gs_in o1 o2 e1 e2 xs ys t n)
 rw[Nat.zero_mul,Nat.zero_add]at r1
 obtain⟨j2,r2⟩:=gs_step hlx htx ht hnm om om om r1
 rw[show (n:Int)-1-1=(n:Int)-2 by omega]at r2
 obtain⟨j3,r3⟩:=gs_step hlx htx ht hnm om om om r2
 have S:CT 138 #[(sl 5 t e1),(sl 6 n e2)] (Ag 7 [(5,(cI xs o1)),(6,(cI ys o2))]) (nI (F.guessF xs t ys n)) (Ag 7 [(5,(cI xs o1)),(6,(cI ys o2))]):=by
  have ha:=hly.get (n-1)
  unfold F.guessF F.gtop F.gby
  by_cases h1:n≤1
  ·rw[if_neg om,Nat.add_zero]
   exact gs_1 o1 o2 e1 e2 xs ys t n _ j3 ht hnm om _ (n-1) _ _ om om ha om (Ar) h1 rfl r3
  ·rw[if_pos om]
   exact gs_2 o1 o2 e1 e2 xs ys t n _ j3 ht hnm om _ (n-1) _ _ om om ha om (Ar) (n-2) _ om om (hly.get (n-2)) (Ar) rfl r3
 exact ff [bx,byy] [.cells (ns .i64 xs) 3 o1 false,.cells (ns .i64 ys) 3 o2 false] [.cells (ns .i64 xs) 3 o1 false,.cells (ns .i64 ys) 3 o2 false] [] [] n0 S (hnd:=by simp[hb.2.2.2.2])
theorem lo_z:CT 139 #[(lI 0)] (Ag 5 []) nS (Ag 5 []):=
 sF (sc:=[(16,.stay)]) kr tt (Gets.refl _)
theorem lo_q(q:Nat)(hq:0<q):CT 139 #[(nI q)] (Ag 5 []) (sl 5 1 1) (Ag 6 [(5,(cI ([q]) none))]):=
 sF (sc:=[(8,.op (.rwB false)),(10,.stay)]) kr (aI (eF (a:=(q:Int)) (b:=(0:Int))) tt) (Gets.refl _)
theorem Xq(n0:Nat)(hG:5≤n0):FT 139 #[.int .i64 (.ofNat 0)] n0 [] nS [] []:=
 Lv n0 (lo_z) hG
theorem lo_c(n0 q:Nat)(hG:5≤n0)(hq:0<q):FT 139 #[.int .i64 ((q:Nat):Int)] n0 [] (sl n0 1 1) [] [.cells (ns .i64 [q]) 3 none false]:=
 ff [] [] [] [5] [.cells (ns .i64 [q]) 3 none false] n0 (lo_q q hq) (hb:=sm) (hGn:=hG) (fo:=rfl) (fp:=rfl)
end Go.Proofs.YtldoiilgfcpipaaGreatDoor
