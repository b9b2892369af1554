import Derived.Test.YtjbflfbhfnkmlaaGreatDoorPRText
import Derived.Test.YtjbflfbhfnkmlaaGreatDoorPROver
import Derived.Test.YtjbflfbhfnkmlaaGreatDoorRPlus
import Derived.Test.YtjbflfbhfnkmlaaGreatDoorPRCmp
import Derived.Test.YtjbflfbhfnkmlaaGreatDoorPRTextC
import Derived.Test.YtjbflfbhfnkmlaaGreatDoorLF
set_option linter.unusedVariables false
set_option linter.unusedSimpArgs false
set_option maxRecDepth 100000
namespace Go.Proofs.YtjbflfbhfnkmlaaGreatDoor
open Go Go.AE Seg
noncomputable section
abbrev Cs(l1:List Nat):AObj:=.cells (ns .i64 l1) 3 (some 1) false
abbrev Cr(l2:List Nat):AObj:=.cells (ns .i64 l2) 3 (some 1) false
abbrev Ek(os:List Nat):AObj:=.cells (ns .i64 os) 3 (some 1) false
abbrev Vw:Value:=.tuple #[.int .i64 0,.int .i64 0,.bool false]
abbrev Qy(x y:Int):Value:=.int .i64 (Gp x.natAbs y.natAbs)
abbrev Ti(x y:Int):Array Value:= #[(.string (Ab x)),(.string (Ab y))]
abbrev Tj(x y:Int):Array Value:= #[.string (Ab x),.string (Ab y)]
abbrev Wk:Value:=.tuple #[(lI 0),(lI 0),bF]
end
theorem pn_s(x y:Int)(hsm: ∀n0,5≤n0→FT 86 (Tj x y) n0 [] (.tuple #[.int .i64 x,.int .i64 y,.bool true]) [] [])(hx:x.natAbs<1000000000)(hy:y.natAbs<1000000000):CT 40 (Ti x y) (Ac 5 []) (.string (Ab (x+y))) (Ac 5 []):=
 sF (sc:=[(9,.call [] (.tuple #[(.int .i64 x),(.int .i64 y),bT]) [] []),(17,.op (.rwI (x+y))),(0,.call [] (.string (Ab (x+y))) [] []),(3,.stay)]) kr (aI (hsm 5 om) (aI (Am (a:=(x+y)) (r:=(x+y))) (aI (oi_i (x+y) 5 om om) tt))) (Gets.refl _)
theorem pn_pp(x y:Int)(l1 l2 os:List Nat)(t1 t2 t:Nat)(hsm: ∀n0,5≤n0→FT 86 (Tj x y) n0 [] Vw [] [])(hl1: ∀n0,5≤n0→FT 87 #[.string (Aa (Ae x.natAbs))] n0 [] (sl n0 t1 0) [] [.cells (ns .i64 l1) 3 (some 1) false])(hl2: ∀n0,5≤n0→FT 87 #[.string (Aa (Ae y.natAbs))] n0 [] (sl n0 t2 0) [] [.cells (ns .i64 l2) 3 (some 1) false])(hnx: ∀n0,5≤n0→FT 44 #[.string (Ab x)] n0 [] bF [] [])(hny: ∀n0,5≤n0→FT 44 #[.string (Ab y)] n0 [] bF [] [])(hp: ∀(n0 b1 b2:Nat),5≤b1→b1<n0→5≤b2→b2<n0→b1≠b2→FT 89 #[sl b1 t1 0,sl b2 t2 0] n0 [(b1,.cells (ns .i64 l1) 3 (some 1) false),(b2,.cells (ns .i64 l2) 3 (some 1) false)] (sl n0 t 0) [(b1,some (Cs l1)),(b2,some (Cr l2))] [.cells (ns .i64 os) 3 (some 1) false])(hs: ∀n0 b,5≤b∧b<n0→FT 88 #[.bool false,sl b t 0] n0 [(b,.cells (ns .i64 os) 3 (some 1) false)] (.string (Ab (x+y))) [(b,some (Ek os))] []):CT 40 (Ti x y) (Ac 5 []) (.string (Ab (x+y))) (Ac 8 []):=
 sF (sc:=[(9,.call [] Wk [] []),(17,.call [] (.string (Aa (Ae x.natAbs))) [] []),(0,.call [] (sl 5 t1 0) [] [(Cs l1)]),(1,.call [] (.string (Aa (Ae y.natAbs))) [] []),(0,.call [] (sl 6 t2 0) [] [(Cr l2)]),(7,.call [] bF [] []),(1,.call [] bF [] []),(6,.call [] bF [] []),(2,.call [5,6] (sl 7 t 0) [(5,some (Cs l1)),(6,some (Cr l2))] [(Ek os)]),(0,.call [7] (.string (Ab (x+y))) [(7,some (Ek os))] []),(3,.stay)]) kr (aI (hsm 5 om) (aI (Hd x 5 om) (aI (hl1 5 om) (aI (Hd y 6 om) (aI (hl2 6 om) (aI (hnx 7 om) (aI (hny 7 om) (aI (hnx 7 om) (aI (hp 7 5 6 om om om om om) (aI (hs 8 7 om) tt)))))))))) (Gets.refl _)
theorem pn_mm(x y:Int)(l1 l2 os:List Nat)(t1 t2 t:Nat)(hsm: ∀n0,5≤n0→FT 86 (Tj x y) n0 [] Vw [] [])(hl1: ∀n0,5≤n0→FT 87 #[.string (Aa (Ae x.natAbs))] n0 [] (sl n0 t1 0) [] [.cells (ns .i64 l1) 3 (some 1) false])(hl2: ∀n0,5≤n0→FT 87 #[.string (Aa (Ae y.natAbs))] n0 [] (sl n0 t2 0) [] [.cells (ns .i64 l2) 3 (some 1) false])(hnx: ∀n0,5≤n0→FT 44 #[.string (Ab x)] n0 [] bT [] [])(hny: ∀n0,5≤n0→FT 44 #[.string (Ab y)] n0 [] bT [] [])(hp: ∀(n0 b1 b2:Nat),5≤b1→b1<n0→5≤b2→b2<n0→b1≠b2→FT 89 #[sl b1 t1 0,sl b2 t2 0] n0 [(b1,.cells (ns .i64 l1) 3 (some 1) false),(b2,.cells (ns .i64 l2) 3 (some 1) false)] (sl n0 t 0) [(b1,some (Cs l1)),(b2,some (Cr l2))] [.cells (ns .i64 os) 3 (some 1) false])(hs: ∀n0 b,5≤b∧b<n0→FT 88 #[.bool true,sl b t 0] n0 [(b,.cells (ns .i64 os) 3 (some 1) false)] (.string (Ab (x+y))) [(b,some (Ek os))] []):CT 40 (Ti x y) (Ac 5 []) (.string (Ab (x+y))) (Ac 8 []):=
 sF (sc:=[(9,.call [] Wk [] []),(17,.call [] (.string (Aa (Ae x.natAbs))) [] []),(0,.call [] (sl 5 t1 0) [] [(Cs l1)]),(1,.call [] (.string (Aa (Ae y.natAbs))) [] []),(0,.call [] (sl 6 t2 0) [] [(Cr l2)]),(7,.call [] bT [] []),(1,.call [] bT [] []),(6,.call [] bT [] []),(2,.call [5,6] (sl 7 t 0) [(5,some (Cs l1)),(6,some (Cr l2))] [(Ek os)]),(0,.call [7] (.string (Ab (x+y))) [(7,some (Ek os))] []),(3,.stay)]) kr (aI (hsm 5 om) (aI (Hd x 5 om) (aI (hl1 5 om) (aI (Hd y 6 om) (aI (hl2 6 om) (aI (hnx 7 om) (aI (hny 7 om) (aI (hnx 7 om) (aI (hp 7 5 6 om om om om om) (aI (hs 8 7 om) tt)))))))))) (Gets.refl _)
theorem pn_pml(x y:Int)(l1 l2 os:List Nat)(t1 t2 t:Nat)(hsm: ∀n0,5≤n0→FT 86 (Tj x y) n0 [] Vw [] [])(hl1: ∀n0,5≤n0→FT 87 #[.string (Aa (Ae x.natAbs))] n0 [] (sl n0 t1 0) [] [.cells (ns .i64 l1) 3 (some 1) false])(hl2: ∀n0,5≤n0→FT 87 #[.string (Aa (Ae y.natAbs))] n0 [] (sl n0 t2 0) [] [.cells (ns .i64 l2) 3 (some 1) false])(hnx: ∀n0,5≤n0→FT 44 #[.string (Ab x)] n0 [] bF [] [])(hny: ∀n0,5≤n0→FT 44 #[.string (Ab y)] n0 [] bT [] [])(hcm: ∀(n0 b1 b2:Nat),5≤b1→b1<n0→5≤b2→b2<n0→b1≠b2→FT 90 #[sl b1 t1 0,sl b2 t2 0] n0 [(b1,.cells (ns .i64 l1) 3 (some 1) false),(b2,.cells (ns .i64 l2) 3 (some 1) false)] (Qy x y) [(b1,some (Cs l1)),(b2,some (Cr l2))] [])(hp: ∀(n0 b1 b2:Nat),5≤b1→b1<n0→5≤b2→b2<n0→b1≠b2→FT 91 #[sl b1 t2 0,sl b2 t1 0] n0 [(b1,.cells (ns .i64 l2) 3 (some 1) false),(b2,.cells (ns .i64 l1) 3 (some 1) false)] (sl n0 t 0) [(b1,some (Cr l2)),(b2,some (Cs l1))] [.cells (ns .i64 os) 3 (some 1) false])(hlt:Gp x.natAbs y.natAbs<0)(hs: ∀n0 b,5≤b∧b<n0→FT 88 #[.bool true,sl b t 0] n0 [(b,.cells (ns .i64 os) 3 (some 1) false)] (.string (Ab (x+y))) [(b,some (Ek os))] []):CT 40 (Ti x y) (Ac 5 []) (.string (Ab (x+y))) (Ac 8 []):=
 sF (sc:=[(9,.call [] Wk [] []),(17,.call [] (.string (Aa (Ae x.natAbs))) [] []),(0,.call [] (sl 5 t1 0) [] [(Cs l1)]),(1,.call [] (.string (Aa (Ae y.natAbs))) [] []),(0,.call [] (sl 6 t2 0) [] [(Cr l2)]),(7,.call [] bF [] []),(1,.call [] bT [] []),(9,.call [5,6] (Qy x y) [(5,some (Cs l1)),(6,some (Cr l2))] []),(0,.op (.rwB true)),(5,.call [] bT [] []),(2,.call [6,5] (sl 7 t 0) [(6,some (Cr l2)),(5,some (Cs l1))] [(Ek os)]),(0,.call [7] (.string (Ab (x+y))) [(7,some (Ek os))] []),(3,.stay)]) kr (aI (hsm 5 om) (aI (Hd x 5 om) (aI (hl1 5 om) (aI (Hd y 6 om) (aI (hl2 6 om) (aI (hnx 7 om) (aI (hny 7 om) (aI (hcm 7 5 6 om om om om om) (aI (dT (p:=(Gp x.natAbs y.natAbs)<(0:Int))) (aI (hny 7 om) (aI (hp 7 6 5 om om om om om) (aI (hs 8 7 om) tt)))))))))))) (Gets.refl _)
theorem pn_pmg(x y:Int)(l1 l2 os:List Nat)(t1 t2 t:Nat)(hsm: ∀n0,5≤n0→FT 86 (Tj x y) n0 [] Vw [] [])(hl1: ∀n0,5≤n0→FT 87 #[.string (Aa (Ae x.natAbs))] n0 [] (sl n0 t1 0) [] [.cells (ns .i64 l1) 3 (some 1) false])(hl2: ∀n0,5≤n0→FT 87 #[.string (Aa (Ae y.natAbs))] n0 [] (sl n0 t2 0) [] [.cells (ns .i64 l2) 3 (some 1) false])(hnx: ∀n0,5≤n0→FT 44 #[.string (Ab x)] n0 [] bF [] [])(hny: ∀n0,5≤n0→FT 44 #[.string (Ab y)] n0 [] bT [] [])(hcm: ∀(n0 b1 b2:Nat),5≤b1→b1<n0→5≤b2→b2<n0→b1≠b2→FT 90 #[sl b1 t1 0,sl b2 t2 0] n0 [(b1,.cells (ns .i64 l1) 3 (some 1) false),(b2,.cells (ns .i64 l2) 3 (some 1) false)] (Qy x y) [(b1,some (Cs l1)),(b2,some (Cr l2))] [])(hp: ∀(n0 b1 b2:Nat),5≤b1→b1<n0→5≤b2→b2<n0→b1≠b2→FT 91 #[sl b1 t1 0,sl b2 t2 0] n0 [(b1,.cells (ns .i64 l1) 3 (some 1) false),(b2,.cells (ns .i64 l2) 3 (some 1) false)] (sl n0 t 0) [(b1,some (Cs l1)),(b2,some (Cr l2))] [.cells (ns .i64 os) 3 (some 1) false])(hge: ¬Gp x.natAbs y.natAbs<0)(hs: ∀n0 b,5≤b∧b<n0→FT 88 #[.bool false,sl b t 0] n0 [(b,.cells (ns .i64 os) 3 (some 1) false)] (.string (Ab (x+y))) [(b,some (Ek os))] []):CT 40 (Ti x y) (Ac 5 []) (.string (Ab (x+y))) (Ac 8 []):=
 sF (sc:=[(9,.call [] Wk [] []),(17,.call [] (.string (Aa (Ae x.natAbs))) [] []),(0,.call [] (sl 5 t1 0) [] [(Cs l1)]),(1,.call [] (.string (Aa (Ae y.natAbs))) [] []),(0,.call [] (sl 6 t2 0) [] [(Cr l2)]),(7,.call [] bF [] []),(1,.call [] bT [] []),(9,.call [5,6] (Qy x y) [(5,some (Cs l1)),(6,some (Cr l2))] []),(0,.op (.rwB false)),(6,.call [] bF [] []),(2,.call [5,6] (sl 7 t 0) [(5,some (Cs l1)),(6,some (Cr l2))] [(Ek os)]),(0,.call [7] (.string (Ab (x+y))) [(7,some (Ek os))] []),(3,.stay)]) kr (aI (hsm 5 om) (aI (Hd x 5 om) (aI (hl1 5 om) (aI (Hd y 6 om) (aI (hl2 6 om) (aI (hnx 7 om) (aI (hny 7 om) (aI (hcm 7 5 6 om om om om om) (aI (dF (p:=(Gp x.natAbs y.natAbs)<(0:Int))) (aI (hnx 7 om) (aI (hp 7 5 6 om om om om om) (aI (hs 8 7 om) tt)))))))))))) (Gets.refl _)
theorem pn_mpl(x y:Int)(l1 l2 os:List Nat)(t1 t2 t:Nat)(hsm: ∀n0,5≤n0→FT 86 (Tj x y) n0 [] Vw [] [])(hl1: ∀n0,5≤n0→FT 87 #[.string (Aa (Ae x.natAbs))] n0 [] (sl n0 t1 0) [] [.cells (ns .i64 l1) 3 (some 1) false])(hl2: ∀n0,5≤n0→FT 87 #[.string (Aa (Ae y.natAbs))] n0 [] (sl n0 t2 0) [] [.cells (ns .i64 l2) 3 (some 1) false])(hnx: ∀n0,5≤n0→FT 44 #[.string (Ab x)] n0 [] bT [] [])(hny: ∀n0,5≤n0→FT 44 #[.string (Ab y)] n0 [] bF [] [])(hcm: ∀(n0 b1 b2:Nat),5≤b1→b1<n0→5≤b2→b2<n0→b1≠b2→FT 90 #[sl b1 t1 0,sl b2 t2 0] n0 [(b1,.cells (ns .i64 l1) 3 (some 1) false),(b2,.cells (ns .i64 l2) 3 (some 1) false)] (Qy x y) [(b1,some (Cs l1)),(b2,some (Cr l2))] [])(hp: ∀(n0 b1 b2:Nat),5≤b1→b1<n0→5≤b2→b2<n0→b1≠b2→FT 91 #[sl b1 t2 0,sl b2 t1 0] n0 [(b1,.cells (ns .i64 l2) 3 (some 1) false),(b2,.cells (ns .i64 l1) 3 (some 1) false)] (sl n0 t 0) [(b1,some (Cr l2)),(b2,some (Cs l1))] [.cells (ns .i64 os) 3 (some 1) false])(hlt:Gp x.natAbs y.natAbs<0)(hs: ∀n0 b,5≤b∧b<n0→FT 88 #[.bool false,sl b t 0] n0 [(b,.cells (ns .i64 os) 3 (some 1) false)] (.string (Ab (x+y))) [(b,some (Ek os))] []):CT 40 (Ti x y) (Ac 5 []) (.string (Ab (x+y))) (Ac 8 []):=
 sF (sc:=[(9,.call [] Wk [] []),(17,.call [] (.string (Aa (Ae x.natAbs))) [] []),(0,.call [] (sl 5 t1 0) [] [(Cs l1)]),(1,.call [] (.string (Aa (Ae y.natAbs))) [] []),(0,.call [] (sl 6 t2 0) [] [(Cr l2)]),(7,.call [] bT [] []),(1,.call [] bF [] []),(9,.call [5,6] (Qy x y) [(5,some (Cs l1)),(6,some (Cr l2))] []),(0,.op (.rwB true)),(5,.call [] bF [] []),(2,.call [6,5] (sl 7 t 0) [(6,some (Cr l2)),(5,some (Cs l1))] [(Ek os)]),(0,.call [7] (.string (Ab (x+y))) [(7,some (Ek os))] []),(3,.stay)]) kr (aI (hsm 5 om) (aI (Hd x 5 om) (aI (hl1 5 om) (aI (Hd y 6 om) (aI (hl2 6 om) (aI (hnx 7 om) (aI (hny 7 om) (aI (hcm 7 5 6 om om om om om) (aI (dT (p:=(Gp x.natAbs y.natAbs)<(0:Int))) (aI (hny 7 om) (aI (hp 7 6 5 om om om om om) (aI (hs 8 7 om) tt)))))))))))) (Gets.refl _)
theorem pn_mpg(x y:Int)(l1 l2 os:List Nat)(t1 t2 t:Nat)(hsm: ∀n0,5≤n0→FT 86 (Tj x y) n0 [] Vw [] [])(hl1: ∀n0,5≤n0→FT 87 #[.string (Aa (Ae x.natAbs))] n0 [] (sl n0 t1 0) [] [.cells (ns .i64 l1) 3 (some 1) false])(hl2: ∀n0,5≤n0→FT 87 #[.string (Aa (Ae y.natAbs))] n0 [] (sl n0 t2 0) [] [.cells (ns .i64 l2) 3 (some 1) false])(hnx: ∀n0,5≤n0→FT 44 #[.string (Ab x)] n0 [] bT [] [])(hny: ∀n0,5≤n0→FT 44 #[.string (Ab y)] n0 [] bF [] [])(hcm: ∀(n0 b1 b2:Nat),5≤b1→b1<n0→5≤b2→b2<n0→b1≠b2→FT 90 #[sl b1 t1 0,sl b2 t2 0] n0 [(b1,.cells (ns .i64 l1) 3 (some 1) false),(b2,.cells (ns .i64 l2) 3 (some 1) false)] (Qy x y) [(b1,some (Cs l1)),(b2,some (Cr l2))] [])(hp: ∀(n0 b1 b2:Nat),5≤b1→b1<n0→5≤b2→b2<n0→b1≠b2→FT 91 #[sl b1 t1 0,sl b2 t2 0] n0 [(b1,.cells (ns .i64 l1) 3 (some 1) false),(b2,.cells (ns .i64 l2) 3 (some 1) false)] (sl n0 t 0) [(b1,some (Cs l1)),(b2,some (Cr l2))] [.cells (ns .i64 os) 3 (some 1) false])(hge: ¬Gp x.natAbs y.natAbs<0)(hs: ∀n0 b,5≤b∧b<n0→FT 88 #[.bool true,sl b t 0] n0 [(b,.cells (ns .i64 os) 3 (some 1) false)] (.string (Ab (x+y))) [(b,some (Ek os))] []):CT 40 (Ti x y) (Ac 5 []) (.string (Ab (x+y))) (Ac 8 []):=
 sF (sc:=[(9,.call [] Wk [] []),(17,.call [] (.string (Aa (Ae x.natAbs))) [] []),(0,.call [] (sl 5 t1 0) [] [(Cs l1)]),(1,.call [] (.string (Aa (Ae y.natAbs))) [] []),(0,.call [] (sl 6 t2 0) [] [(Cr l2)]),(7,.call [] bT [] []),(1,.call [] bF [] []),(9,.call [5,6] (Qy x y) [(5,some (Cs l1)),(6,some (Cr l2))] []),(0,.op (.rwB false)),(6,.call [] bT [] []),(2,.call [5,6] (sl 7 t 0) [(5,some (Cs l1)),(6,some (Cr l2))] [(Ek os)]),(0,.call [7] (.string (Ab (x+y))) [(7,some (Ek os))] []),(3,.stay)]) kr (aI (hsm 5 om) (aI (Hd x 5 om) (aI (hl1 5 om) (aI (Hd y 6 om) (aI (hl2 6 om) (aI (hnx 7 om) (aI (hny 7 om) (aI (hcm 7 5 6 om om om om om) (aI (dF (p:=(Gp x.natAbs y.natAbs)<(0:Int))) (aI (hnx 7 om) (aI (hp 7 5 6 om om om om om) (aI (hs 8 7 om) tt)))))))))))) (Gets.refl _)
theorem Cq(z:Int)(b:Bool)(hb:decide (z<0)=b): ∀n0,5≤n0→FT 44 #[.string (Ab z)] n0 [] (.bool b) [] []:=by
 intro n0 hG
 subst hb
 rcases Dh z with⟨k,rfl,hm⟩|⟨k,h0,rfl,hm⟩
 ·rw[Cj,show decide (((k:Nat):Int)<0)=false by rw[decide_eq_false_iff_not];omega]
  exact ne_pc n0 _ hG (Bs _) (Ax _)
 ·rw[Dm h0,show decide (-((k:Nat):Int)<0)=true by rw[decide_eq_true_eq];omega]
  exact ne_mc n0 _ hG
theorem sg_i(n0 b:Nat)(xs:List Nat)(n:Nat)(neg:Bool)(z:Int)(hb:5≤b∧b<n0)(hn:n≤xs.length)(hm:n<1000000000)(hlx:F.Lim xs)(hv:0<n→0<F.val (xs.take n))(hz:z=if neg=true then -((F.val (xs.take n):Nat):Int) else ((F.val (xs.take n):Nat):Int)):
  FT 88 #[.bool neg,sl b n 0] n0 [(b,.cells (ns .i64 xs) 3 (some 1) false)] (.string (Ab z)) [(b,some (cI xs (some 1)))] []:=by
 subst hz
 cases neg with
 |false=>
  simp only[Bool.false_eq_true,if_false,Cj]
  exact rsg_n_c n0 b xs n hb hn hm hlx
 |true=>
  simp only[if_true]
  rcases Nat.eq_zero_or_pos n with h0|h0
  ·have hz:F.val (xs.take n)=0:=by rw[h0];rfl
   have:=rsg_z_c n0 b xs n hb hn hm hlx h0
   rw[hz]at this ⊢
   rw[show -(((0:Nat)):Int)=((0:Nat):Int) from rfl,Cj]
   exact this
  ·rw[Dm (hv h0)]
   exact rsg_m_c n0 b xs n hb hn hm hlx h0
theorem pl_i(x y:Int)(n0:Nat)(hG:5≤n0)(hx:(Ae x.natAbs).length≤100000000)(hy:(Ae y.natAbs).length≤100000000):FT 40 #[.string (Ab x),.string (Ab y)] n0 [] (.string (Ab (x+y))) [] []:=by
 by_cases hsml:(Ae x.natAbs).length≤9∧(Ae y.natAbs).length≤9
 ·have h1:=Hm hsml.1
  have h2:=Hm hsml.2
  exact Dy n0 (pn_s x y (fun n0 h=>sm_t x y n0 h hsml.1 hsml.2) h1 h2) hG
 have hsm:=fun n0 h=>sm_f x y n0 h hsml om om
 obtain⟨l1,t1,a1,a2,a3,av,at1,ha⟩:=lb_c (Ae x.natAbs) (Bs _) (Ax _) om
 obtain⟨l2,t2,b1,b2,b3,bv,bt1,hb⟩:=lb_c (Ae y.natAbs) (Bs _) (Ax _) om
 rw[Gx]at av bv
 have hpos:0<x.natAbs∨0<y.natAbs:=by
  rcases Nat.eq_zero_or_pos x.natAbs with h|h
  ·rcases Nat.eq_zero_or_pos y.natAbs with h'|h'
   ·exfalso
    apply hsml
    rw[h,h',Ea]
    exact⟨by decide,by decide⟩
   ·exact .inr h'
  ·exact .inl h
 have ta:0<x.natAbs→0<t1:=fun h=>by
  rcases Nat.eq_zero_or_pos t1 with h'|h'
  ·rw[h',List.take_zero]at av
   have:F.val []=0:=rfl
   omega
  ·exact h'
 have tb:0<y.natAbs→0<t2:=fun h=>by
  rcases Nat.eq_zero_or_pos t2 with h'|h'
  ·rw[h',List.take_zero]at bv
   have:F.val []=0:=rfl
   omega
  ·exact h'
 by_cases hx0:x<0<;>by_cases hy0:y<0
 · · obtain⟨os,o1,o2,o3,o4,hp⟩:=rp_c l1 l2 t1 t2 a2 b2 a1 b1 om om om
     have ov:F.val (os.take os.length)=x.natAbs+y.natAbs:=by rw[List.take_length,o2,av,bv]
     exact Dy n0 (pn_mm x y l1 l2 os t1 t2 os.length hsm ha hb (Cq x true (by simp[hx0])) (Cq y true (by simp[hy0])) hp (fun n0 b h=>sg_i n0 b os os.length true (x+y) h (Nat.le_refl _) om o1 (fun _=>by rw[ov];omega) (by rw[ov];simp;omega))) hG
 · · have hcm:=fun (n0 b1_ b2_:Nat) (g1:5≤b1_) (g2:b1_<n0) (g3:5≤b2_) (g4:b2_<n0) (g5:b1_≠b2_)=>rc_c n0 b1_ b2_ l1 l2 t1 t2 ⟨g1,g2,g3,g4,g5⟩ a1 b1 a2 b2 om om at1 bt1
     rw[av,bv]at hcm
     by_cases hc:Gp x.natAbs y.natAbs<0
     ·have hle:x.natAbs≤y.natAbs:=by have h:=Hv.1 hc;omega
      have ht:t1≤t2:=by
       rcases Nat.lt_or_ge t2 t1 with h|h
       ·have h3:=F.val_lt_of_len b1 b2 h at1
        rw[bv,av]at h3
        omega
       ·exact h
      obtain⟨os,t,o1,o2,o3,o4,hp⟩:=rm_c l2 l1 t2 t1 b2 a2 b1 a1 om om om ht (by rw[bv,av];exact hle)
      rw[bv,av]at o4
      have o5:t≤os.length:=by rw[o2];exact F.top_le _ _
      have o6:0<t→0<F.val (os.take t):=fun h=>by
       have h1:=F.top_pos os os.length (by rw[←o2];exact h)
       rw[←o2]at h1
       obtain⟨q,hq⟩: ∃q,t=q+1:=⟨t-1,by omega⟩
       rw[hq,Nat.add_sub_cancel]at h1
       rw[hq,F.val_take_succ]
       have h2:1*1≤os.getD q 0*10000^q:=Nat.mul_le_mul om (F.pow_pos q)
       omega
      exact Dy n0 (pn_mpl x y l1 l2 os t1 t2 t hsm ha hb (Cq x true (by simp[hx0])) (Cq y false (by simp[hy0])) hcm hp hc (fun n0 b h=>sg_i n0 b os t false (x+y) h o5 om o1 o6 (by simp;omega))) hG
     ·have hle:y.natAbs≤x.natAbs:=by have h:=mt Hv.2 hc;omega
      have ht:t2≤t1:=by
       rcases Nat.lt_or_ge t1 t2 with h|h
       ·have h3:=F.val_lt_of_len a1 a2 h bt1
        rw[av,bv]at h3
        omega
       ·exact h
      obtain⟨os,t,o1,o2,o3,o4,hp⟩:=rm_c l1 l2 t1 t2 a2 b2 a1 b1 om om om ht (by rw[av,bv];exact hle)
      rw[av,bv]at o4
      have o5:t≤os.length:=by rw[o2];exact F.top_le _ _
      have o6:0<t→0<F.val (os.take t):=fun h=>by
       have h1:=F.top_pos os os.length (by rw[←o2];exact h)
       rw[←o2]at h1
       obtain⟨q,hq⟩: ∃q,t=q+1:=⟨t-1,by omega⟩
       rw[hq,Nat.add_sub_cancel]at h1
       rw[hq,F.val_take_succ]
       have h2:1*1≤os.getD q 0*10000^q:=Nat.mul_le_mul om (F.pow_pos q)
       omega
      exact Dy n0 (pn_mpg x y l1 l2 os t1 t2 t hsm ha hb (Cq x true (by simp[hx0])) (Cq y false (by simp[hy0])) hcm hp hc (fun n0 b h=>sg_i n0 b os t true (x+y) h o5 om o1 o6 (by simp;omega))) hG
 · · have hcm:=fun (n0 b1_ b2_:Nat) (g1:5≤b1_) (g2:b1_<n0) (g3:5≤b2_) (g4:b2_<n0) (g5:b1_≠b2_)=>rc_c n0 b1_ b2_ l1 l2 t1 t2 ⟨g1,g2,g3,g4,g5⟩ a1 b1 a2 b2 om om at1 bt1
     rw[av,bv]at hcm
     by_cases hc:Gp x.natAbs y.natAbs<0
     ·have hle:x.natAbs≤y.natAbs:=by have h:=Hv.1 hc;omega
      have ht:t1≤t2:=by
       rcases Nat.lt_or_ge t2 t1 with h|h
       ·have h3:=F.val_lt_of_len b1 b2 h at1
        rw[bv,av]at h3
        omega
       ·exact h
      obtain⟨os,t,o1,o2,o3,o4,hp⟩:=rm_c l2 l1 t2 t1 b2 a2 b1 a1 om om om ht (by rw[bv,av];exact hle)
      rw[bv,av]at o4
      have o5:t≤os.length:=by rw[o2];exact F.top_le _ _
      have o6:0<t→0<F.val (os.take t):=fun h=>by
       have h1:=F.top_pos os os.length (by rw[←o2];exact h)
       rw[←o2]at h1
       obtain⟨q,hq⟩: ∃q,t=q+1:=⟨t-1,by omega⟩
       rw[hq,Nat.add_sub_cancel]at h1
       rw[hq,F.val_take_succ]
       have h2:1*1≤os.getD q 0*10000^q:=Nat.mul_le_mul om (F.pow_pos q)
       omega
      exact Dy n0 (pn_pml x y l1 l2 os t1 t2 t hsm ha hb (Cq x false (by simp[hx0])) (Cq y true (by simp[hy0])) hcm hp hc (fun n0 b h=>sg_i n0 b os t true (x+y) h o5 om o1 o6 (by simp;omega))) hG
     ·have hle:y.natAbs≤x.natAbs:=by have h:=mt Hv.2 hc;omega
      have ht:t2≤t1:=by
       rcases Nat.lt_or_ge t1 t2 with h|h
       ·have h3:=F.val_lt_of_len a1 a2 h bt1
        rw[av,bv]at h3
        omega
       ·exact h
      obtain⟨os,t,o1,o2,o3,o4,hp⟩:=rm_c l1 l2 t1 t2 a2 b2 a1 b1 om om om ht (by rw[av,bv];exact hle)
      rw[av,bv]at o4
      have o5:t≤os.length:=by rw[o2];exact F.top_le _ _
      have o6:0<t→0<F.val (os.take t):=fun h=>by
       have h1:=F.top_pos os os.length (by rw[←o2];exact h)
       rw[←o2]at h1
       obtain⟨q,hq⟩: ∃q,t=q+1:=⟨t-1,by omega⟩
       rw[hq,Nat.add_sub_cancel]at h1
       rw[hq,F.val_take_succ]
       have h2:1*1≤os.getD q 0*10000^q:=Nat.mul_le_mul om (F.pow_pos q)
       omega
      exact Dy n0 (pn_pmg x y l1 l2 os t1 t2 t hsm ha hb (Cq x false (by simp[hx0])) (Cq y true (by simp[hy0])) hcm hp hc (fun n0 b h=>sg_i n0 b os t false (x+y) h o5 om o1 o6 (by simp;omega))) hG
 · · obtain⟨os,o1,o2,o3,o4,hp⟩:=rp_c l1 l2 t1 t2 a2 b2 a1 b1 om om om
     have ov:F.val (os.take os.length)=x.natAbs+y.natAbs:=by rw[List.take_length,o2,av,bv]
     exact Dy n0 (pn_pp x y l1 l2 os t1 t2 os.length hsm ha hb (Cq x false (by simp[hx0])) (Cq y false (by simp[hy0])) hp (fun n0 b h=>sg_i n0 b os os.length false (x+y) h (Nat.le_refl _) om o1 (fun _=>by rw[ov];omega) (by rw[ov];simp;omega))) hG
noncomputable section
end
theorem sgc_i(n0 b:Nat)(xs:List Nat)(n c:Nat)(neg:Bool)(z:Int)(hb:5≤b∧b<n0)(hn:n≤xs.length)(hm:n<1000000000)(hlx:F.Lim xs)(hv:0<n→0<F.val (xs.take n))(hz:z=if neg=true then -((F.val (xs.take n):Nat):Int) else ((F.val (xs.take n):Nat):Int)):
  FT 88 #[.bool neg,sl b n c] n0 [(b,.cells (ns .i64 xs) 3 none false)] (.string (Ab z)) [(b,some (cI xs none))] []:=by
 subst hz
 cases neg with
 |false=>
  simp only[Bool.false_eq_true,if_false,Cj]
  exact rsh_n_c n0 b xs n c hb hn hm hlx
 |true=>
  simp only[if_true]
  rcases Nat.eq_zero_or_pos n with h0|h0
  ·have hz:F.val (xs.take n)=0:=by rw[h0];rfl
   have:=rsh_z_c n0 b xs n c hb hn hm hlx h0
   rw[hz]at this ⊢
   rw[show -(((0:Nat)):Int)=((0:Nat):Int) from rfl,Cj]
   exact this
  ·rw[Dm (hv h0)]
   exact rsh_m_c n0 b xs n c hb hn hm hlx h0
noncomputable section
abbrev Cy(l1:List Nat):AObj:=.cells (ns .i64 l1) 3 (some 1) false
abbrev Cx(l2:List Nat):AObj:=.cells (ns .i64 l2) 3 (some 1) false
abbrev Db(zs:List Nat):AObj:=.cells (ns .i64 zs) 3 none false
abbrev Ci(x y:Int):Value:=.string (Ab (Int.tdiv x y))
abbrev Rb:Value:=.tuple #[.int .i64 0,.int .i64 0,.bool false]
abbrev Km(rs:List Nat):AObj:=.cells (ns .i64 rs) 3 (some 1) false
abbrev Gu(x y:Int):Value:=.string (Ab (Int.tmod x y))
abbrev Nk(x y:Int):Array Value:= #[(.string (Ab x)),(.string (Ab y))]
abbrev Nc(x y:Int):Array Value:= #[.string (Ab x),.string (Ab y)]
abbrev Qs:Value:=.tuple #[(lI 0),(lI 0),bF]
abbrev Lz(x:Int):Array Value:= #[.string (Aa (Ae x.natAbs))]
abbrev Mf(y:Int):Array Value:= #[.string (Aa (Ae y.natAbs))]
abbrev Mg(x:Int):Value:=.string (Aa (Ae x.natAbs))
abbrev Md(y:Int):Value:=.string (Aa (Ae y.natAbs))
end
theorem ai_inj{a b:Int}(h:(#[.int .i64 a]:Array Value)= #[.int .i64 b]):Value.string (Ab b)=Value.string (Ab a):=by
 simp at h
 rw[h]
theorem qu_s(x y:Int)(hsm: ∀n0,5≤n0→FT 86 (Nc x y) n0 [] (.tuple #[.int .i64 x,.int .i64 y,.bool true]) [] [])(hy0:y≠0)(hq1:(Int.tdiv x y).natAbs<1000000000000000001)(hq2:(Int.tmod x y).natAbs<1000000000000000001):CT 46 (Nk x y) (Ac 5 []) (.tuple #[(Ci x y),(Gu x y)]) (Ac 5 []):=
 sF (sc:=[(10,.call [] (.tuple #[(.int .i64 x),(.int .i64 y),bT]) [] []),(14,.drwM [(2,.div (Int.tdiv x y)),(6,.div (Int.tmod x y))] [⟨3,[],(Ci x y),[],[]⟩,⟨7,[],(Gu x y),[],[]⟩]),(1,.stay)]) kr (aI (hsm 5 om) (aI (aI (aI tt (aI tt (aI (show y≠0∧IntKind.wrap .i64 (Int.tdiv x y)=(Int.tdiv x y) from⟨hy0,by rw[Cc om om]⟩) (aI tt (aI tt (aI (show y≠0∧(Int.tmod x y)=(Int.tmod x y) from⟨hy0,rfl⟩) (aI (oi_i (Int.tdiv x y) 5 om om) (aI (oi_i (Int.tmod x y) 5 om om) (aI tt (aI tt tt)))))))))) (show ((((#[(.int .i64 (Int.tdiv x y))]:Array Value)= #[(.int .i64 (Int.tmod x y))]→((Gu x y):Value)=(Ci x y))∧True)∧(True∧True)) from⟨⟨ai_inj,tt⟩,⟨tt,tt⟩⟩)) tt)) (Gets.refl _)
theorem qu_ppr(x y:Int)(l1 l2 zs rs:List Nat)(t1 t2 tq t:Nat)(hsm: ∀n0,5≤n0→FT 86 (Nc x y) n0 [] Rb [] [])(hl1: ∀n0,5≤n0→FT 87 (Lz x) n0 [] (sl n0 t1 0) [] [.cells (ns .i64 l1) 3 (some 1) false])(hl2: ∀n0,5≤n0→FT 87 (Mf y) n0 [] (sl n0 t2 0) [] [.cells (ns .i64 l2) 3 (some 1) false])(hov:(FT 96 #[sl 5 t1 0,sl 6 t2 0] 7 [(5,.cells (ns .i64 l1) 3 (some 1) false),(6,.cells (ns .i64 l2) 3 (some 1) false)] (.tuple #[sl 7 tq t1,sl 8 t 0]) [(5,some (Cy l1)),(6,some (Cx l2))] [.cells (ns .i64 zs) 3 none false,.cells (ns .i64 rs) 3 (some 1) false]))(hxs:decide (x<0)=false)(hys:decide (y<0)=false)(hs: ∀n0 b,5≤b∧b<n0→FT 88 #[.bool false,sl b tq t1] n0 [(b,.cells (ns .i64 zs) 3 none false)] (Ci x y) [(b,some (Db zs))] [])(hre: ∀n0 b,5≤b∧b<n0→FT 88 #[.bool false,sl b t 0] n0 [(b,.cells (ns .i64 rs) 3 (some 1) false)] (Gu x y) [(b,some (Km rs))] []):CT 46 (Nk x y) (Ac 5 []) (.tuple #[(Ci x y),(Gu x y)]) (Ac 9 []):=
 sF (sc:=[(10,.call [] Qs [] []),(17,.call [] (Mg x) [] []),(0,.call [] (sl 5 t1 0) [] [(Cy l1)]),(1,.call [] (Md y) [] []),(0,.call [] (sl 6 t2 0) [] [(Cx l2)]),(0,.call [5,6] (.tuple #[(sl 7 tq t1),(sl 8 t 0)]) [(5,some (Cy l1)),(6,some (Cx l2))] [(Db zs),(Km rs)]),(9,.call [] bF [] []),(1,.call [] bF [] []),(2,.call [7] (Ci x y) [(7,some (Db zs))] []),(1,.call [] bF [] []),(1,.call [8] (Gu x y) [(8,some (Km rs))] []),(4,.stay)]) kr (aI (hsm 5 om) (aI (Hd x 5 om) (aI (hl1 5 om) (aI (Hd y 6 om) (aI (hl2 6 om) (aI hov (aI (Cq x false hxs 9 om) (aI (Cq y false hys 9 om) (aI (hs 9 7 om) (aI (Cq x false hxs 9 om) (aI (hre 9 8 om) tt))))))))))) (Gets.refl _)
theorem qu_ppn(x y:Int)(l1 l2 zs rs:List Nat)(t1 t2 tq t:Nat)(hsm: ∀n0,5≤n0→FT 86 (Nc x y) n0 [] Rb [] [])(hl1: ∀n0,5≤n0→FT 87 (Lz x) n0 [] (sl n0 t1 0) [] [.cells (ns .i64 l1) 3 (some 1) false])(hl2: ∀n0,5≤n0→FT 87 (Mf y) n0 [] (sl n0 t2 0) [] [.cells (ns .i64 l2) 3 (some 1) false])(hov:(FT 96 #[sl 5 t1 0,sl 6 t2 0] 7 [(5,.cells (ns .i64 l1) 3 (some 1) false),(6,.cells (ns .i64 l2) 3 (some 1) false)] (.tuple #[sl 7 tq t1,.slice none 0 0]) [(5,some (Cy l1)),(6,some (Cx l2))] [.cells (ns .i64 zs) 3 none false]))(hxs:decide (x<0)=false)(hys:decide (y<0)=false)(hs: ∀n0 b,5≤b∧b<n0→FT 88 #[.bool false,sl b tq t1] n0 [(b,.cells (ns .i64 zs) 3 none false)] (Ci x y) [(b,some (Db zs))] []):CT 46 (Nk x y) (Ac 5 []) (.tuple #[(Ci x y),(.string (bts [48]))]) (Ac 8 []):=
 sF (sc:=[(10,.call [] Qs [] []),(17,.call [] (Mg x) [] []),(0,.call [] (sl 5 t1 0) [] [(Cy l1)]),(1,.call [] (Md y) [] []),(0,.call [] (sl 6 t2 0) [] [(Cx l2)]),(0,.call [5,6] (.tuple #[(sl 7 tq t1),nS]) [(5,some (Cy l1)),(6,some (Cx l2))] [(Db zs)]),(9,.call [] bF [] []),(1,.call [] bF [] []),(2,.call [7] (Ci x y) [(7,some (Db zs))] []),(1,.call [] bF [] []),(48,.stay)]) kr (aI (hsm 5 om) (aI (Hd x 5 om) (aI (hl1 5 om) (aI (Hd y 6 om) (aI (hl2 6 om) (aI hov (aI (Cq x false hxs 8 om) (aI (Cq y false hys 8 om) (aI (hs 8 7 om) (aI (Cq x false hxs 8 om) tt)))))))))) (Gets.refl _)
theorem qu_pmr(x y:Int)(l1 l2 zs rs:List Nat)(t1 t2 tq t:Nat)(hsm: ∀n0,5≤n0→FT 86 (Nc x y) n0 [] Rb [] [])(hl1: ∀n0,5≤n0→FT 87 (Lz x) n0 [] (sl n0 t1 0) [] [.cells (ns .i64 l1) 3 (some 1) false])(hl2: ∀n0,5≤n0→FT 87 (Mf y) n0 [] (sl n0 t2 0) [] [.cells (ns .i64 l2) 3 (some 1) false])(hov:(FT 96 #[sl 5 t1 0,sl 6 t2 0] 7 [(5,.cells (ns .i64 l1) 3 (some 1) false),(6,.cells (ns .i64 l2) 3 (some 1) false)] (.tuple #[sl 7 tq t1,sl 8 t 0]) [(5,some (Cy l1)),(6,some (Cx l2))] [.cells (ns .i64 zs) 3 none false,.cells (ns .i64 rs) 3 (some 1) false]))(hxs:decide (x<0)=false)(hys:decide (y<0)=true)(hs: ∀n0 b,5≤b∧b<n0→FT 88 #[.bool true,sl b tq t1] n0 [(b,.cells (ns .i64 zs) 3 none false)] (Ci x y) [(b,some (Db zs))] [])(hre: ∀n0 b,5≤b∧b<n0→FT 88 #[.bool false,sl b t 0] n0 [(b,.cells (ns .i64 rs) 3 (some 1) false)] (Gu x y) [(b,some (Km rs))] []):CT 46 (Nk x y) (Ac 5 []) (.tuple #[(Ci x y),(Gu x y)]) (Ac 9 []):=
 sF (sc:=[(10,.call [] Qs [] []),(17,.call [] (Mg x) [] []),(0,.call [] (sl 5 t1 0) [] [(Cy l1)]),(1,.call [] (Md y) [] []),(0,.call [] (sl 6 t2 0) [] [(Cx l2)]),(0,.call [5,6] (.tuple #[(sl 7 tq t1),(sl 8 t 0)]) [(5,some (Cy l1)),(6,some (Cx l2))] [(Db zs),(Km rs)]),(9,.call [] bF [] []),(1,.call [] bT [] []),(2,.call [7] (Ci x y) [(7,some (Db zs))] []),(1,.call [] bF [] []),(1,.call [8] (Gu x y) [(8,some (Km rs))] []),(4,.stay)]) kr (aI (hsm 5 om) (aI (Hd x 5 om) (aI (hl1 5 om) (aI (Hd y 6 om) (aI (hl2 6 om) (aI hov (aI (Cq x false hxs 9 om) (aI (Cq y true hys 9 om) (aI (hs 9 7 om) (aI (Cq x false hxs 9 om) (aI (hre 9 8 om) tt))))))))))) (Gets.refl _)
theorem qu_pmn(x y:Int)(l1 l2 zs rs:List Nat)(t1 t2 tq t:Nat)(hsm: ∀n0,5≤n0→FT 86 (Nc x y) n0 [] Rb [] [])(hl1: ∀n0,5≤n0→FT 87 (Lz x) n0 [] (sl n0 t1 0) [] [.cells (ns .i64 l1) 3 (some 1) false])(hl2: ∀n0,5≤n0→FT 87 (Mf y) n0 [] (sl n0 t2 0) [] [.cells (ns .i64 l2) 3 (some 1) false])(hov:(FT 96 #[sl 5 t1 0,sl 6 t2 0] 7 [(5,.cells (ns .i64 l1) 3 (some 1) false),(6,.cells (ns .i64 l2) 3 (some 1) false)] (.tuple #[sl 7 tq t1,.slice none 0 0]) [(5,some (Cy l1)),(6,some (Cx l2))] [.cells (ns .i64 zs) 3 none false]))(hxs:decide (x<0)=false)(hys:decide (y<0)=true)(hs: ∀n0 b,5≤b∧b<n0→FT 88 #[.bool true,sl b tq t1] n0 [(b,.cells (ns .i64 zs) 3 none false)] (Ci x y) [(b,some (Db zs))] []):CT 46 (Nk x y) (Ac 5 []) (.tuple #[(Ci x y),(.string (bts [48]))]) (Ac 8 []):=
 sF (sc:=[(10,.call [] Qs [] []),(17,.call [] (Mg x) [] []),(0,.call [] (sl 5 t1 0) [] [(Cy l1)]),(1,.call [] (Md y) [] []),(0,.call [] (sl 6 t2 0) [] [(Cx l2)]),(0,.call [5,6] (.tuple #[(sl 7 tq t1),nS]) [(5,some (Cy l1)),(6,some (Cx l2))] [(Db zs)]),(9,.call [] bF [] []),(1,.call [] bT [] []),(2,.call [7] (Ci x y) [(7,some (Db zs))] []),(1,.call [] bF [] []),(48,.stay)]) kr (aI (hsm 5 om) (aI (Hd x 5 om) (aI (hl1 5 om) (aI (Hd y 6 om) (aI (hl2 6 om) (aI hov (aI (Cq x false hxs 8 om) (aI (Cq y true hys 8 om) (aI (hs 8 7 om) (aI (Cq x false hxs 8 om) tt)))))))))) (Gets.refl _)
theorem qu_mpr(x y:Int)(l1 l2 zs rs:List Nat)(t1 t2 tq t:Nat)(hsm: ∀n0,5≤n0→FT 86 (Nc x y) n0 [] Rb [] [])(hl1: ∀n0,5≤n0→FT 87 (Lz x) n0 [] (sl n0 t1 0) [] [.cells (ns .i64 l1) 3 (some 1) false])(hl2: ∀n0,5≤n0→FT 87 (Mf y) n0 [] (sl n0 t2 0) [] [.cells (ns .i64 l2) 3 (some 1) false])(hov:(FT 96 #[sl 5 t1 0,sl 6 t2 0] 7 [(5,.cells (ns .i64 l1) 3 (some 1) false),(6,.cells (ns .i64 l2) 3 (some 1) false)] (.tuple #[sl 7 tq t1,sl 8 t 0]) [(5,some (Cy l1)),(6,some (Cx l2))] [.cells (ns .i64 zs) 3 none false,.cells (ns .i64 rs) 3 (some 1) false]))(hxs:decide (x<0)=true)(hys:decide (y<0)=false)(hs: ∀n0 b,5≤b∧b<n0→FT 88 #[.bool true,sl b tq t1] n0 [(b,.cells (ns .i64 zs) 3 none false)] (Ci x y) [(b,some (Db zs))] [])(hre: ∀n0 b,5≤b∧b<n0→FT 88 #[.bool true,sl b t 0] n0 [(b,.cells (ns .i64 rs) 3 (some 1) false)] (Gu x y) [(b,some (Km rs))] []):CT 46 (Nk x y) (Ac 5 []) (.tuple #[(Ci x y),(Gu x y)]) (Ac 9 []):=
 sF (sc:=[(10,.call [] Qs [] []),(17,.call [] (Mg x) [] []),(0,.call [] (sl 5 t1 0) [] [(Cy l1)]),(1,.call [] (Md y) [] []),(0,.call [] (sl 6 t2 0) [] [(Cx l2)]),(0,.call [5,6] (.tuple #[(sl 7 tq t1),(sl 8 t 0)]) [(5,some (Cy l1)),(6,some (Cx l2))] [(Db zs),(Km rs)]),(9,.call [] bT [] []),(1,.call [] bF [] []),(2,.call [7] (Ci x y) [(7,some (Db zs))] []),(1,.call [] bT [] []),(1,.call [8] (Gu x y) [(8,some (Km rs))] []),(4,.stay)]) kr (aI (hsm 5 om) (aI (Hd x 5 om) (aI (hl1 5 om) (aI (Hd y 6 om) (aI (hl2 6 om) (aI hov (aI (Cq x true hxs 9 om) (aI (Cq y false hys 9 om) (aI (hs 9 7 om) (aI (Cq x true hxs 9 om) (aI (hre 9 8 om) tt))))))))))) (Gets.refl _)
theorem qu_mpn(x y:Int)(l1 l2 zs rs:List Nat)(t1 t2 tq t:Nat)(hsm: ∀n0,5≤n0→FT 86 (Nc x y) n0 [] Rb [] [])(hl1: ∀n0,5≤n0→FT 87 (Lz x) n0 [] (sl n0 t1 0) [] [.cells (ns .i64 l1) 3 (some 1) false])(hl2: ∀n0,5≤n0→FT 87 (Mf y) n0 [] (sl n0 t2 0) [] [.cells (ns .i64 l2) 3 (some 1) false])(hov:(FT 96 #[sl 5 t1 0,sl 6 t2 0] 7 [(5,.cells (ns .i64 l1) 3 (some 1) false),(6,.cells (ns .i64 l2) 3 (some 1) false)] (.tuple #[sl 7 tq t1,.slice none 0 0]) [(5,some (Cy l1)),(6,some (Cx l2))] [.cells (ns .i64 zs) 3 none false]))(hxs:decide (x<0)=true)(hys:decide (y<0)=false)(hs: ∀n0 b,5≤b∧b<n0→FT 88 #[.bool true,sl b tq t1] n0 [(b,.cells (ns .i64 zs) 3 none false)] (Ci x y) [(b,some (Db zs))] []):CT 46 (Nk x y) (Ac 5 []) (.tuple #[(Ci x y),(.string (bts [48]))]) (Ac 8 []):=
 sF (sc:=[(10,.call [] Qs [] []),(17,.call [] (Mg x) [] []),(0,.call [] (sl 5 t1 0) [] [(Cy l1)]),(1,.call [] (Md y) [] []),(0,.call [] (sl 6 t2 0) [] [(Cx l2)]),(0,.call [5,6] (.tuple #[(sl 7 tq t1),nS]) [(5,some (Cy l1)),(6,some (Cx l2))] [(Db zs)]),(9,.call [] bT [] []),(1,.call [] bF [] []),(2,.call [7] (Ci x y) [(7,some (Db zs))] []),(1,.call [] bT [] []),(48,.stay)]) kr (aI (hsm 5 om) (aI (Hd x 5 om) (aI (hl1 5 om) (aI (Hd y 6 om) (aI (hl2 6 om) (aI hov (aI (Cq x true hxs 8 om) (aI (Cq y false hys 8 om) (aI (hs 8 7 om) (aI (Cq x true hxs 8 om) tt)))))))))) (Gets.refl _)
theorem qu_mmr(x y:Int)(l1 l2 zs rs:List Nat)(t1 t2 tq t:Nat)(hsm: ∀n0,5≤n0→FT 86 (Nc x y) n0 [] Rb [] [])(hl1: ∀n0,5≤n0→FT 87 (Lz x) n0 [] (sl n0 t1 0) [] [.cells (ns .i64 l1) 3 (some 1) false])(hl2: ∀n0,5≤n0→FT 87 (Mf y) n0 [] (sl n0 t2 0) [] [.cells (ns .i64 l2) 3 (some 1) false])(hov:(FT 96 #[sl 5 t1 0,sl 6 t2 0] 7 [(5,.cells (ns .i64 l1) 3 (some 1) false),(6,.cells (ns .i64 l2) 3 (some 1) false)] (.tuple #[sl 7 tq t1,sl 8 t 0]) [(5,some (Cy l1)),(6,some (Cx l2))] [.cells (ns .i64 zs) 3 none false,.cells (ns .i64 rs) 3 (some 1) false]))(hxs:decide (x<0)=true)(hys:decide (y<0)=true)(hs: ∀n0 b,5≤b∧b<n0→FT 88 #[.bool false,sl b tq t1] n0 [(b,.cells (ns .i64 zs) 3 none false)] (Ci x y) [(b,some (Db zs))] [])(hre: ∀n0 b,5≤b∧b<n0→FT 88 #[.bool true,sl b t 0] n0 [(b,.cells (ns .i64 rs) 3 (some 1) false)] (Gu x y) [(b,some (Km rs))] []):CT 46 (Nk x y) (Ac 5 []) (.tuple #[(Ci x y),(Gu x y)]) (Ac 9 []):=
 sF (sc:=[(10,.call [] Qs [] []),(17,.call [] (Mg x) [] []),(0,.call [] (sl 5 t1 0) [] [(Cy l1)]),(1,.call [] (Md y) [] []),(0,.call [] (sl 6 t2 0) [] [(Cx l2)]),(0,.call [5,6] (.tuple #[(sl 7 tq t1),(sl 8 t 0)]) [(5,some (Cy l1)),(6,some (Cx l2))] [(Db zs),(Km rs)]),(9,.call [] bT [] []),(1,.call [] bT [] []),(2,.call [7] (Ci x y) [(7,some (Db zs))] []),(1,.call [] bT [] []),(1,.call [8] (Gu x y) [(8,some (Km rs))] []),(4,.stay)]) kr (aI (hsm 5 om) (aI (Hd x 5 om) (aI (hl1 5 om) (aI (Hd y 6 om) (aI (hl2 6 om) (aI hov (aI (Cq x true hxs 9 om) (aI (Cq y true hys 9 om) (aI (hs 9 7 om) (aI (Cq x true hxs 9 om) (aI (hre 9 8 om) tt))))))))))) (Gets.refl _)
theorem qu_mmn(x y:Int)(l1 l2 zs rs:List Nat)(t1 t2 tq t:Nat)(hsm: ∀n0,5≤n0→FT 86 (Nc x y) n0 [] Rb [] [])(hl1: ∀n0,5≤n0→FT 87 (Lz x) n0 [] (sl n0 t1 0) [] [.cells (ns .i64 l1) 3 (some 1) false])(hl2: ∀n0,5≤n0→FT 87 (Mf y) n0 [] (sl n0 t2 0) [] [.cells (ns .i64 l2) 3 (some 1) false])(hov:(FT 96 #[sl 5 t1 0,sl 6 t2 0] 7 [(5,.cells (ns .i64 l1) 3 (some 1) false),(6,.cells (ns .i64 l2) 3 (some 1) false)] (.tuple #[sl 7 tq t1,.slice none 0 0]) [(5,some (Cy l1)),(6,some (Cx l2))] [.cells (ns .i64 zs) 3 none false]))(hxs:decide (x<0)=true)(hys:decide (y<0)=true)(hs: ∀n0 b,5≤b∧b<n0→FT 88 #[.bool false,sl b tq t1] n0 [(b,.cells (ns .i64 zs) 3 none false)] (Ci x y) [(b,some (Db zs))] []):CT 46 (Nk x y) (Ac 5 []) (.tuple #[(Ci x y),(.string (bts [48]))]) (Ac 8 []):=
 sF (sc:=[(10,.call [] Qs [] []),(17,.call [] (Mg x) [] []),(0,.call [] (sl 5 t1 0) [] [(Cy l1)]),(1,.call [] (Md y) [] []),(0,.call [] (sl 6 t2 0) [] [(Cx l2)]),(0,.call [5,6] (.tuple #[(sl 7 tq t1),nS]) [(5,some (Cy l1)),(6,some (Cx l2))] [(Db zs)]),(9,.call [] bT [] []),(1,.call [] bT [] []),(2,.call [7] (Ci x y) [(7,some (Db zs))] []),(1,.call [] bT [] []),(48,.stay)]) kr (aI (hsm 5 om) (aI (Hd x 5 om) (aI (hl1 5 om) (aI (Hd y 6 om) (aI (hl2 6 om) (aI hov (aI (Cq x true hxs 8 om) (aI (Cq y true hys 8 om) (aI (hs 8 7 om) (aI (Cq x true hxs 8 om) tt)))))))))) (Gets.refl _)
theorem Lm:Ab 0=Seg.bts [48]:=by rw[show (0:Int)=((0:Nat):Int) from rfl,Cj,Ea];rfl
theorem tdv(x y:Int):Int.tdiv x y=if (decide (x<0) !=decide (y<0))=true then -((x.natAbs/y.natAbs:Nat):Int) else ((x.natAbs/y.natAbs:Nat):Int):=by
 rcases Dh x with⟨a,rfl,ha⟩|⟨a,h0,rfl,ha⟩<;>rcases Dh y with⟨b,rfl,hb⟩|⟨b,g0,rfl,hb⟩<;>rw[ha,hb]
 ·rw[decide_eq_false om,decide_eq_false om];exact tdiv_pp a b
 ·rw[decide_eq_false om,decide_eq_true om];exact tdiv_pm a b
 ·rw[decide_eq_true om,decide_eq_false om];exact tdiv_mp a b
 ·rw[decide_eq_true om,decide_eq_true om];exact tdiv_mm a b
theorem tmv(x y:Int):Int.tmod x y=if decide (x<0)=true then -((x.natAbs%y.natAbs:Nat):Int) else ((x.natAbs%y.natAbs:Nat):Int):=by
 rcases Dh x with⟨a,rfl,ha⟩|⟨a,h0,rfl,ha⟩<;>rcases Dh y with⟨b,rfl,hb⟩|⟨b,g0,rfl,hb⟩<;>rw[ha,hb]
 ·rw[decide_eq_false om];exact tmod_pp a b
 ·rw[decide_eq_false om];exact tmod_pm a b
 ·rw[decide_eq_true om];exact tmod_mp a b
 ·rw[decide_eq_true om];exact tmod_mm a b
theorem vpos{rs:List Nat}{t:Nat}(h:0<t→rs.getD (t-1) 0≠0)(h0:0<t):0<F.val (rs.take t):=by
 have h1:=h h0
 obtain⟨q,rfl⟩: ∃q,t=q+1:=⟨t-1,by omega⟩
 rw[Nat.add_sub_cancel]at h1
 rw[F.val_take_succ]
 have h2:1*1≤rs.getD q 0*10000^q:=Nat.mul_le_mul om (F.pow_pos q)
 omega
theorem Ma(zs:List Nat)(n:Nat):0<F.top zs n→0<F.val (zs.take (F.top zs n)):=vpos (F.top_pos zs n)
theorem qu_i(x y:Int)(hy:y≠0)(n0:Nat)(hG:5≤n0)(hdx:(Ae x.natAbs).length≤1000000)(hdy:(Ae y.natAbs).length≤1000000):FT 46 #[.string (Ab x),.string (Ab y)] n0 [] (.tuple #[.string (Ab (Int.tdiv x y)),.string (Ab (Int.tmod x y))]) [] []:=by
 by_cases hsml:(Ae x.natAbs).length≤9∧(Ae y.natAbs).length≤9
 ·have h1:=Hm hsml.1
  have h9:(10:Nat)^9=1000000000:=by decide
  rw[h9]at h1
  have h3:=Wt x y
  have h4:=Zj x y
  exact Dy n0 (qu_s x y (fun n0 h=>sm_t x y n0 h hsml.1 hsml.2) hy om om) hG
 have hsm:=fun n0 h=>sm_f x y n0 h hsml om om
 obtain⟨l1,t1,a1,a2,a3,av,at1,ha⟩:=lb_c (Ae x.natAbs) (Bs _) (Ax _) om
 obtain⟨l2,t2,b1,b2,b3,bv,bt1,hb⟩:=lb_c (Ae y.natAbs) (Bs _) (Ax _) om
 rw[Gx]at av bv
 have ht2:0<t2:=by
  rcases Nat.eq_zero_or_pos t2 with h|h
  ·rw[h,List.take_zero]at bv
   exact absurd bv (by simp only[F.val];omega)
  ·exact h
 have hVp:0<y.natAbs:=by omega
 obtain⟨zs,R,z1,z2,z3,hR',hov⟩:=ro_c (some 1) (some 1) 0 0 7 5 6 l1 l2 t1 t2 om a1 a2 b1 b2 om om ht2 (bt1 ht2)
 rw[av,bv]at hR'
 cases hx0:decide (x<0)<;>cases hy0:decide (y<0)
 ·rcases hov with⟨hR0,hov⟩|⟨rs,t,r1,r2,r3,r4,hov⟩
  ·have e:Int.tmod x y=0:=by rw[tmv,←hR',hR0];split<;>rfl
   rw[e,Lm]
   exact Dy n0 (qu_ppn x y l1 l2 zs [] t1 t2 (F.top zs t1) 0 hsm ha hb hov hx0 hy0 (fun n0 b h=>sgc_i n0 b zs (F.top zs t1) t1 false _ h (by rw[z2];exact F.top_le _ _) (by have:=F.top_le zs t1;omega) z1 (Ma zs t1) (by rw[F.top_val,List.take_of_length_le om,z3,av,bv,tdv,hx0,hy0]<;>rfl))) hG
  ·have htk:t≤t2:=Ug r1 r2 r3 b1 b2 (by rw[r4,hR',bv];exact Nat.le_of_lt (Nat.mod_lt _ hVp))
   exact Dy n0 (qu_ppr x y l1 l2 zs rs t1 t2 (F.top zs t1) t hsm ha hb hov hx0 hy0 (fun n0 b h=>sgc_i n0 b zs (F.top zs t1) t1 false _ h (by rw[z2];exact F.top_le _ _) (by have:=F.top_le zs t1;omega) z1 (Ma zs t1) (by rw[F.top_val,List.take_of_length_le om,z3,av,bv,tdv,hx0,hy0]<;>rfl)) (fun n0 b h=>sg_i n0 b rs t false _ h r2 om r1 (vpos r3) (by rw[r4,hR',tmv,hx0]<;>rfl))) hG
 ·rcases hov with⟨hR0,hov⟩|⟨rs,t,r1,r2,r3,r4,hov⟩
  ·have e:Int.tmod x y=0:=by rw[tmv,←hR',hR0];split<;>rfl
   rw[e,Lm]
   exact Dy n0 (qu_pmn x y l1 l2 zs [] t1 t2 (F.top zs t1) 0 hsm ha hb hov hx0 hy0 (fun n0 b h=>sgc_i n0 b zs (F.top zs t1) t1 true _ h (by rw[z2];exact F.top_le _ _) (by have:=F.top_le zs t1;omega) z1 (Ma zs t1) (by rw[F.top_val,List.take_of_length_le om,z3,av,bv,tdv,hx0,hy0]<;>rfl))) hG
  ·have htk:t≤t2:=Ug r1 r2 r3 b1 b2 (by rw[r4,hR',bv];exact Nat.le_of_lt (Nat.mod_lt _ hVp))
   exact Dy n0 (qu_pmr x y l1 l2 zs rs t1 t2 (F.top zs t1) t hsm ha hb hov hx0 hy0 (fun n0 b h=>sgc_i n0 b zs (F.top zs t1) t1 true _ h (by rw[z2];exact F.top_le _ _) (by have:=F.top_le zs t1;omega) z1 (Ma zs t1) (by rw[F.top_val,List.take_of_length_le om,z3,av,bv,tdv,hx0,hy0]<;>rfl)) (fun n0 b h=>sg_i n0 b rs t false _ h r2 om r1 (vpos r3) (by rw[r4,hR',tmv,hx0]<;>rfl))) hG
 ·rcases hov with⟨hR0,hov⟩|⟨rs,t,r1,r2,r3,r4,hov⟩
  ·have e:Int.tmod x y=0:=by rw[tmv,←hR',hR0];split<;>rfl
   rw[e,Lm]
   exact Dy n0 (qu_mpn x y l1 l2 zs [] t1 t2 (F.top zs t1) 0 hsm ha hb hov hx0 hy0 (fun n0 b h=>sgc_i n0 b zs (F.top zs t1) t1 true _ h (by rw[z2];exact F.top_le _ _) (by have:=F.top_le zs t1;omega) z1 (Ma zs t1) (by rw[F.top_val,List.take_of_length_le om,z3,av,bv,tdv,hx0,hy0]<;>rfl))) hG
  ·have htk:t≤t2:=Ug r1 r2 r3 b1 b2 (by rw[r4,hR',bv];exact Nat.le_of_lt (Nat.mod_lt _ hVp))
   exact Dy n0 (qu_mpr x y l1 l2 zs rs t1 t2 (F.top zs t1) t hsm ha hb hov hx0 hy0 (fun n0 b h=>sgc_i n0 b zs (F.top zs t1) t1 true _ h (by rw[z2];exact F.top_le _ _) (by have:=F.top_le zs t1;omega) z1 (Ma zs t1) (by rw[F.top_val,List.take_of_length_le om,z3,av,bv,tdv,hx0,hy0]<;>rfl)) (fun n0 b h=>sg_i n0 b rs t true _ h r2 om r1 (vpos r3) (by rw[r4,hR',tmv,hx0]<;>rfl))) hG
 ·rcases hov with⟨hR0,hov⟩|⟨rs,t,r1,r2,r3,r4,hov⟩
  ·have e:Int.tmod x y=0:=by rw[tmv,←hR',hR0];split<;>rfl
   rw[e,Lm]
   exact Dy n0 (qu_mmn x y l1 l2 zs [] t1 t2 (F.top zs t1) 0 hsm ha hb hov hx0 hy0 (fun n0 b h=>sgc_i n0 b zs (F.top zs t1) t1 false _ h (by rw[z2];exact F.top_le _ _) (by have:=F.top_le zs t1;omega) z1 (Ma zs t1) (by rw[F.top_val,List.take_of_length_le om,z3,av,bv,tdv,hx0,hy0]<;>rfl))) hG
  ·have htk:t≤t2:=Ug r1 r2 r3 b1 b2 (by rw[r4,hR',bv];exact Nat.le_of_lt (Nat.mod_lt _ hVp))
   exact Dy n0 (qu_mmr x y l1 l2 zs rs t1 t2 (F.top zs t1) t hsm ha hb hov hx0 hy0 (fun n0 b h=>sgc_i n0 b zs (F.top zs t1) t1 false _ h (by rw[z2];exact F.top_le _ _) (by have:=F.top_le zs t1;omega) z1 (Ma zs t1) (by rw[F.top_val,List.take_of_length_le om,z3,av,bv,tdv,hx0,hy0]<;>rfl)) (fun n0 b h=>sg_i n0 b rs t true _ h r2 om r1 (vpos r3) (by rw[r4,hR',tmv,hx0]<;>rfl))) hG
noncomputable section
abbrev Re(x y:Int):Value:=.tuple #[(.string (Ab (Int.tdiv x y))),(.string (Ab (Int.tmod x y)))]
end
theorem Vy{a b k:Nat}(h:a≤b)(hb:(Ae b).length≤k)(hk:0<k):(Ae a).length≤k:=Ew (Tx k a (Nat.lt_of_le_of_lt h (Hm hb))) hk
theorem istr_m1:Ab (-1)=Seg.bts [45,49]:=by kernel_rfl
theorem digs_m1(k:Nat)(h:0<k):(Ae (-1:Int).natAbs).length≤k:=
 Ew (Tx k _ (by rw[show (-1:Int).natAbs=1 from rfl];exact Nat.one_lt_pow om de)) h
theorem pl_m1(z:Int)(n0:Nat)(hG:5≤n0)(hz:(Ae z.natAbs).length≤100000000):FT 40 #[.string (Ab z),.string (Seg.bts [45,49])] n0 [] (.string (Ab (z-1))) [] []:=by
 have:=pl_i z (-1) n0 hG hz (digs_m1 100000000 de)
 rw[istr_m1]at this
 exact this
theorem neT{z:Int}(h:z≠0):(!((Ab z).toList==(Seg.bts [48]).toList))=true:=by rw[←Lm,txt_eqF h];rfl
theorem neF{z:Int}(h:z=0):(!((Ab z).toList==(Seg.bts [48]).toList))=false:=by rw[←Lm,txt_eqT h];rfl
theorem fo_z(x y:Int)(hy:y≠0)(hdx:(Ae x.natAbs).length≤1000000)(hdy:(Ae y.natAbs).length≤1000000)(hr0:(Int.tmod x y)=0):CT 50 #[(.string (Ab x)),(.string (Ab y))] (Ac 5 []) (Re x y) (Ac 5 []):=
 sF (sc:=[(9,.call [] (Re x y) [] []),(10,.op (.rwB false)),(18,.stay)]) kr (aI (qu_i x y hy 5 om hdx hdy) (aI (show (!((Ab (Int.tmod x y)).toList==(bts [48]).toList))=false from (neF hr0)) tt)) (Gets.refl _)
theorem fo_pp(x y:Int)(hy:y≠0)(hdx:(Ae x.natAbs).length≤1000000)(hdy:(Ae y.natAbs).length≤1000000)(hr0:(Int.tmod x y)≠0)(hrs:decide ((Int.tmod x y)<0)=false)(hys:decide (y<0)=false):CT 50 #[(.string (Ab x)),(.string (Ab y))] (Ac 5 []) (Re x y) (Ac 5 []):=
 sF (sc:=[(9,.call [] (Re x y) [] []),(10,.op (.rwB true)),(2,.call [] bF [] []),(1,.call [] bF [] []),(13,.stay)]) kr (aI (qu_i x y hy 5 om hdx hdy) (aI (show (!((Ab (Int.tmod x y)).toList==(bts [48]).toList))=true from (neT hr0)) (aI (Cq (Int.tmod x y) false hrs 5 om) (aI (Cq y false hys 5 om) tt)))) (Gets.refl _)
theorem fo_pm(x y:Int)(hy:y≠0)(hdx:(Ae x.natAbs).length≤1000000)(hdy:(Ae y.natAbs).length≤1000000)(hr0:(Int.tmod x y)≠0)(hrs:decide ((Int.tmod x y)<0)=false)(hys:decide (y<0)=true)(hdq:(Ae (Int.tdiv x y).natAbs).length≤100000000)(hdr:(Ae (Int.tmod x y).natAbs).length≤100000000):CT 50 #[(.string (Ab x)),(.string (Ab y))] (Ac 5 []) (.tuple #[(.string (Ab ((Int.tdiv x y)-1))),(.string (Ab ((Int.tmod x y)+y)))]) (Ac 5 []):=
 sF (sc:=[(9,.call [] (Re x y) [] []),(10,.op (.rwB true)),(2,.call [] bF [] []),(1,.call [] bT [] []),(63,.call [] (.string (Ab ((Int.tdiv x y)-1))) [] []),(6,.call [] (.string (Ab ((Int.tmod x y)+y))) [] []),(4,.stay)]) kr (aI (qu_i x y hy 5 om hdx hdy) (aI (show (!((Ab (Int.tmod x y)).toList==(bts [48]).toList))=true from (neT hr0)) (aI (Cq (Int.tmod x y) false hrs 5 om) (aI (Cq y true hys 5 om) (aI (pl_m1 (Int.tdiv x y) 5 om hdq) (aI (pl_i (Int.tmod x y) y 5 om hdr om) tt)))))) (Gets.refl _)
theorem fo_mp(x y:Int)(hy:y≠0)(hdx:(Ae x.natAbs).length≤1000000)(hdy:(Ae y.natAbs).length≤1000000)(hr0:(Int.tmod x y)≠0)(hrs:decide ((Int.tmod x y)<0)=true)(hys:decide (y<0)=false)(hdq:(Ae (Int.tdiv x y).natAbs).length≤100000000)(hdr:(Ae (Int.tmod x y).natAbs).length≤100000000):CT 50 #[(.string (Ab x)),(.string (Ab y))] (Ac 5 []) (.tuple #[(.string (Ab ((Int.tdiv x y)-1))),(.string (Ab ((Int.tmod x y)+y)))]) (Ac 5 []):=
 sF (sc:=[(9,.call [] (Re x y) [] []),(10,.op (.rwB true)),(2,.call [] bT [] []),(1,.call [] bF [] []),(63,.call [] (.string (Ab ((Int.tdiv x y)-1))) [] []),(6,.call [] (.string (Ab ((Int.tmod x y)+y))) [] []),(4,.stay)]) kr (aI (qu_i x y hy 5 om hdx hdy) (aI (show (!((Ab (Int.tmod x y)).toList==(bts [48]).toList))=true from (neT hr0)) (aI (Cq (Int.tmod x y) true hrs 5 om) (aI (Cq y false hys 5 om) (aI (pl_m1 (Int.tdiv x y) 5 om hdq) (aI (pl_i (Int.tmod x y) y 5 om hdr om) tt)))))) (Gets.refl _)
theorem fo_mm(x y:Int)(hy:y≠0)(hdx:(Ae x.natAbs).length≤1000000)(hdy:(Ae y.natAbs).length≤1000000)(hr0:(Int.tmod x y)≠0)(hrs:decide ((Int.tmod x y)<0)=true)(hys:decide (y<0)=true):CT 50 #[(.string (Ab x)),(.string (Ab y))] (Ac 5 []) (Re x y) (Ac 5 []):=
 sF (sc:=[(9,.call [] (Re x y) [] []),(10,.op (.rwB true)),(2,.call [] bT [] []),(1,.call [] bT [] []),(13,.stay)]) kr (aI (qu_i x y hy 5 om hdx hdy) (aI (show (!((Ab (Int.tmod x y)).toList==(bts [48]).toList))=true from (neT hr0)) (aI (Cq (Int.tmod x y) true hrs 5 om) (aI (Cq y true hys 5 om) tt)))) (Gets.refl _)
theorem fo_i2(x y:Int)(hy:y≠0)(n0:Nat)(hG:5≤n0)(hdx:(Ae x.natAbs).length≤1000000)(hdy:(Ae y.natAbs).length≤1000000):FT 50 #[.string (Ab x),.string (Ab y)] n0 [] (.tuple #[.string (Ab (Xw x y)),.string (Ab (flR x y))]) [] []:=by
 have hdq:=Nat.le_trans (Vy (Wt x y) hdx de) (show 1000000≤100000000 by decide)
 have hdr:=Nat.le_trans (Vy (Zj x y) hdx de) (show 1000000≤100000000 by decide)
 by_cases hr0:(Int.tmod x y)=0
 ·have ha: ¬adj x y:=fun h=>h.1 hr0
  rw[Xw,flR,if_neg ha,if_neg ha]
  exact Dy n0 (fo_z x y hy hdx hdy hr0) hG
 ·cases hrs:decide ((Int.tmod x y)<0)<;>cases hys:decide (y<0)
  ·have ha: ¬adj x y:=by unfold adj;simp only[decide_eq_true_eq,decide_eq_false_iff_not]at hrs hys;omega
   rw[Xw,flR,if_neg ha,if_neg ha]
   exact Dy n0 (fo_pp x y hy hdx hdy hr0 hrs hys) hG
  ·have ha:adj x y:=by unfold adj;simp only[decide_eq_true_eq,decide_eq_false_iff_not]at hrs hys;omega
   rw[Xw,flR,if_pos ha,if_pos ha]
   exact Dy n0 (fo_pm x y hy hdx hdy hr0 hrs hys hdq hdr) hG
  ·have ha:adj x y:=by unfold adj;simp only[decide_eq_true_eq,decide_eq_false_iff_not]at hrs hys;omega
   rw[Xw,flR,if_pos ha,if_pos ha]
   exact Dy n0 (fo_mp x y hy hdx hdy hr0 hrs hys hdq hdr) hG
  ·have ha: ¬adj x y:=by unfold adj;simp only[decide_eq_true_eq,decide_eq_false_iff_not]at hrs hys;omega
   rw[Xw,flR,if_neg ha,if_neg ha]
   exact Dy n0 (fo_mm x y hy hdx hdy hr0 hrs hys) hG
end Go.Proofs.YtjbflfbhfnkmlaaGreatDoor
