import Derived.Test.YtdgbfelbfhgglaaGreatDoorPThree2
import Derived.Test.YtdgbfelbfhgglaaGreatDoorLF
set_option linter.unusedVariables false
set_option linter.unusedSimpArgs false
set_option maxRecDepth 100000
namespace Go.Proofs.YtdgbfelbfhgglaaGreatDoor
open Go Go.AE Seg
noncomputable section
abbrev z_a6d_0(a:Int):Value:=.string (istr ((a.natAbs:Nat):Int))
abbrev z_a6d_1(b:Int):Value:=.string (istr ((b.natAbs:Nat):Int))
abbrev z_a6d_2(a b:Int):Value:=.tuple #[(nI a.natAbs),(nI b.natAbs),bT]
end
noncomputable def co_h_f(a b:Int)(p q:Int)(jc:List Value)(j:List Value):Frame:=⟨92,List.toArray [(z_a6d_0 a),(z_a6d_1 b),uu,uu,(J jc 0),(.int .i64 p),(.int .i64 q),(J jc 1),uu,uu,(J jc 2),(J jc 3),(J jc 4),(J jc 5),(J jc 6),(J jc 7),(J jc 8),(J jc 9),(J jc 10),(J jc 11),(J jc 12),(J jc 13),(J j 0),(J j 1),(J j 2),(J j 3),(J j 4),(J j 5),uu,uu,uu,uu,uu,uu,uu,uu,uu,uu,uu,uu,uu],[.code (cd Tryz.f92 [1,1,0,1,1,0,0,0,0]),.inLoop (cd Tryz.f92 [1,1,0,1,1,0,0,0,0]),.inBlock 0,.code (cd Tryz.f92 [1,1,0,1,1,0,1]),.code (cd Tryz.f92 [1,1,1])],[],.run,.normal,none⟩
noncomputable def co_h_o(a b:Int)(p q:Int)(jc:List Value):List (Nat×AObj):=[]
noncomputable def co_h(a b:Int)(p q:Int)(jc:List Value)(j:List Value):AS:=⟨co_h_f a b p q jc j,[],mkH 10 (co_h_o a b p q jc)⟩
theorem co_in(a b:Int)(ha:a.natAbs<1000000000)(hb:b.natAbs<1000000000):GT ⟨Frame.enter Tryz.prog 92 #[(.string (istr a)),(.string (istr b))] .normal,[],mkH 10 []⟩ (co_h a b ((a.natAbs:Nat):Int) ((b.natAbs:Nat):Int) ([(.string (bts [])),bT,(.string (istr a)),(z_a6d_0 a),(.string (istr b)),(z_a6d_1 b),(z_a6d_2 a b),(z_a6d_0 a),(z_a6d_1 b),(z_a6d_2 a b),(nI a.natAbs),(nI b.natAbs),bT,bT]) [undef,undef,undef,undef,undef,undef]):=
 sR (sc:=[(7,.call [] (z_a6d_0 a) [] []),(1,.call [] (z_a6d_1 b) [] []),(8,.call [] (z_a6d_2 a b) [] []),(16,.stay)]) (by kernel_rfl) (aI (ab_z 10 a (by omega)) (aI (ab_z 10 b (by omega)) (aI (sm_t ((a.natAbs:Nat):Int) ((b.natAbs:Nat):Int) 10 (by omega) (d9 (by omega)) (d9 (by omega))) tt)))
theorem co_r(a b:Int)(ha:a.natAbs<1000000000)(hb:b.natAbs<1000000000)(p q:Int)(jc j:List Value)(h0:q≠0):GT (co_h a b p q jc j) (co_h a b q (Int.tmod p q) ([(J jc 0),(J jc 1),(J jc 2),(J jc 3),(J jc 4),(J jc 5),(J jc 6),(J jc 7),(J jc 8),(J jc 9),(J jc 10),(J jc 11),(J jc 12),(J jc 13)]) [(.int .i64 q),bT,(.int .i64 q),(.int .i64 p),(.int .i64 q),(.int .i64 (Int.tmod p q))]):=
 sR (sc:=[(4,.op (.rwB true)),(4,.drw [(3,.div (Int.tmod p q))]),(2,.stay)]) (by kernel_rfl) (aI (nT (a:=q) (b:=(0:Int)) (by omega)) (aI (aI tt (aI tt (aI tt (aI (show q≠0∧(Int.tmod p q)=(Int.tmod p q) from⟨h0,rfl⟩) (aI tt (aI tt tt)))))) tt))
theorem co_o(a b:Int)(ha:a.natAbs<1000000000)(hb:b.natAbs<1000000000)(p q:Int)(jc j:List Value)(h0:q=0)(hp:p.natAbs<1000000000000000000)(hr:GT ⟨Frame.enter Tryz.prog 92 #[(.string (istr a)),(.string (istr b))] .normal,[],mkH 10 []⟩ (co_h a b p q jc j)):CT 92 #[(.string (istr a)),(.string (istr b))] (mkH 10 []) (.string (istr p)) (mkH 10 []):=
 sF (sc:=[(4,.op (.rwB false)),(6,.call [] (.string (istr p)) [] []),(3,.stay)]) (by kernel_rfl) (aI (nF (a:=q) (b:=(0:Int)) (by omega)) (aI (oi_i p 10 (by omega) (by omega)) tt)) hr
theorem co_loop{a b:Int}(ha:a.natAbs<1000000000)(hb:b.natAbs<1000000000): ∀(n p q:Nat) (jc j:List Value),q≤n→GT ⟨Frame.enter Tryz.prog 92 #[(.string (istr a)),(.string (istr b))] .normal,[],mkH 10 []⟩ (co_h a b (p:Int) (q:Int) jc j)→ ∃jc j,GT ⟨Frame.enter Tryz.prog 92 #[(.string (istr a)),(.string (istr b))] .normal,[],mkH 10 []⟩ (co_h a b ((Nat.gcd p q:Nat):Int) 0 jc j):=by
 intro n
 induction n with
 |zero=>
  intro p q jc j hq hr
  obtain rfl:q=0:=by omega
  rw[Nat.gcd_zero_right]
  exact⟨jc,j,hr⟩
 |succ n ih=>
  intro p q jc j hq hr
  rcases Nat.eq_zero_or_pos q with h|h
  ·subst h
   rw[Nat.gcd_zero_right]
   exact⟨jc,j,hr⟩
  have r:=hr.trans (co_r a b ha hb (p:Int) (q:Int) jc j (by omega))
  have e:Int.tmod (p:Int) (q:Int)=((p%q:Nat):Int):=rfl
  rw[e]at r
  have hlt:=Nat.mod_lt p h
  obtain⟨jc',j',r'⟩:=ih q (p%q) _ _ (by omega) r
  rw[show Nat.gcd p q=Nat.gcd q (p%q) by rw[Nat.gcd_comm,Nat.gcd_rec,Nat.gcd_comm]]
  exact⟨jc',j',r'⟩
theorem co_c(n0:Nat)(a b:Int)(ha:a.natAbs<1000000000)(hb:b.natAbs<1000000000)(hG:10≤n0):FT 92 #[(.string (istr a)),(.string (istr b))] n0 [] (.string (istr ((Nat.gcd a.natAbs b.natAbs:Nat):Int))) [] []:=by
 obtain⟨jc,j,hr⟩:=co_loop ha hb b.natAbs a.natAbs b.natAbs _ _ (Nat.le_refl _) (co_in a b ha hb)
 have hg:Nat.gcd a.natAbs b.natAbs<1000000000:=by
  rcases Nat.eq_zero_or_pos b.natAbs with h|h
  ·rw[h,Nat.gcd_zero_right];exact ha
  ·have:=Nat.gcd_le_right a.natAbs h;omega
 have S:=co_o a b ha hb ((Nat.gcd a.natAbs b.natAbs:Nat):Int) 0 jc j rfl (by omega) hr
 exact fsp_flat [] [] [] [] [] n0 (S) rfl rfl rfl (by simp) (by simp) hG rfl rfl rfl (by simp) (by simp) rfl rfl rfl
theorem rck_o(a:Int)(ha:a.natAbs<1000000000000000000)(hs:(istr ((a.natAbs:Nat):Int)).size≤19):CT 152 #[(.string (istr a))] (mkH 10 []) (lI 0) (mkH 10 []):=
 sF (sc:=[(8,.call [] bT [] []),(8,.call [] (z_a6d_0 a) [] []),(1,.op (.rwB false)),(8,.stay)]) (by kernel_rfl) (aI (fo_i 10 a (by omega) ha) (aI (ab_z 10 a (by omega)) (aI (dF (p:=(((istr ((a.natAbs:Nat):Int)).size:Nat):Int)>(400:Int)) (by omega)) tt))) (Gets.refl _)
theorem rck_c(n0:Nat)(a:Int)(hG:10≤n0)(ha:a.natAbs<1000000000000000000):FT 152 #[(.string (istr a))] n0 [] (lI 0) [] []:=fsp_flat [] [] [] [] [] n0 (rck_o a ha (istr_size _ (by omega))) rfl rfl rfl (by simp) (by simp) hG rfl rfl rfl (by simp) (by simp) rfl rfl rfl
theorem vf_o(x:Rat)(h1:x.num.natAbs<1000000000)(h2:x.den<1000000000)(h3:0<x.den):CT 106 #[(.agg #[(.string (istr x.num)),(.string (istr (x.den:Int)))])] (mkH 10 []) bT (mkH 11 []):=
 sF (sc:=[(6,.drwM [] [⟨2,[],(lI 0),[],[]⟩,⟨5,[],(lI 0),[],[]⟩]),(12,.call [] bF [] []),(4,.op (.rwB false)),(22,.call [] (.string (istr (1:Int))) [] []),(0,.op (.rwB true)),(3,.stay)]) (by kernel_rfl) (aI (aI (aI tt (aI tt (aI tt (aI tt (aI (rck_c 11 x.num (by omega) (by omega)) (aI (rck_c 11 (x.den:Int) (by omega) (by omega)) (aI tt (aI tt tt)))))))) (show ((((#[(.string (istr x.num))]:Array Value)= #[(.string (istr (x.den:Int)))]→((lI 0):Value)=(lI 0))∧True)∧(True∧True)) from⟨⟨(by simp),tt⟩,⟨tt,tt⟩⟩)) (aI (ne_f 11 (x.den:Int) (by omega) (by omega)) (aI (show ((istr (x.den:Int)).toList==(bts [48]).toList)=false from (txt0F (by omega))) (aI (show FT 92 #[(.string (istr x.num)),(.string (istr (x.den:Int)))] 11 [] (.string (istr (1:Int))) [] [] from (by have:=co_c 11 x.num (x.den:Int) (by omega) (by omega) (by omega);rw[Int.natAbs_natCast,x.reduced]at this;exact this)) (aI (show ((istr (1:Int)).toList==(bts [49]).toList)=true from (txt1T rfl)) tt))))) (Gets.refl _)
theorem vf_c(n0:Nat)(x:Rat)(h1:x.num.natAbs<1000000000)(h2:x.den<1000000000)(hG:10≤n0):FT 106 #[(.agg #[(.string (istr x.num)),(.string (istr (x.den:Int)))])] n0 [] bT [] []:=fsp_flat [] [] [] [] [] n0 (vf_o x h1 h2 (Nat.pos_of_ne_zero x.den_nz)) rfl rfl rfl (by simp) (by simp) hG rfl rfl rfl (by simp) (by simp) rfl rfl rfl
theorem vl_o(x:Rat)(h1:x.num.natAbs<1000000000)(h2:x.den<1000000000)(hs1:(istr ((x.num.natAbs:Nat):Int)).size≤19)(hs2:(istr (x.den:Int)).size≤19):CT 20 #[(.agg #[(.string (istr x.num)),(.string (istr (x.den:Int)))])] (mkH 10 []) bT (mkH 13 []):=
 sF (sc:=[(18,.call [] bT [] []),(18,.call [] (.string (istr ((x.num.natAbs:Nat):Int))) [] []),(1,.op (.rwB false)),(4,.op (.rwB false)),(18,.stay)]) (by kernel_rfl) (aI (vf_c 12 x h1 h2 (by omega)) (aI (ab_z 13 x.num (by omega)) (aI (dF (p:=(((istr ((x.num.natAbs:Nat):Int)).size:Nat):Int)>(400:Int)) (by omega)) (aI (dF (p:=(((istr (x.den:Int)).size:Nat):Int)>(400:Int)) (by omega)) tt)))) (Gets.refl _)
theorem vl_c(n0:Nat)(x:Rat)(h1:x.num.natAbs<1000000000)(h2:x.den<1000000000)(hG:10≤n0):FT 20 #[(.agg #[(.string (istr x.num)),(.string (istr (x.den:Int)))])] n0 [] bT [] []:=fsp_flat [] [] [] [] [] n0 (vl_o x h1 h2 (istr_size _ (by omega)) (istr_size _ (by omega))) rfl rfl rfl (by simp) (by simp) hG rfl rfl rfl (by simp) (by simp) rfl rfl rfl
end Go.Proofs.YtdgbfelbfhgglaaGreatDoor
