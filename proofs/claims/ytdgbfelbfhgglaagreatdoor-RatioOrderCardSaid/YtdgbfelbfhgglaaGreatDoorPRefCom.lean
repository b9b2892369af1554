import Derived.Test.YtdgbfelbfhgglaaGreatDoorPThree2
import Derived.Test.YtdgbfelbfhgglaaGreatDoorLF
import Derived.Test.YtdgbfelbfhgglaaGreatDoorPCntB
set_option linter.unusedVariables false
set_option linter.unusedSimpArgs false
set_option maxRecDepth 100000
namespace Go.Proofs.YtdgbfelbfhgglaaGreatDoor
open Go Go.AE Seg
noncomputable section
abbrev z_a6d_0(a:Int):Value:=.string (istr ((a.natAbs:Nat):Int))
abbrev z_a6d_1(b:Int):Value:=.string (istr ((b.natAbs:Nat):Int))
abbrev z_a6d_2(a b:Int):Value:=.tuple #[(nI a.natAbs),(nI b.natAbs),bT]
end
noncomputable def co_h_f(a b:Int)(p q:Int)(jc:List Value)(j:List Value):Frame:=⟨92,List.toArray [(z_a6d_0 a),(z_a6d_1 b),uu,uu,(J jc 0),(.int .i64 p),(.int .i64 q),(J jc 1),uu,uu,(J jc 2),(J jc 3),(J jc 4),(J jc 5),(J jc 6),(J jc 7),(J jc 8),(J jc 9),(J jc 10),(J jc 11),(J jc 12),(J jc 13),(J j 0),(J j 1),(J j 2),(J j 3),(J j 4),(J j 5),uu,uu,uu,uu,uu,uu,uu,uu,uu,uu,uu,uu,uu],[.code (cd Tryz.f92 [1,1,0,1,1,0,0,0,0]),.inLoop (cd Tryz.f92 [1,1,0,1,1,0,0,0,0]),.inBlock 0,.code (cd Tryz.f92 [1,1,0,1,1,0,1]),.code (cd Tryz.f92 [1,1,1])],[],.run,.normal,none⟩
noncomputable def co_h_o(a b:Int)(p q:Int)(jc:List Value):List (Nat×AObj):=[]
noncomputable def co_h(a b:Int)(p q:Int)(jc:List Value)(j:List Value):AS:=⟨co_h_f a b p q jc j,[],mkH 10 (co_h_o a b p q jc)⟩
theorem co_in(a b:Int)(ha:a.natAbs<1000000000)(hb:b.natAbs<1000000000):GT ⟨Frame.enter Tryz.prog 92 #[(.string (istr a)),(.string (istr b))] .normal,[],mkH 10 []⟩ (co_h a b ((a.natAbs:Nat):Int) ((b.natAbs:Nat):Int) ([(.string (bts [])),bT,(.string (istr a)),(z_a6d_0 a),(.string (istr b)),(z_a6d_1 b),(z_a6d_2 a b),(z_a6d_0 a),(z_a6d_1 b),(z_a6d_2 a b),(nI a.natAbs),(nI b.natAbs),bT,bT]) [undef,undef,undef,undef,undef,undef]):=
 sR (sc:=[(7,.call [] (z_a6d_0 a) [] []),(1,.call [] (z_a6d_1 b) [] []),(8,.call [] (z_a6d_2 a b) [] []),(16,.stay)]) (by kernel_rfl) (aI (ab_z 10 a (by omega)) (aI (ab_z 10 b (by omega)) (aI (sm_t ((a.natAbs:Nat):Int) ((b.natAbs:Nat):Int) 10 (by omega) (d9 (by omega)) (d9 (by omega))) tt)))
theorem co_r(a b:Int)(ha:a.natAbs<1000000000)(hb:b.natAbs<1000000000)(p q:Int)(jc j:List Value)(h0:q≠0):GT (co_h a b p q jc j) (co_h a b q (Int.tmod p q) ([(J jc 0),(J jc 1),(J jc 2),(J jc 3),(J jc 4),(J jc 5),(J jc 6),(J jc 7),(J jc 8),(J jc 9),(J jc 10),(J jc 11),(J jc 12),(J jc 13)]) [(.int .i64 q),bT,(.int .i64 q),(.int .i64 p),(.int .i64 q),(.int .i64 (Int.tmod p q))]):=
 sR (sc:=[(4,.op (.rwB true)),(4,.drw [(3,.div (Int.tmod p q))]),(2,.stay)]) (by kernel_rfl) (aI (nT (a:=q) (b:=(0:Int)) (by omega)) (aI (aI tt (aI tt (aI tt (aI (show q≠0∧(Int.tmod p q)=(Int.tmod p q) from⟨h0,rfl⟩) (aI tt (aI tt tt)))))) tt))
theorem co_o(a b:Int)(ha:a.natAbs<1000000000)(hb:b.natAbs<1000000000)(p q:Int)(jc j:List Value)(h0:q=0)(hp:p.natAbs<1000000000000000000)(hr:GT ⟨Frame.enter Tryz.prog 92 #[(.string (istr a)),(.string (istr b))] .normal,[],mkH 10 []⟩ (co_h a b p q jc j)):CT 92 #[(.string (istr a)),(.string (istr b))] (mkH 10 []) (.string (istr p)) (mkH 10 []):=
 sF (sc:=[(4,.op (.rwB false)),(6,.call [] (.string (istr p)) [] []),(3,.stay)]) (by kernel_rfl) (aI (nF (a:=q) (b:=(0:Int)) (by omega)) (aI (oi_i p 10 (by omega) (by omega)) tt)) hr
theorem co_loop{a b:Int}(ha:a.natAbs<1000000000)(hb:b.natAbs<1000000000): ∀(n p q:Nat) (jc j:List Value),q≤n→GT ⟨Frame.enter Tryz.prog 92 #[(.string (istr a)),(.string (istr b))] .normal,[],mkH 10 []⟩ (co_h a b (p:Int) (q:Int) jc j)→ ∃jc j,GT ⟨Frame.enter Tryz.prog 92 #[(.string (istr a)),(.string (istr b))] .normal,[],mkH 10 []⟩ (co_h a b ((Nat.gcd p q:Nat):Int) 0 jc j):=by
 intro n
 induction n with
 |zero=>
  intro p q jc j hq hr
  obtain rfl:q=0:=by omega
  rw[Nat.gcd_zero_right]
  exact⟨jc,j,hr⟩
 |succ n ih=>
  intro p q jc j hq hr
  rcases Nat.eq_zero_or_pos q with h|h
  ·subst h
   rw[Nat.gcd_zero_right]
   exact⟨jc,j,hr⟩
  have r:=hr.trans (co_r a b ha hb (p:Int) (q:Int) jc j (by omega))
  have e:Int.tmod (p:Int) (q:Int)=((p%q:Nat):Int):=rfl
  rw[e]at r
  have hlt:=Nat.mod_lt p h
  obtain⟨jc',j',r'⟩:=ih q (p%q) _ _ (by omega) r
  rw[show Nat.gcd p q=Nat.gcd q (p%q) by rw[Nat.gcd_comm,Nat.gcd_rec,Nat.gcd_comm]]
  exact⟨jc',j',r'⟩
theorem co_c(n0:Nat)(a b:Int)(ha:a.natAbs<1000000000)(hb:b.natAbs<1000000000)(hG:10≤n0):FT 92 #[(.string (istr a)),(.string (istr b))] n0 [] (.string (istr ((Nat.gcd a.natAbs b.natAbs:Nat):Int))) [] []:=by
 obtain⟨jc,j,hr⟩:=co_loop ha hb b.natAbs a.natAbs b.natAbs _ _ (Nat.le_refl _) (co_in a b ha hb)
 have hg:Nat.gcd a.natAbs b.natAbs<1000000000:=by
  rcases Nat.eq_zero_or_pos b.natAbs with h|h
  ·rw[h,Nat.gcd_zero_right];exact ha
  ·have:=Nat.gcd_le_right a.natAbs h;omega
 have S:=co_o a b ha hb ((Nat.gcd a.natAbs b.natAbs:Nat):Int) 0 jc j rfl (by omega) hr
 exact fsp_flat [] [] [] [] [] n0 (S) rfl rfl rfl (by simp) (by simp) hG rfl rfl rfl (by simp) (by simp) rfl rfl rfl
theorem rpx_o(a b:Int)(ha:a.natAbs<1000000000)(hb:b.natAbs<1000000000):CT 41 #[(.string (istr a)),(.string (istr b))] (mkH 10 []) (.string (istr (a+b))) (mkH 10 []):=
 sF (sc:=[(9,.call [] (.tuple #[(.int .i64 a),(.int .i64 b),bT]) [] []),(17,.op (.rwI (a+b))),(0,.call [] (.string (istr (a+b))) [] []),(3,.stay)]) (by kernel_rfl) (aI (sm_t a b 10 (by omega) (d9 (by omega)) (d9 (by omega))) (aI (wI64 (a:=(a+b)) (r:=(a+b)) (by omega)) (aI (oi_i (a+b) 10 (by omega) (by omega)) tt))) (Gets.refl _)
theorem rpx_c(n0:Nat)(a b:Int)(ha:a.natAbs<1000000000)(hb:b.natAbs<1000000000)(hG:10≤n0):FT 41 #[(.string (istr a)),(.string (istr b))] n0 [] (.string (istr (a+b))) [] []:=fsp_flat [] [] [] [] [] n0 (rpx_o a b ha hb) rfl rfl rfl (by simp) (by simp) hG rfl rfl rfl (by simp) (by simp) rfl rfl rfl
theorem rqx_o(a b:Int)(ha:a.natAbs<1000000000)(hb:b.natAbs<1000000000)(h0:b≠0)(hd1:(Int.tdiv a b).natAbs<1000000000)(hd2:(Int.tmod a b).natAbs<1000000000):CT 93 #[(.string (istr a)),(.string (istr b))] (mkH 10 []) (.tuple #[(.string (istr (Int.tdiv a b))),(.string (istr (Int.tmod a b)))]) (mkH 10 []):=
 sF (sc:=[(10,.call [] (.tuple #[(.int .i64 a),(.int .i64 b),bT]) [] []),(14,.drwM [(2,.div (Int.tdiv a b)),(6,.div (Int.tmod a b))] [⟨3,[],(.string (istr (Int.tdiv a b))),[],[]⟩,⟨7,[],(.string (istr (Int.tmod a b))),[],[]⟩]),(1,.stay)]) (by kernel_rfl) (aI (sm_t a b 10 (by omega) (d9 (by omega)) (d9 (by omega))) (aI (aI (aI tt (aI tt (aI (show b≠0∧IntKind.wrap .i64 (Int.tdiv a b)=(Int.tdiv a b) from⟨h0,wI64 ⟨rfl,by omega,by omega⟩⟩) (aI tt (aI tt (aI (show b≠0∧(Int.tmod a b)=(Int.tmod a b) from⟨h0,rfl⟩) (aI (oi_i (Int.tdiv a b) 10 (by omega) (by omega)) (aI (oi_i (Int.tmod a b) 10 (by omega) (by omega)) (aI tt (aI tt tt)))))))))) (show ((((#[(.int .i64 (Int.tdiv a b))]:Array Value)= #[(.int .i64 (Int.tmod a b))]→((.string (istr (Int.tmod a b))):Value)=(.string (istr (Int.tdiv a b))))∧True)∧(True∧True)) from⟨⟨(by first|(simp;done)|(simp;intro h1;rw[h1])),tt⟩,⟨tt,tt⟩⟩)) tt)) (Gets.refl _)
theorem rqx_c(n0:Nat)(a b:Int)(ha:a.natAbs<1000000000)(hb:b.natAbs<1000000000)(hG:10≤n0)(hb0:0<b)(hdv:b∣a):FT 93 #[(.string (istr a)),(.string (istr b))] n0 [] (.tuple #[.string (istr (a/b)),.string (istr (Int.tmod a b))]) [] []:=by
 have g1:=tdiv_le a b
 have g2:=tmod_le a b
 have S:=rqx_o a b ha hb (by omega) (by omega) (by omega)
 rw[tdiv_dvd hb0 hdv]at S
 exact fsp_flat [] [] [] [] [] n0 (S) rfl rfl rfl (by simp) (by simp) hG rfl rfl rfl (by simp) (by simp) rfl rfl rfl
theorem rmk_o(p q g:Int)(hp:p.natAbs<1000000000)(hq:q.natAbs<1000000000)(hq0:0<q)(hg:0<g)(hgb:g.natAbs<1000000000)(d1:g∣p)(d2:g∣q)(hc: ∀n0,10≤n0→FT 92 #[(.string (istr p)),(.string (istr q))] n0 [] (.string (istr g)) [] []):CT 40 #[(.string (istr p)),(.string (istr q))] (mkH 10 []) (.agg #[(.string (istr (p/g))),(.string (istr (q/g)))]) (mkH 11 []):=
 sF (sc:=[(8,.call [] (.string (istr g)) [] []),(6,.call [] bF [] []),(7,.call [] (.tuple #[(.string (istr (p/g))),(.string (istr (Int.tmod p g)))]) [] []),(10,.call [] (.tuple #[(.string (istr (q/g))),(.string (istr (Int.tmod q g)))]) [] []),(14,.stay)]) (by kernel_rfl) (aI (hc 11 (by omega)) (aI (ne_f 11 q (by omega) (by omega)) (aI (rqx_c 11 p g (by omega) (by omega) (by omega) hg d1) (aI (rqx_c 11 q g (by omega) (by omega) (by omega) hg d2) tt)))) (Gets.refl _)
theorem rmk_c(n0:Nat)(p:Int)(q:Nat)(hG:10≤n0)(hp:p.natAbs<1000000000)(hq:q<1000000000)(h0:q≠0):FT 40 #[.string (istr p),.string (istr (q:Int))] n0 [] (.agg #[(.string (istr ((Rat.normalize p q h0).num))),(.string (istr ((Rat.normalize p q h0).den:Int)))]) [] []:=by
 have hg0:0<Nat.gcd p.natAbs q:=Nat.gcd_pos_of_pos_right _ (by omega)
 have hgq:Nat.gcd p.natAbs q≤q:=Nat.gcd_le_right _ (by omega)
 have S:=rmk_o p (q:Int) ((Nat.gcd p.natAbs q:Nat):Int) hp (by omega) (by omega) (by omega) (by omega) (gcd_dvd_num p q) (gcd_dvd_den p q) (fun n0 h=>by have:=co_c n0 p (q:Int) hp (by omega) h;rw[Int.natAbs_natCast]at this;exact this)
 rw[Rat.num_normalize,Rat.den_normalize,Int.natCast_ediv]
 exact fsp_flat [] [] [] [] [] n0 (S) rfl rfl rfl (by simp) (by simp) hG rfl rfl rfl (by simp) (by simp) rfl rfl rfl
theorem istr_1:istr 1=bts [49]:=by kernel_rfl
theorem istr_3:istr 3=bts [51]:=by kernel_rfl
theorem rps_o(N D:Int)(hN:N.natAbs<1000000)(hD:D.natAbs<1000000)(u:Rat)(hm: ∀n0,10≤n0→FT 40 #[.string (istr (N*3+1*D)),.string (istr (D*3))] n0 [] (.agg #[(.string (istr u.num)),(.string (istr (u.den:Int)))]) [] []):CT 14 #[(.agg #[(.string (istr N)),(.string (istr D))]),(.agg #[(.string (bts [49])),(.string (bts [51]))])] (mkH 10 []) (.agg #[(.string (istr u.num)),(.string (istr (u.den:Int)))]) (mkH 13 []):=
 sF (sc:=[(7,.drwM [] [⟨4,[],(.string (istr (N*3))),[],[]⟩,⟨9,[],(.string (istr (1*D))),[],[]⟩,⟨10,[],(.string (istr ((N*3)+(1*D)))),[],[]⟩,⟨15,[],(.string (istr (D*3))),[],[]⟩,⟨16,[],(.agg #[(.string (istr u.num)),(.string (istr (u.den:Int)))]),[],[]⟩]),(1,.stay)]) (by kernel_rfl) (aI (aI (aI tt (aI tt (aI tt (aI tt (aI tt (aI tt (aI tt (aI tt (aI tt (aI tt (aI tt (aI tt (aI (show FT 18 #[(.string (istr N)),(.string (bts [51]))] 13 [] (.string (istr (N*3))) [] [] from (by have:=rtm_c 13 N 3 (by omega) (by omega) (by omega);rw[istr_3]at this;exact this)) (aI (show FT 18 #[(.string (bts [49])),(.string (istr D))] 13 [] (.string (istr (1*D))) [] [] from (by have:=rtm_c 13 1 D (by omega) (by omega) (by omega);rw[istr_1]at this;exact this)) (aI (rpx_c 13 (N*3) (1*D) (by omega) (by omega) (by omega)) (aI (show FT 18 #[(.string (istr D)),(.string (bts [51]))] 13 [] (.string (istr (D*3))) [] [] from (by have:=rtm_c 13 D 3 (by omega) (by omega) (by omega);rw[istr_3]at this;exact this)) (aI (hm 13 (by omega)) (aI tt tt)))))))))))))))))) (show ((((#[(.string (istr N)),(.string (bts [51]))]:Array Value)= #[(.string (bts [49])),(.string (istr D))]→((.string (istr (1*D))):Value)=(.string (istr (N*3))))∧(True∧(((#[(.string (istr N)),(.string (bts [51]))]:Array Value)= #[(.string (istr D)),(.string (bts [51]))]→((.string (istr (D*3))):Value)=(.string (istr (N*3))))∧(True∧True))))∧((True∧(((#[(.string (bts [49])),(.string (istr D))]:Array Value)= #[(.string (istr D)),(.string (bts [51]))]→((.string (istr (D*3))):Value)=(.string (istr (1*D))))∧(True∧True)))∧((True∧(True∧True))∧((True∧True)∧(True∧True))))) from⟨⟨(by first|(simp;done)|((try simp only[←istr_1,←istr_3]);simp;intro h1 h2;exact congrArg istr (by have e1:=istr_eq h1;have e2:=istr_eq h2;omega))|((try simp only[←istr_1,←istr_3]);simp;intro h1;exact congrArg istr (by have e1:=istr_eq h1;omega))),⟨tt,⟨(by first|(simp;done)|((try simp only[←istr_1,←istr_3]);simp;intro h1 h2;exact congrArg istr (by have e1:=istr_eq h1;have e2:=istr_eq h2;omega))|((try simp only[←istr_1,←istr_3]);simp;intro h1;exact congrArg istr (by have e1:=istr_eq h1;omega))),⟨tt,tt⟩⟩⟩⟩,⟨⟨tt,⟨(by first|(simp;done)|((try simp only[←istr_1,←istr_3]);simp;intro h1 h2;exact congrArg istr (by have e1:=istr_eq h1;have e2:=istr_eq h2;omega))|((try simp only[←istr_1,←istr_3]);simp;intro h1;exact congrArg istr (by have e1:=istr_eq h1;omega))),⟨tt,tt⟩⟩⟩,⟨⟨tt,⟨tt,tt⟩⟩,⟨⟨tt,tt⟩,⟨tt,tt⟩⟩⟩⟩⟩)) tt) (Gets.refl _)
theorem rps_c(x:Rat)(h1:x.num.natAbs≤900)(h2:x.den≤40): ∃u:Rat,RB 2740 120 u∧0<u∧ ∀n0,10≤n0→FT 14 #[.agg #[.string (istr ((x.num.natAbs:Nat):Int)),.string (istr (x.den:Int))],.agg #[.string (bts [49]),.string (bts [51])]] n0 [] (.agg #[(.string (istr u.num)),(.string (istr (u.den:Int)))]) [] []:=by
 have h3:0<x.den:=Nat.pos_of_ne_zero x.den_nz
 have hq0:x.den*3≠0:=by omega
 have hn:=rb_norm (p:=((x.num.natAbs*3+1*x.den:Nat):Int)) (q:=x.den*3) hq0
 refine⟨Rat.normalize ((x.num.natAbs*3+1*x.den:Nat):Int) (x.den*3) hq0,hn.le (by omega) (by omega),?_,fun n0 hG=> ?_⟩
 ·rw[Rat.lt_iff,Rat.num_normalize,Rat.den_normalize]
  have g0:0<Nat.gcd ((x.num.natAbs*3+1*x.den:Nat):Int).natAbs (x.den*3):=Nat.gcd_pos_of_pos_right _ (by omega)
  have gd:=gcd_dvd_num ((x.num.natAbs*3+1*x.den:Nat):Int) (x.den*3)
  have hp:=Int.ediv_pos_of_pos_of_dvd (show (0:Int)<((x.num.natAbs*3+1*x.den:Nat):Int) by omega) (by omega) gd
  simp only[Rat.num_ofNat,Rat.den_ofNat,Int.zero_mul,Int.natCast_one,Int.mul_one]
  exact hp
 ·have S:=rps_o ((x.num.natAbs:Nat):Int) (x.den:Int) (by omega) (by omega) (Rat.normalize ((x.num.natAbs*3+1*x.den:Nat):Int) (x.den*3) hq0) (fun n0 h=>by
   have:=rmk_c n0 ((x.num.natAbs*3+1*x.den:Nat):Int) (x.den*3) h (by omega) (by omega) hq0
   rw[show ((x.num.natAbs*3+1*x.den:Nat):Int)=((x.num.natAbs:Nat):Int)*3+1*(x.den:Int) by omega,show ((x.den*3:Nat):Int)=(x.den:Int)*3 by omega]at this
   rw[show ((x.num.natAbs*3+1*x.den:Nat):Int)=((x.num.natAbs:Nat):Int)*3+1*(x.den:Int) by omega]
   exact this)
  exact fsp_flat [] [] [] [] [] n0 (S) rfl rfl rfl (by simp) (by simp) hG rfl rfl rfl (by simp) (by simp) rfl rfl rfl
theorem rab_o(x:Rat):CT 15 #[(.agg #[(.string (istr x.num)),(.string (istr (x.den:Int)))])] (mkH 10 []) (.agg #[(.string (istr ((x.num.natAbs:Nat):Int))),(.string (istr (x.den:Int)))]) (mkH 12 []):=
 sF (sc:=[(6,.drwM [] [⟨2,[],(.string (istr ((x.num.natAbs:Nat):Int))),[],[]⟩]),(1,.stay)]) (by kernel_rfl) (aI (aI tt (aI tt (aI tt (aI tt (aI (ab_z 12 x.num (by omega)) (aI tt (aI tt tt))))))) tt) (Gets.refl _)
theorem rab_c(n0:Nat)(x:Rat)(hG:10≤n0):FT 15 #[(.agg #[(.string (istr x.num)),(.string (istr (x.den:Int)))])] n0 [] (.agg #[(.string (istr ((x.num.natAbs:Nat):Int))),(.string (istr (x.den:Int)))]) [] []:=fsp_flat [] [] [] [] [] n0 (rab_o x) rfl rfl rfl (by simp) (by simp) hG rfl rfl rfl (by simp) (by simp) rfl rfl rfl
end Go.Proofs.YtdgbfelbfhgglaaGreatDoor
