import Derived.Test.YtdgbfelbfhgglaaGreatDoorPNumS
import Derived.Test.YtdgbfelbfhgglaaGreatDoorLF
set_option linter.unusedVariables false
set_option linter.unusedSimpArgs false
set_option maxRecDepth 100000
namespace Go.Proofs.YtdgbfelbfhgglaaGreatDoor
open Go Go.AE Seg
noncomputable section
abbrev z_daf_5(a b:Int):Array Value:= #[(.int .i64 a),(.int .i64 b)]
abbrev z_daf_0(a b:Int):AS:=⟨Frame.enter Tryz.prog 221 (z_daf_5 a b) .normal,[],mkH 10 []⟩
abbrev z_daf_1(p0 p1 p2:Int):Array Value:= #[(.int .i64 p0),(.int .i64 p1),(.int .i64 p2)]
abbrev z_daf_2(r1 x1 y1:Int):Value:=.agg #[(.int .i64 r1),(.int .i64 x1),(.int .i64 y1)]
abbrev z_daf_3(st sr:Int):Value:=.tuple #[(.int .i64 st),(.int .i64 sr)]
abbrev z_daf_4(r0 x0 y0:Int):Value:=.agg #[(.int .i64 r0),(.int .i64 x0),(.int .i64 y0)]
end
theorem ls_(c0 c1 c2 q d0 d1 d2:Int)(h0:(q*d0).natAbs<4000000000000000000∧c0.natAbs<4000000000000000000)(h1:(q*d1).natAbs<4000000000000000000∧c1.natAbs<4000000000000000000)(h2:(q*d2).natAbs<4000000000000000000∧c2.natAbs<4000000000000000000):CT 269 #[(.agg #[(.int .i64 c0),(.int .i64 c1),(.int .i64 c2)]),(.int .i64 q),(.agg #[(.int .i64 d0),(.int .i64 d1),(.int .i64 d2)])] (mkH 10 []) (.agg #[(.int .i64 (c0-(q*d0))),(.int .i64 (c1-(q*d1))),(.int .i64 (c2-(q*d2)))]) (mkH 13 []):=
 sF (sc:=[(13,.op (.rwI (q*d0))),(0,.op (.rwI (c0-(q*d0)))),(5,.op (.rwI (q*d1))),(0,.op (.rwI (c1-(q*d1)))),(5,.op (.rwI (q*d2))),(0,.op (.rwI (c2-(q*d2)))),(4,.stay)]) (by kernel_rfl) (aI (show IntKind.wrap .i64 (q*d0)=(q*d0) from (wrap_i64 (by omega) (by omega))) (aI (show IntKind.wrap .i64 (c0-(q*d0))=(c0-(q*d0)) from (wrap_i64 (by omega) (by omega))) (aI (show IntKind.wrap .i64 (q*d1)=(q*d1) from (wrap_i64 (by omega) (by omega))) (aI (show IntKind.wrap .i64 (c1-(q*d1))=(c1-(q*d1)) from (wrap_i64 (by omega) (by omega))) (aI (show IntKind.wrap .i64 (q*d2)=(q*d2) from (wrap_i64 (by omega) (by omega))) (aI (show IntKind.wrap .i64 (c2-(q*d2))=(c2-(q*d2)) from (wrap_i64 (by omega) (by omega))) tt)))))) (Gets.refl _)
theorem ls_c(n0:Nat)(c0 c1 c2 q d0 d1 d2:Int)(hG:10≤n0)(h0:(q*d0).natAbs<4000000000000000000∧c0.natAbs<4000000000000000000)(h1:(q*d1).natAbs<4000000000000000000∧c1.natAbs<4000000000000000000)(h2:(q*d2).natAbs<4000000000000000000∧c2.natAbs<4000000000000000000):FT 269 #[(.agg #[(.int .i64 c0),(.int .i64 c1),(.int .i64 c2)]),(.int .i64 q),(.agg #[(.int .i64 d0),(.int .i64 d1),(.int .i64 d2)])] n0 [] (.agg #[(.int .i64 (c0-(q*d0))),(.int .i64 (c1-(q*d1))),(.int .i64 (c2-(q*d2)))]) [] []:=
 fsp_flat [] [] [] [] [] n0 (ls_ c0 c1 c2 q d0 d1 d2 h0 h1 h2) rfl rfl rfl (by simp) (by simp) hG rfl rfl rfl (by simp) (by simp) rfl rfl rfl
theorem sfl_z(a b:Int)(hb0:b≠0)(ha:a.natAbs<1000000000000000000)(hb:b.natAbs<1000000000000000000)(hq:(Int.tdiv a b).natAbs<1000000000000000000)(hr:(Int.tmod a b).natAbs<1000000000000000000)(hz:Int.tmod a b=0):CT 217 (z_daf_5 a b) (mkH 10 []) (.tuple #[(.int .i64 (Int.tdiv a b)),(.int .i64 (Int.tmod a b))]) (mkH 10 []):=
 sF (sc:=[(16,.drw [(2,.div (Int.tdiv a b)),(5,.div (Int.tmod a b))]),(12,.op (.rwB false)),(18,.stay)]) (by kernel_rfl) (aI (aI tt (aI tt (aI (show b≠0∧IntKind.wrap .i64 (Int.tdiv a b)=(Int.tdiv a b) from⟨hb0,wI64 ⟨rfl,by omega,by omega⟩⟩) (aI tt (aI tt (aI (show b≠0∧(Int.tmod a b)=(Int.tmod a b) from⟨hb0,rfl⟩) (aI tt (aI tt tt)))))))) (aI (nF (a:=(Int.tmod a b)) (b:=(0:Int)) (by omega)) tt)) (Gets.refl _)
theorem sfl_ff(a b:Int)(hb0:b≠0)(ha:a.natAbs<1000000000000000000)(hb:b.natAbs<1000000000000000000)(hq:(Int.tdiv a b).natAbs<1000000000000000000)(hr:(Int.tmod a b).natAbs<1000000000000000000)(hz:Int.tmod a b≠0)(h1: ¬Int.tmod a b<0)(h2: ¬b<0):CT 217 (z_daf_5 a b) (mkH 10 []) (.tuple #[(.int .i64 (Int.tdiv a b)),(.int .i64 (Int.tmod a b))]) (mkH 10 []):=
 sF (sc:=[(16,.drw [(2,.div (Int.tdiv a b)),(5,.div (Int.tmod a b))]),(12,.op (.rwB true)),(2,.op (.rwB false)),(1,.op (.rwB false)),(13,.stay)]) (by kernel_rfl) (aI (aI tt (aI tt (aI (show b≠0∧IntKind.wrap .i64 (Int.tdiv a b)=(Int.tdiv a b) from⟨hb0,wI64 ⟨rfl,by omega,by omega⟩⟩) (aI tt (aI tt (aI (show b≠0∧(Int.tmod a b)=(Int.tmod a b) from⟨hb0,rfl⟩) (aI tt (aI tt tt)))))))) (aI (nT (a:=(Int.tmod a b)) (b:=(0:Int)) (by omega)) (aI (dF (p:=(Int.tmod a b)<(0:Int)) (by omega)) (aI (dF (p:=b<(0:Int)) (by omega)) tt)))) (Gets.refl _)
theorem sfl_ft(a b:Int)(hb0:b≠0)(ha:a.natAbs<1000000000000000000)(hb:b.natAbs<1000000000000000000)(hq:(Int.tdiv a b).natAbs<1000000000000000000)(hr:(Int.tmod a b).natAbs<1000000000000000000)(hz:Int.tmod a b≠0)(h1: ¬Int.tmod a b<0)(h2:b<0):CT 217 (z_daf_5 a b) (mkH 10 []) (.tuple #[(.int .i64 ((Int.tdiv a b)-(1:Int))),(.int .i64 ((Int.tmod a b)+b))]) (mkH 10 []):=
 sF (sc:=[(16,.drw [(2,.div (Int.tdiv a b)),(5,.div (Int.tmod a b))]),(12,.op (.rwB true)),(2,.op (.rwB false)),(1,.op (.rwB true)),(7,.op (.rwI ((Int.tdiv a b)-(1:Int)))),(2,.op (.rwI ((Int.tmod a b)+b))),(4,.stay)]) (by kernel_rfl) (aI (aI tt (aI tt (aI (show b≠0∧IntKind.wrap .i64 (Int.tdiv a b)=(Int.tdiv a b) from⟨hb0,wI64 ⟨rfl,by omega,by omega⟩⟩) (aI tt (aI tt (aI (show b≠0∧(Int.tmod a b)=(Int.tmod a b) from⟨hb0,rfl⟩) (aI tt (aI tt tt)))))))) (aI (nT (a:=(Int.tmod a b)) (b:=(0:Int)) (by omega)) (aI (dF (p:=(Int.tmod a b)<(0:Int)) (by omega)) (aI (dT (p:=b<(0:Int)) (by omega)) (aI (show IntKind.wrap .i64 ((Int.tdiv a b)-(1:Int))=((Int.tdiv a b)-(1:Int)) from (by rw[wrap_i64 (by omega) (by omega)];try omega)) (aI (show IntKind.wrap .i64 ((Int.tmod a b)+b)=((Int.tmod a b)+b) from (by rw[wrap_i64 (by omega) (by omega)];try omega)) tt)))))) (Gets.refl _)
theorem sfl_tf(a b:Int)(hb0:b≠0)(ha:a.natAbs<1000000000000000000)(hb:b.natAbs<1000000000000000000)(hq:(Int.tdiv a b).natAbs<1000000000000000000)(hr:(Int.tmod a b).natAbs<1000000000000000000)(hz:Int.tmod a b≠0)(h1:Int.tmod a b<0)(h2: ¬b<0):CT 217 (z_daf_5 a b) (mkH 10 []) (.tuple #[(.int .i64 ((Int.tdiv a b)-(1:Int))),(.int .i64 ((Int.tmod a b)+b))]) (mkH 10 []):=
 sF (sc:=[(16,.drw [(2,.div (Int.tdiv a b)),(5,.div (Int.tmod a b))]),(12,.op (.rwB true)),(2,.op (.rwB true)),(1,.op (.rwB false)),(7,.op (.rwI ((Int.tdiv a b)-(1:Int)))),(2,.op (.rwI ((Int.tmod a b)+b))),(4,.stay)]) (by kernel_rfl) (aI (aI tt (aI tt (aI (show b≠0∧IntKind.wrap .i64 (Int.tdiv a b)=(Int.tdiv a b) from⟨hb0,wI64 ⟨rfl,by omega,by omega⟩⟩) (aI tt (aI tt (aI (show b≠0∧(Int.tmod a b)=(Int.tmod a b) from⟨hb0,rfl⟩) (aI tt (aI tt tt)))))))) (aI (nT (a:=(Int.tmod a b)) (b:=(0:Int)) (by omega)) (aI (dT (p:=(Int.tmod a b)<(0:Int)) (by omega)) (aI (dF (p:=b<(0:Int)) (by omega)) (aI (show IntKind.wrap .i64 ((Int.tdiv a b)-(1:Int))=((Int.tdiv a b)-(1:Int)) from (by rw[wrap_i64 (by omega) (by omega)];try omega)) (aI (show IntKind.wrap .i64 ((Int.tmod a b)+b)=((Int.tmod a b)+b) from (by rw[wrap_i64 (by omega) (by omega)];try omega)) tt)))))) (Gets.refl _)
theorem sfl_tt(a b:Int)(hb0:b≠0)(ha:a.natAbs<1000000000000000000)(hb:b.natAbs<1000000000000000000)(hq:(Int.tdiv a b).natAbs<1000000000000000000)(hr:(Int.tmod a b).natAbs<1000000000000000000)(hz:Int.tmod a b≠0)(h1:Int.tmod a b<0)(h2:b<0):CT 217 (z_daf_5 a b) (mkH 10 []) (.tuple #[(.int .i64 (Int.tdiv a b)),(.int .i64 (Int.tmod a b))]) (mkH 10 []):=
 sF (sc:=[(16,.drw [(2,.div (Int.tdiv a b)),(5,.div (Int.tmod a b))]),(12,.op (.rwB true)),(2,.op (.rwB true)),(1,.op (.rwB true)),(13,.stay)]) (by kernel_rfl) (aI (aI tt (aI tt (aI (show b≠0∧IntKind.wrap .i64 (Int.tdiv a b)=(Int.tdiv a b) from⟨hb0,wI64 ⟨rfl,by omega,by omega⟩⟩) (aI tt (aI tt (aI (show b≠0∧(Int.tmod a b)=(Int.tmod a b) from⟨hb0,rfl⟩) (aI tt (aI tt tt)))))))) (aI (nT (a:=(Int.tmod a b)) (b:=(0:Int)) (by omega)) (aI (dT (p:=(Int.tmod a b)<(0:Int)) (by omega)) (aI (dT (p:=b<(0:Int)) (by omega)) tt)))) (Gets.refl _)
theorem sfl_c(n0:Nat)(a b:Int)(hG:10≤n0)(hb0:b≠0)(ha:a.natAbs<1000000000000000000)(hb:b.natAbs<1000000000000000000):FT 217 #[(.int .i64 a),(.int .i64 b)] n0 [] (.tuple #[.int .i64 (flQ a b),.int .i64 (flR a b)]) [] []:=by
 have key: ∃nx,CT 217 #[(.int .i64 a),(.int .i64 b)] (mkH 10 []) (.tuple #[.int .i64 (flQ a b),.int .i64 (flR a b)]) (mkH nx []):=by
  have g1:=tdiv_le a b
  have g2:=tmod_le a b
  have hq:(Int.tdiv a b).natAbs<1000000000000000000:=by omega
  have hr:(Int.tmod a b).natAbs<1000000000000000000:=by omega
  by_cases hz:Int.tmod a b=0
  ·have hna: ¬adj a b:=fun q=>q.1 hz
   rw[flB1 hna,flB2 hna]
   exact⟨_,sfl_z a b hb0 ha hb hq hr hz⟩
  ·by_cases h1:Int.tmod a b<0<;>by_cases h2:b<0
   ·have hna: ¬adj a b:=by unfold adj;omega
    rw[flB1 hna,flB2 hna]
    exact⟨_,sfl_tt a b hb0 ha hb hq hr hz h1 h2⟩
   ·have hna:adj a b:=by unfold adj;omega
    rw[flC1 hna,flC2 hna]
    exact⟨_,sfl_tf a b hb0 ha hb hq hr hz h1 h2⟩
   ·have hna:adj a b:=by unfold adj;omega
    rw[flC1 hna,flC2 hna]
    exact⟨_,sfl_ft a b hb0 ha hb hq hr hz h1 h2⟩
   ·have hna: ¬adj a b:=by unfold adj;omega
    rw[flB1 hna,flB2 hna]
    exact⟨_,sfl_ff a b hb0 ha hb hq hr hz h1 h2⟩
 obtain⟨nx,S⟩:=key
 exact fsp_flat [] [] [] [] [] n0 (S) rfl rfl rfl (by simp) (by simp) hG rfl rfl rfl (by simp) (by simp) rfl rfl rfl
theorem gc_z(a b:Int)(h0:a=0)(h1:b=0):CT 221 (z_daf_5 a b) (mkH 10 []) (.tuple #[(lI 0),(lI 0),(lI 0)]) (mkH 10 []):=
 sF (sc:=[(10,.op (.rwB true)),(2,.op (.rwB true)),(10,.stay)]) (by kernel_rfl) (aI (eT (a:=a) (b:=(0:Int)) (by omega)) (aI (eT (a:=b) (b:=(0:Int)) (by omega)) tt)) (Gets.refl _)
noncomputable def gc_h_f(a b:Int)(r0 x0 y0 r1 x1 y1:Int)(jc:List Value)(j:List Value):Frame:=⟨221,List.toArray [(.int .i64 a),(.int .i64 b),uu,uu,(lI 0),(lI 0),(lI 0),(pt 10),(pt 11),uu,uu,(.int .i64 a),(J jc 0),(J jc 1),(J jc 2),(J jc 3),bF,(.int .i64 a),(.agg #[(.int .i64 a),(lI 1),(lI 0)]),(.int .i64 b),(.agg #[(.int .i64 b),(lI 0),(lI 1)]),(J j 0),(J j 1),(J j 2),(J j 3),(J j 4),(J j 5),(J j 6),(J j 7),(J j 8),(J j 9),(J j 10),(J j 11),uu,uu,uu,uu,uu,uu,uu,uu,uu,uu,uu,uu,uu,uu,uu,uu,uu,uu,uu,uu,uu,uu,uu,uu,uu,uu,uu,uu,uu,uu,uu,uu,uu,uu],[.code (cd Tryz.f221 [1,1,1,0,0,0]),.inLoop (cd Tryz.f221 [1,1,1,0,0,0]),.inBlock 0,.code (cd Tryz.f221 [1,1,1,1])],[],.run,.normal,none⟩
noncomputable def gc_h_o(a b:Int)(r0 x0 y0 r1 x1 y1:Int)(jc:List Value):List (Nat×AObj):=[(10,(.cells [(.int .i64 r0),(.int .i64 x0),(.int .i64 y0)] 310 none false)),(11,(.cells [(.int .i64 r1),(.int .i64 x1),(.int .i64 y1)] 310 none false))]
noncomputable def gc_h(a b:Int)(r0 x0 y0 r1 x1 y1:Int)(jc:List Value)(j:List Value):AS:=⟨gc_h_f a b r0 x0 y0 r1 x1 y1 jc j,[],mkH 12 (gc_h_o a b r0 x0 y0 r1 x1 y1 jc)⟩
theorem gc_ina(a b:Int)(h0:a≠0):GT (z_daf_0 a b) (gc_h a b a (1:Int) (0:Int) b (0:Int) (1:Int) ([bF,bF,undef,undef]) [undef,undef,undef,undef,undef,undef,undef,undef,undef,undef,undef,undef]):=
 sR (sc:=[(10,.op (.rwB false)),(21,.stay)]) (by kernel_rfl) (aI (eF (a:=a) (b:=(0:Int)) (by omega)) tt)
theorem gc_inb(a b:Int)(h0:a=0)(h1:b≠0):GT (z_daf_0 a b) (gc_h a b a (1:Int) (0:Int) b (0:Int) (1:Int) ([bT,bT,(.int .i64 b),bF]) [undef,undef,undef,undef,undef,undef,undef,undef,undef,undef,undef,undef]):=
 sR (sc:=[(10,.op (.rwB true)),(2,.op (.rwB false)),(18,.stay)]) (by kernel_rfl) (aI (eT (a:=a) (b:=(0:Int)) (by omega)) (aI (eF (a:=b) (b:=(0:Int)) (by omega)) tt))
theorem gc_r(a b r0 x0 y0 r1 x1 y1:Int)(jc j:List Value)(h0:r1≠0)(hq:IntKind.wrap .i64 (Int.tdiv r0 r1)=Int.tdiv r0 r1)(p0 p1 p2:Int)(hc1:(FT 269 #[(z_daf_4 r0 x0 y0),(.int .i64 (Int.tdiv r0 r1)),(z_daf_2 r1 x1 y1)] 12 [] (.agg (z_daf_1 p0 p1 p2)) [] [])):GT (gc_h a b r0 x0 y0 r1 x1 y1 jc j) (gc_h a b r1 x1 y1 p0 p1 p2 ([(J jc 0),(J jc 1),(J jc 2),(J jc 3)]) [(pt 11),(.int .i64 r1),bT,(z_daf_2 r1 x1 y1),(z_daf_4 r0 x0 y0),(pt 10),(.int .i64 r0),(pt 11),(.int .i64 r1),(.int .i64 (Int.tdiv r0 r1)),(z_daf_2 r1 x1 y1),(.agg (z_daf_1 p0 p1 p2))]):=
 sR (sc:=[(5,.op (.rwB true)),(4,.drwM [(6,.div (Int.tdiv r0 r1))] [⟨8,[],(.agg (z_daf_1 p0 p1 p2)),[],[]⟩]),(2,.stay)]) (by kernel_rfl) (aI (nT (a:=r1) (b:=(0:Int)) (by omega)) (aI (aI tt (aI tt (aI tt (aI tt (aI tt (aI tt (aI (show r1≠0∧IntKind.wrap .i64 (Int.tdiv r0 r1)=(Int.tdiv r0 r1) from⟨h0,hq⟩) (aI tt (aI hc1 (aI tt (aI tt tt))))))))))) tt))
theorem gc_opz(a b r0 x0 y0 r1 x1 y1:Int)(jc j:List Value)(h0:r1=0)(h1: ¬r0<0)(h2:b=0)(hr:r0.natAbs<4000000000000000000∧x0.natAbs<4000000000000000000∧y0.natAbs<4000000000000000000∧x1.natAbs<4000000000000000000∧y1.natAbs<4000000000000000000)(hr:GT (z_daf_0 a b) (gc_h a b r0 x0 y0 r1 x1 y1 jc j)):CT 221 (z_daf_5 a b) (mkH 10 []) (.tuple #[(.int .i64 r0),(.int .i64 x0),(lI 0)]) (mkH 12 []):=
 sF (sc:=[(5,.op (.rwB false)),(8,.op (.rwB false)),(7,.op (.rwB true)),(3,.drw []),(1,.stay)]) (by kernel_rfl) (aI (nF (a:=r1) (b:=(0:Int)) (by omega)) (aI (dF (p:=r0<(0:Int)) (by omega)) (aI (eT (a:=b) (b:=(0:Int)) (by omega)) (aI (aI tt (aI tt (aI tt (aI tt (aI tt (aI tt (aI tt tt))))))) tt)))) hr
theorem gc_opp(a b r0 x0 y0 r1 x1 y1:Int)(jc j:List Value)(h0:r1=0)(h1: ¬r0<0)(h2:b≠0)(h3: ¬x1<0)(hr:r0.natAbs<4000000000000000000∧x0.natAbs<4000000000000000000∧y0.natAbs<4000000000000000000∧x1.natAbs<4000000000000000000∧y1.natAbs<4000000000000000000)(st sr:Int)(hc0:(FT 217 #[(.int .i64 x0),(.int .i64 x1)] 12 [] (z_daf_3 st sr) [] []))(p0 p1 p2:Int)(hc2:(FT 269 #[(z_daf_4 r0 x0 y0),(.int .i64 st),(z_daf_2 r1 x1 y1)] 12 [] (.agg (z_daf_1 p0 p1 p2)) [] []))(hr:GT (z_daf_0 a b) (gc_h a b r0 x0 y0 r1 x1 y1 jc j)):CT 221 (z_daf_5 a b) (mkH 10 []) (.tuple (z_daf_1 p0 p1 p2)) (mkH 12 []):=
 sF (sc:=[(5,.op (.rwB false)),(8,.op (.rwB false)),(7,.op (.rwB false)),(8,.op (.rwB false)),(9,.call [] (z_daf_3 st sr) [] []),(11,.call [] (.agg (z_daf_1 p0 p1 p2)) [] []),(3,.drw []),(1,.stay)]) (by kernel_rfl) (aI (nF (a:=r1) (b:=(0:Int)) (by omega)) (aI (dF (p:=r0<(0:Int)) (by omega)) (aI (eF (a:=b) (b:=(0:Int)) (by omega)) (aI (dF (p:=x1<(0:Int)) (by omega)) (aI hc0 (aI hc2 (aI (aI tt (aI tt (aI tt (aI tt (aI tt (aI tt (aI tt (aI tt (aI tt tt))))))))) tt))))))) hr
theorem gc_opn(a b r0 x0 y0 r1 x1 y1:Int)(jc j:List Value)(h0:r1=0)(h1: ¬r0<0)(h2:b≠0)(h3:x1<0)(hr:r0.natAbs<4000000000000000000∧x0.natAbs<4000000000000000000∧y0.natAbs<4000000000000000000∧x1.natAbs<4000000000000000000∧y1.natAbs<4000000000000000000)(st sr:Int)(hc0:(FT 217 #[(.int .i64 x0),(.int .i64 (-x1))] 14 [] (z_daf_3 st sr) [] []))(p0 p1 p2:Int)(hc2:(FT 269 #[(z_daf_4 r0 x0 y0),(.int .i64 st),(.agg #[(.int .i64 (-r1)),(.int .i64 (-x1)),(.int .i64 (-y1))])] 14 [] (.agg (z_daf_1 p0 p1 p2)) [] []))(hr:GT (z_daf_0 a b) (gc_h a b r0 x0 y0 r1 x1 y1 jc j)):CT 221 (z_daf_5 a b) (mkH 10 []) (.tuple (z_daf_1 p0 p1 p2)) (mkH 14 []):=
 sF (sc:=[(5,.op (.rwB false)),(8,.op (.rwB false)),(7,.op (.rwB false)),(8,.op (.rwB true)),(14,.op (.rwI (-r1))),(2,.op (.rwI (-x1))),(2,.op (.rwI (-y1))),(13,.call [] (z_daf_3 st sr) [] []),(11,.call [] (.agg (z_daf_1 p0 p1 p2)) [] []),(3,.drw []),(1,.stay)]) (by kernel_rfl) (aI (nF (a:=r1) (b:=(0:Int)) (by omega)) (aI (dF (p:=r0<(0:Int)) (by omega)) (aI (eF (a:=b) (b:=(0:Int)) (by omega)) (aI (dT (p:=x1<(0:Int)) (by omega)) (aI (show IntKind.wrap .i64 ((0:Int)-r1)=(-r1) from (by rw[wrap_i64 (by omega) (by omega)];try omega)) (aI (show IntKind.wrap .i64 ((0:Int)-x1)=(-x1) from (by rw[wrap_i64 (by omega) (by omega)];try omega)) (aI (show IntKind.wrap .i64 ((0:Int)-y1)=(-y1) from (by rw[wrap_i64 (by omega) (by omega)];try omega)) (aI hc0 (aI hc2 (aI (aI tt (aI tt (aI tt (aI tt (aI tt (aI tt (aI tt (aI tt (aI tt tt))))))))) tt)))))))))) hr
theorem gc_onz(a b r0 x0 y0 r1 x1 y1:Int)(jc j:List Value)(h0:r1=0)(h1:r0<0)(h2:b=0)(hr:r0.natAbs<4000000000000000000∧x0.natAbs<4000000000000000000∧y0.natAbs<4000000000000000000∧x1.natAbs<4000000000000000000∧y1.natAbs<4000000000000000000)(hr:GT (z_daf_0 a b) (gc_h a b r0 x0 y0 r1 x1 y1 jc j)):CT 221 (z_daf_5 a b) (mkH 10 []) (.tuple #[(.int .i64 (-r0)),(.int .i64 (-x0)),(lI 0)]) (mkH 14 []):=
 sF (sc:=[(5,.op (.rwB false)),(8,.op (.rwB true)),(14,.op (.rwI (-r0))),(2,.op (.rwI (-x0))),(2,.op (.rwI (-y0))),(11,.op (.rwB true)),(3,.drw []),(1,.stay)]) (by kernel_rfl) (aI (nF (a:=r1) (b:=(0:Int)) (by omega)) (aI (dT (p:=r0<(0:Int)) (by omega)) (aI (show IntKind.wrap .i64 ((0:Int)-r0)=(-r0) from (by rw[wrap_i64 (by omega) (by omega)];try omega)) (aI (show IntKind.wrap .i64 ((0:Int)-x0)=(-x0) from (by rw[wrap_i64 (by omega) (by omega)];try omega)) (aI (show IntKind.wrap .i64 ((0:Int)-y0)=(-y0) from (by rw[wrap_i64 (by omega) (by omega)];try omega)) (aI (eT (a:=b) (b:=(0:Int)) (by omega)) (aI (aI tt (aI tt (aI tt (aI tt (aI tt (aI tt (aI tt tt))))))) tt))))))) hr
theorem gc_onp(a b r0 x0 y0 r1 x1 y1:Int)(jc j:List Value)(h0:r1=0)(h1:r0<0)(h2:b≠0)(h3: ¬x1<0)(hr:r0.natAbs<4000000000000000000∧x0.natAbs<4000000000000000000∧y0.natAbs<4000000000000000000∧x1.natAbs<4000000000000000000∧y1.natAbs<4000000000000000000)(st sr:Int)(hc0:(FT 217 #[(.int .i64 (-x0)),(.int .i64 x1)] 14 [] (z_daf_3 st sr) [] []))(p0 p1 p2:Int)(hc2:(FT 269 #[(.agg #[(.int .i64 (-r0)),(.int .i64 (-x0)),(.int .i64 (-y0))]),(.int .i64 st),(z_daf_2 r1 x1 y1)] 14 [] (.agg (z_daf_1 p0 p1 p2)) [] []))(hr:GT (z_daf_0 a b) (gc_h a b r0 x0 y0 r1 x1 y1 jc j)):CT 221 (z_daf_5 a b) (mkH 10 []) (.tuple (z_daf_1 p0 p1 p2)) (mkH 14 []):=
 sF (sc:=[(5,.op (.rwB false)),(8,.op (.rwB true)),(14,.op (.rwI (-r0))),(2,.op (.rwI (-x0))),(2,.op (.rwI (-y0))),(11,.op (.rwB false)),(8,.op (.rwB false)),(9,.call [] (z_daf_3 st sr) [] []),(11,.call [] (.agg (z_daf_1 p0 p1 p2)) [] []),(3,.drw []),(1,.stay)]) (by kernel_rfl) (aI (nF (a:=r1) (b:=(0:Int)) (by omega)) (aI (dT (p:=r0<(0:Int)) (by omega)) (aI (show IntKind.wrap .i64 ((0:Int)-r0)=(-r0) from (by rw[wrap_i64 (by omega) (by omega)];try omega)) (aI (show IntKind.wrap .i64 ((0:Int)-x0)=(-x0) from (by rw[wrap_i64 (by omega) (by omega)];try omega)) (aI (show IntKind.wrap .i64 ((0:Int)-y0)=(-y0) from (by rw[wrap_i64 (by omega) (by omega)];try omega)) (aI (eF (a:=b) (b:=(0:Int)) (by omega)) (aI (dF (p:=x1<(0:Int)) (by omega)) (aI hc0 (aI hc2 (aI (aI tt (aI tt (aI tt (aI tt (aI tt (aI tt (aI tt (aI tt (aI tt tt))))))))) tt)))))))))) hr
theorem gc_onn(a b r0 x0 y0 r1 x1 y1:Int)(jc j:List Value)(h0:r1=0)(h1:r0<0)(h2:b≠0)(h3:x1<0)(hr:r0.natAbs<4000000000000000000∧x0.natAbs<4000000000000000000∧y0.natAbs<4000000000000000000∧x1.natAbs<4000000000000000000∧y1.natAbs<4000000000000000000)(st sr:Int)(hc0:(FT 217 #[(.int .i64 (-x0)),(.int .i64 (-x1))] 16 [] (z_daf_3 st sr) [] []))(p0 p1 p2:Int)(hc2:(FT 269 #[(.agg #[(.int .i64 (-r0)),(.int .i64 (-x0)),(.int .i64 (-y0))]),(.int .i64 st),(.agg #[(.int .i64 (-r1)),(.int .i64 (-x1)),(.int .i64 (-y1))])] 16 [] (.agg (z_daf_1 p0 p1 p2)) [] []))(hr:GT (z_daf_0 a b) (gc_h a b r0 x0 y0 r1 x1 y1 jc j)):CT 221 (z_daf_5 a b) (mkH 10 []) (.tuple (z_daf_1 p0 p1 p2)) (mkH 16 []):=
 sF (sc:=[(5,.op (.rwB false)),(8,.op (.rwB true)),(14,.op (.rwI (-r0))),(2,.op (.rwI (-x0))),(2,.op (.rwI (-y0))),(11,.op (.rwB false)),(8,.op (.rwB true)),(14,.op (.rwI (-r1))),(2,.op (.rwI (-x1))),(2,.op (.rwI (-y1))),(13,.call [] (z_daf_3 st sr) [] []),(11,.call [] (.agg (z_daf_1 p0 p1 p2)) [] []),(3,.drw []),(1,.stay)]) (by kernel_rfl) (aI (nF (a:=r1) (b:=(0:Int)) (by omega)) (aI (dT (p:=r0<(0:Int)) (by omega)) (aI (show IntKind.wrap .i64 ((0:Int)-r0)=(-r0) from (by rw[wrap_i64 (by omega) (by omega)];try omega)) (aI (show IntKind.wrap .i64 ((0:Int)-x0)=(-x0) from (by rw[wrap_i64 (by omega) (by omega)];try omega)) (aI (show IntKind.wrap .i64 ((0:Int)-y0)=(-y0) from (by rw[wrap_i64 (by omega) (by omega)];try omega)) (aI (eF (a:=b) (b:=(0:Int)) (by omega)) (aI (dT (p:=x1<(0:Int)) (by omega)) (aI (show IntKind.wrap .i64 ((0:Int)-r1)=(-r1) from (by rw[wrap_i64 (by omega) (by omega)];try omega)) (aI (show IntKind.wrap .i64 ((0:Int)-x1)=(-x1) from (by rw[wrap_i64 (by omega) (by omega)];try omega)) (aI (show IntKind.wrap .i64 ((0:Int)-y1)=(-y1) from (by rw[wrap_i64 (by omega) (by omega)];try omega)) (aI hc0 (aI hc2 (aI (aI tt (aI tt (aI tt (aI tt (aI tt (aI tt (aI tt (aI tt (aI tt tt))))))))) tt))))))))))))) hr
theorem iv_zero(s:Bool):iv s 0=0:=by cases s<;>rfl
theorem gc_loop{a b:Int}(ha:a.natAbs<1000000000000000000)(hb:b.natAbs<1000000000000000000): ∀(n R0 R1 X0 X1 Y0 Y1:Nat) (p:Bool) (jc j:List Value),R1≤n→EuI a.natAbs b.natAbs R0 R1 X0 X1 Y0 Y1 p→
  GT ⟨Frame.enter Tryz.prog 221 #[(.int .i64 a),(.int .i64 b)] .normal,[],mkH 10 []⟩ (gc_h a b (iv (cond p (decide (b<0)) (decide (a<0))) R0) (iv (cond p (!(xor (decide (a<0)) (decide (b<0)))) false) X0) (iv (cond p false (!(xor (decide (a<0)) (decide (b<0))))) Y0) (iv (cond p (decide (a<0)) (decide (b<0))) R1) (iv (cond p false (!(xor (decide (a<0)) (decide (b<0))))) X1) (iv (cond p (!(xor (decide (a<0)) (decide (b<0)))) false) Y1) jc j)→ ∃r0 x0 y0 x1 y1 jc j,EuE a b r0 x0 y0 x1 y1∧GT ⟨Frame.enter Tryz.prog 221 #[(.int .i64 a),(.int .i64 b)] .normal,[],mkH 10 []⟩ (gc_h a b r0 x0 y0 0 x1 y1 jc j):=by
 intro n
 induction n with
 |zero=>
  intro R0 R1 X0 X1 Y0 Y1 p jc j hn h hr
  obtain rfl:R1=0:=by omega
  rw[iv_zero]at hr
  exact⟨_,_,_,_,_,_,_,eu_end h,hr⟩
 |succ n ih=>
  intro R0 R1 X0 X1 Y0 Y1 p jc j hn h hr
  rcases Nat.eq_zero_or_pos R1 with h1|h1
  ·subst h1
   rw[iv_zero]at hr
   exact⟨_,_,_,_,_,_,_,eu_end h,hr⟩
  have B:=eu_bounds h h1
  have S:=eu_step h h1
  have hlt:=Nat.mod_lt R0 h1
  have hdl:=Nat.div_le_self R0 R1
  have T:=ls_c 12 (iv (cond p (decide (b<0)) (decide (a<0))) R0) (iv (cond p (!(xor (decide (a<0)) (decide (b<0)))) false) X0) (iv (cond p false (!(xor (decide (a<0)) (decide (b<0))))) Y0) (iv (xor (decide (a<0)) (decide (b<0))) (R0/R1)) (iv (cond p (decide (a<0)) (decide (b<0))) R1) (iv (cond p false (!(xor (decide (a<0)) (decide (b<0))))) X1) (iv (cond p (!(xor (decide (a<0)) (decide (b<0)))) false) Y1) (by omega)
   (by rw[iv_mul_abs,iv_nat];omega) (by rw[iv_mul_abs,iv_nat];omega) (by rw[iv_mul_abs,iv_nat];omega)
  rw[iv_xor_r,iv_xor_x,iv_xor_y]at T
  have r1:=gc_r a b (iv (cond p (decide (b<0)) (decide (a<0))) R0) (iv (cond p (!(xor (decide (a<0)) (decide (b<0)))) false) X0) (iv (cond p false (!(xor (decide (a<0)) (decide (b<0))))) Y0) (iv (cond p (decide (a<0)) (decide (b<0))) R1) (iv (cond p false (!(xor (decide (a<0)) (decide (b<0))))) X1) (iv (cond p (!(xor (decide (a<0)) (decide (b<0)))) false) Y1) jc j (by have:=iv_nat (cond p (decide (a<0)) (decide (b<0))) R1;omega) (by rw[iv_xor_q];exact wrap_i64 (by have:=iv_nat (xor (decide (a<0)) (decide (b<0))) (R0/R1);omega) (by have:=iv_nat (xor (decide (a<0)) (decide (b<0))) (R0/R1);omega)) _ _ _ (by rw[iv_xor_q];exact T)
  have e1: ∀(x y:Bool),cond (!p) x y=cond p y x:=fun x y=>by cases p<;>rfl
  have r2:=hr.trans r1
  simp only[←e1]at r2
  exact ih R1 (R0%R1) X1 (X0+R0/R1*X1) Y1 (Y0+R0/R1*Y1) (!p) _ _ (by omega) S r2
set_option maxHeartbeats 2000000 in
theorem gc_epz{a b r0 x0 y0 x1 y1:Int}{jc j:List Value}(n0:Nat)(hG:10≤n0)(ha:a.natAbs<1000000000000000000)(hb:b.natAbs<1000000000000000000)(h00: ¬(a=0∧b=0))(E:EuE a b r0 x0 y0 x1 y1)(hr:GT ⟨Frame.enter Tryz.prog 221 #[(.int .i64 a),(.int .i64 b)] .normal,[],mkH 10 []⟩ (gc_h a b r0 x0 y0 0 x1 y1 jc j))(hneg: ¬r0<0)(hb0:b=0): ∃g x y:Int,GcdR a b g x y∧(g.natAbs<4000000000000000000∧x.natAbs<4000000000000000000∧y.natAbs<4000000000000000000)∧FT 221 #[(.int .i64 a),(.int .i64 b)] n0 [] (.tuple #[.int .i64 g,.int .i64 x,.int .i64 y]) [] []:=by
 obtain⟨e0,e1,e2,e3,e4,e5,e6⟩:=E
 have hg0:0<Nat.gcd a.natAbs b.natAbs:=Nat.gcd_pos_iff.2 (by omega)
 have l3:=le_of_mul_pos e3 (by omega)
 have l4:=le_of_mul_pos e4 (by omega)
 have e5':=e5 hb0
 have hga:Nat.gcd a.natAbs b.natAbs≤a.natAbs:=Nat.gcd_le_left _ (by omega)
 have Z:=gc_opz a b r0 x0 y0 0 x1 y1 jc j rfl hneg hb0 ⟨by omega,by omega,by omega,by omega,by omega⟩ hr
 refine⟨_,_,_,⟨by omega,?_,fun _=>⟨rfl,by omega⟩,fun h=>absurd hb0 h⟩,by omega,fsp_flat [] [] [] [] [] n0 Z rfl rfl rfl (by simp) (by simp) hG rfl rfl rfl (by simp) (by simp) rfl rfl rfl⟩
 rw[hb0,Int.zero_mul,Int.add_zero]at e1
 rw[Int.mul_zero,Int.add_zero,e1]
set_option maxHeartbeats 2000000 in
theorem gc_epp{a b r0 x0 y0 x1 y1:Int}{jc j:List Value}(n0:Nat)(hG:10≤n0)(ha:a.natAbs<1000000000000000000)(hb:b.natAbs<1000000000000000000)(h00: ¬(a=0∧b=0))(E:EuE a b r0 x0 y0 x1 y1)(hr:GT ⟨Frame.enter Tryz.prog 221 #[(.int .i64 a),(.int .i64 b)] .normal,[],mkH 10 []⟩ (gc_h a b r0 x0 y0 0 x1 y1 jc j))(hneg: ¬r0<0)(hb0:b≠0)(hx1: ¬x1<0): ∃g x y:Int,GcdR a b g x y∧(g.natAbs<4000000000000000000∧x.natAbs<4000000000000000000∧y.natAbs<4000000000000000000)∧FT 221 #[(.int .i64 a),(.int .i64 b)] n0 [] (.tuple #[.int .i64 g,.int .i64 x,.int .i64 y]) [] []:=by
 obtain⟨e0,e1,e2,e3,e4,e5,e6⟩:=E
 have hg0:0<Nat.gcd a.natAbs b.natAbs:=Nat.gcd_pos_iff.2 (by omega)
 have l3:=le_of_mul_pos e3 (by omega)
 have l4:=le_of_mul_pos e4 (by omega)
 have e6':=e6 hb0
 have hgb:Nat.gcd a.natAbs b.natAbs≤b.natAbs:=Nat.gcd_le_right _ (by omega)
 have hx10:x1≠0:=fun h=>by
  rw[h]at e3
  simp at e3
  omega
 have hn:0<x1:=by omega
 have h1':a*x0+b*y0=r0:=by exact e1
 have h2':a*x1+b*y1=0:=by exact e2
 have h3':x1*r0=b.natAbs:=by
  rw[←e3,Int.natCast_mul]
  congr 1<;>omega
 have hu:=fl_unit hn (x:=x0) (by omega)
 have m0:=mul_unit (n:=0) hu
 have m1:=mul_unit (n:=x1) hu
 have m2:=mul_unit (n:=y1) hu
 have T:=sfl_c 12 x0 x1 (by omega) (by omega) (by omega) (by omega)
 have L:=ls_c 12 r0 x0 y0 (flQ x0 x1) 0 x1 y1 (by omega) ⟨by omega,by omega⟩ ⟨by omega,by omega⟩ ⟨by omega,by omega⟩
 have Z:=gc_opp a b r0 x0 y0 0 x1 y1 jc j rfl hneg hb0 hx1 ⟨by omega,by omega,by omega,by omega,by omega⟩ _ _ T _ _ _ L hr
 refine⟨_,_,_,?_,?_,fsp_flat [] [] [] [] [] n0 Z rfl rfl rfl (by simp) (by simp) hG rfl rfl rfl (by simp) (by simp) rfl rfl rfl⟩
 ·rw[Int.mul_zero,Int.sub_zero]
  exact eu_gcd (by omega) hb0 h1' h2' h3' hn
 ·omega
set_option maxHeartbeats 2000000 in
theorem gc_epn{a b r0 x0 y0 x1 y1:Int}{jc j:List Value}(n0:Nat)(hG:10≤n0)(ha:a.natAbs<1000000000000000000)(hb:b.natAbs<1000000000000000000)(h00: ¬(a=0∧b=0))(E:EuE a b r0 x0 y0 x1 y1)(hr:GT ⟨Frame.enter Tryz.prog 221 #[(.int .i64 a),(.int .i64 b)] .normal,[],mkH 10 []⟩ (gc_h a b r0 x0 y0 0 x1 y1 jc j))(hneg: ¬r0<0)(hb0:b≠0)(hx1:x1<0): ∃g x y:Int,GcdR a b g x y∧(g.natAbs<4000000000000000000∧x.natAbs<4000000000000000000∧y.natAbs<4000000000000000000)∧FT 221 #[(.int .i64 a),(.int .i64 b)] n0 [] (.tuple #[.int .i64 g,.int .i64 x,.int .i64 y]) [] []:=by
 obtain⟨e0,e1,e2,e3,e4,e5,e6⟩:=E
 have hg0:0<Nat.gcd a.natAbs b.natAbs:=Nat.gcd_pos_iff.2 (by omega)
 have l3:=le_of_mul_pos e3 (by omega)
 have l4:=le_of_mul_pos e4 (by omega)
 have e6':=e6 hb0
 have hgb:Nat.gcd a.natAbs b.natAbs≤b.natAbs:=Nat.gcd_le_right _ (by omega)
 have hx10:x1≠0:=fun h=>by
  rw[h]at e3
  simp at e3
  omega
 have hn:0<(-x1):=by omega
 have h1':a*x0+b*y0=r0:=by exact e1
 have h2':a*(-x1)+b*(-y1)=0:=by rw[Int.mul_neg,Int.mul_neg];omega
 have h3':(-x1)*r0=b.natAbs:=by
  rw[←e3,Int.natCast_mul]
  congr 1<;>omega
 have hu:=fl_unit hn (x:=x0) (by omega)
 have m0:=mul_unit (n:=(-(0:Int))) hu
 have m1:=mul_unit (n:=(-x1)) hu
 have m2:=mul_unit (n:=(-y1)) hu
 have T:=sfl_c 14 x0 (-x1) (by omega) (by omega) (by omega) (by omega)
 have L:=ls_c 14 r0 x0 y0 (flQ x0 (-x1)) (-(0:Int)) (-x1) (-y1) (by omega) ⟨by omega,by omega⟩ ⟨by omega,by omega⟩ ⟨by omega,by omega⟩
 have Z:=gc_opn a b r0 x0 y0 0 x1 y1 jc j rfl hneg hb0 hx1 ⟨by omega,by omega,by omega,by omega,by omega⟩ _ _ T _ _ _ L hr
 refine⟨_,_,_,?_,?_,fsp_flat [] [] [] [] [] n0 Z rfl rfl rfl (by simp) (by simp) hG rfl rfl rfl (by simp) (by simp) rfl rfl rfl⟩
 ·rw[Int.neg_zero,Int.mul_zero,Int.sub_zero]
  exact eu_gcd (by omega) hb0 h1' h2' h3' hn
 ·omega
set_option maxHeartbeats 2000000 in
theorem gc_enz{a b r0 x0 y0 x1 y1:Int}{jc j:List Value}(n0:Nat)(hG:10≤n0)(ha:a.natAbs<1000000000000000000)(hb:b.natAbs<1000000000000000000)(h00: ¬(a=0∧b=0))(E:EuE a b r0 x0 y0 x1 y1)(hr:GT ⟨Frame.enter Tryz.prog 221 #[(.int .i64 a),(.int .i64 b)] .normal,[],mkH 10 []⟩ (gc_h a b r0 x0 y0 0 x1 y1 jc j))(hneg:r0<0)(hb0:b=0): ∃g x y:Int,GcdR a b g x y∧(g.natAbs<4000000000000000000∧x.natAbs<4000000000000000000∧y.natAbs<4000000000000000000)∧FT 221 #[(.int .i64 a),(.int .i64 b)] n0 [] (.tuple #[.int .i64 g,.int .i64 x,.int .i64 y]) [] []:=by
 obtain⟨e0,e1,e2,e3,e4,e5,e6⟩:=E
 have hg0:0<Nat.gcd a.natAbs b.natAbs:=Nat.gcd_pos_iff.2 (by omega)
 have l3:=le_of_mul_pos e3 (by omega)
 have l4:=le_of_mul_pos e4 (by omega)
 have e5':=e5 hb0
 have hga:Nat.gcd a.natAbs b.natAbs≤a.natAbs:=Nat.gcd_le_left _ (by omega)
 have Z:=gc_onz a b r0 x0 y0 0 x1 y1 jc j rfl hneg hb0 ⟨by omega,by omega,by omega,by omega,by omega⟩ hr
 refine⟨_,_,_,⟨by omega,?_,fun _=>⟨rfl,by omega⟩,fun h=>absurd hb0 h⟩,by omega,fsp_flat [] [] [] [] [] n0 Z rfl rfl rfl (by simp) (by simp) hG rfl rfl rfl (by simp) (by simp) rfl rfl rfl⟩
 rw[hb0,Int.zero_mul,Int.add_zero]at e1
 rw[Int.mul_neg,Int.mul_zero,Int.add_zero,e1]
set_option maxHeartbeats 2000000 in
theorem gc_enp{a b r0 x0 y0 x1 y1:Int}{jc j:List Value}(n0:Nat)(hG:10≤n0)(ha:a.natAbs<1000000000000000000)(hb:b.natAbs<1000000000000000000)(h00: ¬(a=0∧b=0))(E:EuE a b r0 x0 y0 x1 y1)(hr:GT ⟨Frame.enter Tryz.prog 221 #[(.int .i64 a),(.int .i64 b)] .normal,[],mkH 10 []⟩ (gc_h a b r0 x0 y0 0 x1 y1 jc j))(hneg:r0<0)(hb0:b≠0)(hx1: ¬x1<0): ∃g x y:Int,GcdR a b g x y∧(g.natAbs<4000000000000000000∧x.natAbs<4000000000000000000∧y.natAbs<4000000000000000000)∧FT 221 #[(.int .i64 a),(.int .i64 b)] n0 [] (.tuple #[.int .i64 g,.int .i64 x,.int .i64 y]) [] []:=by
 obtain⟨e0,e1,e2,e3,e4,e5,e6⟩:=E
 have hg0:0<Nat.gcd a.natAbs b.natAbs:=Nat.gcd_pos_iff.2 (by omega)
 have l3:=le_of_mul_pos e3 (by omega)
 have l4:=le_of_mul_pos e4 (by omega)
 have e6':=e6 hb0
 have hgb:Nat.gcd a.natAbs b.natAbs≤b.natAbs:=Nat.gcd_le_right _ (by omega)
 have hx10:x1≠0:=fun h=>by
  rw[h]at e3
  simp at e3
  omega
 have hn:0<x1:=by omega
 have h1':a*(-x0)+b*(-y0)=(-r0):=by rw[Int.mul_neg,Int.mul_neg,←e1];omega
 have h2':a*x1+b*y1=0:=by exact e2
 have h3':x1*(-r0)=b.natAbs:=by
  rw[←e3,Int.natCast_mul]
  congr 1<;>omega
 have hu:=fl_unit hn (x:=(-x0)) (by omega)
 have m0:=mul_unit (n:=0) hu
 have m1:=mul_unit (n:=x1) hu
 have m2:=mul_unit (n:=y1) hu
 have T:=sfl_c 14 (-x0) x1 (by omega) (by omega) (by omega) (by omega)
 have L:=ls_c 14 (-r0) (-x0) (-y0) (flQ (-x0) x1) 0 x1 y1 (by omega) ⟨by omega,by omega⟩ ⟨by omega,by omega⟩ ⟨by omega,by omega⟩
 have Z:=gc_onp a b r0 x0 y0 0 x1 y1 jc j rfl hneg hb0 hx1 ⟨by omega,by omega,by omega,by omega,by omega⟩ _ _ T _ _ _ L hr
 refine⟨_,_,_,?_,?_,fsp_flat [] [] [] [] [] n0 Z rfl rfl rfl (by simp) (by simp) hG rfl rfl rfl (by simp) (by simp) rfl rfl rfl⟩
 ·rw[Int.mul_zero,Int.sub_zero]
  exact eu_gcd (by omega) hb0 h1' h2' h3' hn
 ·omega
set_option maxHeartbeats 2000000 in
theorem gc_enn{a b r0 x0 y0 x1 y1:Int}{jc j:List Value}(n0:Nat)(hG:10≤n0)(ha:a.natAbs<1000000000000000000)(hb:b.natAbs<1000000000000000000)(h00: ¬(a=0∧b=0))(E:EuE a b r0 x0 y0 x1 y1)(hr:GT ⟨Frame.enter Tryz.prog 221 #[(.int .i64 a),(.int .i64 b)] .normal,[],mkH 10 []⟩ (gc_h a b r0 x0 y0 0 x1 y1 jc j))(hneg:r0<0)(hb0:b≠0)(hx1:x1<0): ∃g x y:Int,GcdR a b g x y∧(g.natAbs<4000000000000000000∧x.natAbs<4000000000000000000∧y.natAbs<4000000000000000000)∧FT 221 #[(.int .i64 a),(.int .i64 b)] n0 [] (.tuple #[.int .i64 g,.int .i64 x,.int .i64 y]) [] []:=by
 obtain⟨e0,e1,e2,e3,e4,e5,e6⟩:=E
 have hg0:0<Nat.gcd a.natAbs b.natAbs:=Nat.gcd_pos_iff.2 (by omega)
 have l3:=le_of_mul_pos e3 (by omega)
 have l4:=le_of_mul_pos e4 (by omega)
 have e6':=e6 hb0
 have hgb:Nat.gcd a.natAbs b.natAbs≤b.natAbs:=Nat.gcd_le_right _ (by omega)
 have hx10:x1≠0:=fun h=>by
  rw[h]at e3
  simp at e3
  omega
 have hn:0<(-x1):=by omega
 have h1':a*(-x0)+b*(-y0)=(-r0):=by rw[Int.mul_neg,Int.mul_neg,←e1];omega
 have h2':a*(-x1)+b*(-y1)=0:=by rw[Int.mul_neg,Int.mul_neg];omega
 have h3':(-x1)*(-r0)=b.natAbs:=by
  rw[←e3,Int.natCast_mul]
  congr 1<;>omega
 have hu:=fl_unit hn (x:=(-x0)) (by omega)
 have m0:=mul_unit (n:=(-(0:Int))) hu
 have m1:=mul_unit (n:=(-x1)) hu
 have m2:=mul_unit (n:=(-y1)) hu
 have T:=sfl_c 16 (-x0) (-x1) (by omega) (by omega) (by omega) (by omega)
 have L:=ls_c 16 (-r0) (-x0) (-y0) (flQ (-x0) (-x1)) (-(0:Int)) (-x1) (-y1) (by omega) ⟨by omega,by omega⟩ ⟨by omega,by omega⟩ ⟨by omega,by omega⟩
 have Z:=gc_onn a b r0 x0 y0 0 x1 y1 jc j rfl hneg hb0 hx1 ⟨by omega,by omega,by omega,by omega,by omega⟩ _ _ T _ _ _ L hr
 refine⟨_,_,_,?_,?_,fsp_flat [] [] [] [] [] n0 Z rfl rfl rfl (by simp) (by simp) hG rfl rfl rfl (by simp) (by simp) rfl rfl rfl⟩
 ·rw[Int.neg_zero,Int.mul_zero,Int.sub_zero]
  exact eu_gcd (by omega) hb0 h1' h2' h3' hn
 ·omega
theorem gc_c(n0:Nat)(a b:Int)(hG:10≤n0)(ha:a.natAbs<1000000000000000000)(hb:b.natAbs<1000000000000000000): ∃g x y:Int,GcdR a b g x y∧(g.natAbs<4000000000000000000∧x.natAbs<4000000000000000000∧y.natAbs<4000000000000000000)∧FT 221 #[(.int .i64 a),(.int .i64 b)] n0 [] (.tuple #[.int .i64 g,.int .i64 x,.int .i64 y]) [] []:=by
 by_cases h00:a=0∧b=0
 ·obtain⟨rfl,rfl⟩:=h00
  exact⟨0,0,0,gcdR_zero,by decide,fsp_flat [] [] [] [] [] n0 (gc_z 0 0 rfl rfl) rfl rfl rfl (by simp) (by simp) hG rfl rfl rfl (by simp) (by simp) rfl rfl rfl⟩
 obtain⟨r0,x0,y0,x1,y1,jc,j,E,hr⟩: ∃r0 x0 y0 x1 y1 jc j,EuE a b r0 x0 y0 x1 y1∧GT ⟨Frame.enter Tryz.prog 221 #[(.int .i64 a),(.int .i64 b)] .normal,[],mkH 10 []⟩ (gc_h a b r0 x0 y0 0 x1 y1 jc j):=by
  have hs:=eu_start a.natAbs b.natAbs
  have ea:iv (decide (a<0)) a.natAbs=a:=(iv_sign a).symm
  have eb:iv (decide (b<0)) b.natAbs=b:=(iv_sign b).symm
  have L:=fun jc j=>gc_loop ha hb b.natAbs a.natAbs b.natAbs 1 0 0 1 false jc j (Nat.le_refl _) hs
  simp only[cond_false,ea,eb,iv_zero,iv_f]at L
  by_cases h0:a=0
  ·exact L _ _ (gc_inb a b h0 (by omega))
  ·exact L _ _ (gc_ina a b h0)
 by_cases hb0:b=0
 ·by_cases hneg:r0<0
  ·exact gc_enz n0 hG ha hb h00 E hr hneg hb0
  ·exact gc_epz n0 hG ha hb h00 E hr hneg hb0
 ·by_cases hneg:r0<0<;>by_cases hx1:x1<0
  ·exact gc_enn n0 hG ha hb h00 E hr hneg hb0 hx1
  ·exact gc_enp n0 hG ha hb h00 E hr hneg hb0 hx1
  ·exact gc_epn n0 hG ha hb h00 E hr hneg hb0 hx1
  ·exact gc_epp n0 hG ha hb h00 E hr hneg hb0 hx1
theorem Gcd_o(a b:Int)(hka: ∀n0,10≤n0→FT 208 #[.string (istr a)] n0 [] (lI 2) [] [])(hkb: ∀n0,10≤n0→FT 208 #[.string (istr b)] n0 [] (lI 2) [] [])(hsa: ∀n0,10≤n0→FT 211 #[.string (istr a)] n0 [] (.int .i64 a) [] [])(hsb: ∀n0,10≤n0→FT 211 #[.string (istr b)] n0 [] (.int .i64 b) [] [])(g x y:Int)(hrg:g.natAbs<4000000000000000000∧x.natAbs<4000000000000000000∧y.natAbs<4000000000000000000)(hc1:(FT 221 (z_daf_5 a b) 17 [] (.tuple #[(.int .i64 g),(.int .i64 x),(.int .i64 y)]) [] [])):CT 118 #[(.string (istr a)),(.string (istr b))] (mkH 10 [(3,gob1)]) (.tuple #[(.string (istr g)),(.string (istr x)),(.string (istr y)),(lI 0)]) (mkH 18 [(3,gob1)]):=
 sF (sc:=[(82,.call [] (lI 2) [] []),(52,.call [] (lI 2) [] []),(54,.call [] (.int .i64 a) [] []),(1,.call [] (.int .i64 b) [] []),(0,.call [] (.tuple #[(.int .i64 g),(.int .i64 x),(.int .i64 y)]) [] []),(19,.call [3] (.string (istr g)) [] []),(13,.call [3] (.string (istr x)) [] []),(13,.call [3] (.string (istr y)) [] []),(41,.drw []),(1,.stay)]) (by kernel_rfl) (aI (hka 17 (by omega)) (aI (hkb 17 (by omega)) (aI (hsa 17 (by omega)) (aI (hsb 17 (by omega)) (aI hc1 (aI (fmt_c 17 g (by omega) (by omega)) (aI (fmt_c 17 x (by omega) (by omega)) (aI (fmt_c 17 y (by omega) (by omega)) (aI (aI tt (aI tt (aI tt (aI tt (aI tt (aI tt (aI tt (aI tt (aI tt (aI tt (aI tt tt))))))))))) tt))))))))) (Gets.refl _)
theorem Gcd_s(a b:Int)(ha:a.natAbs<1000000000000000000)(hb:b.natAbs<1000000000000000000): ∃g x y:Int,GcdR a b g x y∧(g.natAbs<4000000000000000000∧x.natAbs<4000000000000000000∧y.natAbs<4000000000000000000)∧ ∀n0,10≤n0→FT 118 #[(.string (istr a)),(.string (istr b))] n0 [(3,gob1)] (.tuple #[.string (istr g),.string (istr x),.string (istr y),.int .i64 (.ofNat 0)]) [] []:=by
 obtain⟨g,x,y,h1,h2,T⟩:=gc_c 17 a b (by omega) ha hb
 refine⟨g,x,y,h1,h2,fun n0 hG=> ?_⟩
 have S:=Gcd_o a b (fun n0 h=>kis_i n0 a h (sh18 ha)) (fun n0 h=>kis_i n0 b h (sh18 hb)) (fun n0 h=>sm_i n0 a h (sh18 ha)) (fun n0 h=>sm_i n0 b h (sh18 hb)) g x y h2 T
 exact fsp_keep (L:=[(3,gob1)]) (fsp_glob [(3,gob1)] [] [] [] [] [] n0 S (by decide+kernel) (by rfl) rfl (by rfl) rfl (by simp) (by simp) hG rfl rfl rfl (by simp) (by simp) rfl rfl rfl)
noncomputable section
abbrev z_35e_0(a b:Int):Array Value:= #[(.string (istr a)),(.string (istr b))]
end
theorem byte_no45{d:Nat}(h:d<10):((((UInt8.ofNat (48+d)).toNat:Nat):Int)==(45:Int))=false:=by
 rw[byte_nat h,beq_eq_false_iff_ne];omega
theorem byte_45:((((UInt8.ofNat 45).toNat:Nat):Int)==(45:Int))=true:=by decide
theorem mstr_get0(ds:List Nat):(mstr ds)[0]? =some (UInt8.ofNat 45):=by
 have h:0<(mstr ds).size:=by rw[mstr_size];omega
 rw[getElem?_pos (mstr ds) 0 h]
 rfl
theorem istr_eq{x y:Int}(h:istr x=istr y):x=y:=istr_inj (by rw[h])
theorem txt1F{b:Int}(h:b≠1):((istr b).toList==(bts [49]).toList)=false:=by rw[←istr_one];exact txt_eqF h
theorem txt1T{b:Int}(h:b=1):((istr b).toList==(bts [49]).toList)=true:=by rw[←istr_one];exact txt_eqT h
theorem txt1N{b:Int}(h:b=1):(!((istr b).toList==(bts [49]).toList))=false:=by rw[txt1T h];rfl
theorem txt1M{b:Int}(h:b≠1):(!((istr b).toList==(bts [49]).toList))=true:=by rw[txt1F h];rfl
theorem istr_size(z:Int)(h:z.natAbs<1000000000000000000):(istr z).size≤19:=by
 have h1:=sh18 h
 rcases int_cases z with⟨n,rfl,hm⟩|⟨n,h0,rfl,hm⟩
 ·rw[hm]at h1;rw[istr_nn,dstr_size];omega
 ·rw[hm]at h1;rw[istr_neg h0,mstr_size];omega
theorem max_if(a b:Nat):(if ((b:Nat):Int)>((a:Nat):Int) then ((b:Nat):Int) else ((a:Nat):Int))=((max a b:Nat):Int):=by split<;>omega
theorem max_lt{p q:Int}(hp:p.natAbs<1000000000000000000)(hq:q.natAbs<1000000000000000000):decide (((max (istr p).size (istr q).size:Nat):Int)<(200:Int))=true:=by
 have h1:=istr_size p hp
 have h2:=istr_size q hq
 rw[decide_eq_true_eq];omega
theorem ng_p(ds:List Nat)(d:Nat)(hd:d<10)(hx:(dstr ds)[0]? =some (UInt8.ofNat (48+d))):CT 101 #[(.string (dstr ds))] (mkH 10 []) bF (mkH 10 []):=
 sF (sc:=[(7,.op (.sidx (UInt8.ofNat (48+d)))),(0,.op (.rwB false)),(3,.stay)]) (by kernel_rfl) (aI (show 0≤(0:Int)∧(dstr ds)[Int.toNat (0:Int)]? =some (UInt8.ofNat (48+d)) from⟨by omega,hx⟩) (aI (show ((((UInt8.ofNat (48+d)).toNat:Nat):Int)==(45:Int))=false from (byte_no45 hd)) tt)) (Gets.refl _)
theorem ng_pc(n0:Nat)(ds:List Nat)(hG:10≤n0)(hd:Dig ds)(h0:0<ds.length):FT 101 #[.string (dstr ds)] n0 [] bF [] []:=fsp_flat [] [] [] [] [] n0 (ng_p ds _ (hd.get 0) (dstr_get h0)) rfl rfl rfl (by simp) (by simp) hG rfl rfl rfl (by simp) (by simp) rfl rfl rfl
theorem ng_f(n0:Nat)(z:Int)(hG:10≤n0)(hz: ¬z<0):FT 101 #[.string (istr z)] n0 [] bF [] []:=by
 rcases int_cases z with⟨n,rfl,hm⟩|⟨n,h0,rfl,hm⟩
 ·rw[istr_nn];exact ng_pc n0 _ hG (digs_dig n) (digs_len_pos n)
 ·omega
theorem dv_1(a g:Int)(h1:g=1):CT 68 #[(.string (istr a)),(.string (istr g))] (mkH 10 [(3,gob1)]) (.string (istr a)) (mkH 10 [(3,gob1)]):=
 sF (sc:=[(8,.op (.rwB true)),(8,.stay)]) (by kernel_rfl) (aI (show ((istr g).toList==(bts [49]).toList)=true from (txt1T h1)) tt) (Gets.refl _)
theorem dv_n(a g:Int)(h1:g≠1)(hg:0<g)(ha:a.natAbs<1000000000000000000)(hb:g.natAbs<1000000000000000000):CT 68 #[(.string (istr a)),(.string (istr g))] (mkH 10 [(3,gob1)]) (.string (istr (flQ a g))) (mkH 10 [(3,gob1)]):=
 sF (sc:=[(8,.op (.rwB false)),(17,.call [3] (.tuple #[(.string (istr (flQ a g))),(.string (istr (flR a g))),(lI 0)]) [] []),(56,.stay)]) (by kernel_rfl) (aI (show ((istr g).toList==(bts [49]).toList)=false from (txt1F h1)) (aI (Floor_s 10 a g (by omega) (by omega) (by omega) (by omega)) tt)) (Gets.refl _)
theorem dv_c(n0:Nat)(a g:Int)(hG:10≤n0)(hg:0<g)(hd:g∣a)(ha:a.natAbs<1000000000000000000)(hb:g.natAbs<1000000000000000000):FT 68 #[(.string (istr a)),(.string (istr g))] n0 [(3,gob1)] (.string (istr (a/g))) [] []:=by
 by_cases h1:g=1
 ·subst h1
  rw[Int.ediv_one]
  exact fsp_keep (L:=[(3,gob1)]) (fsp_glob [(3,gob1)] [] [] [] [] [] n0 (dv_1 a 1 rfl) (by decide+kernel) (by rfl) rfl (by rfl) rfl (by simp) (by simp) hG rfl rfl rfl (by simp) (by simp) rfl rfl rfl)
 ·rw[←ediv_of_fl hg hd]
  exact fsp_keep (L:=[(3,gob1)]) (fsp_glob [(3,gob1)] [] [] [] [] [] n0 (dv_n a g h1 hg ha hb) (by decide+kernel) (by rfl) rfl (by rfl) rfl (by simp) (by simp) hG rfl rfl rfl (by simp) (by simp) rfl rfl rfl)
theorem rg_o(a b:Int)(g x y:Int)(hc1:(FT 118 (z_35e_0 a b) 10 [(3,gob1)] (.tuple #[(.string (istr g)),(.string (istr x)),(.string (istr y)),(lI 0)]) [] [])):CT 65 (z_35e_0 a b) (mkH 10 [(3,gob1)]) (.string (istr g)) (mkH 10 [(3,gob1)]):=
 sF (sc:=[(8,.call [3] (.tuple #[(.string (istr g)),(.string (istr x)),(.string (istr y)),(lI 0)]) [] []),(43,.stay)]) (by kernel_rfl) (aI hc1 tt) (Gets.refl _)
theorem rg_c(n0:Nat)(a b:Int)(hG:10≤n0)(ha:a.natAbs<1000000000000000000)(hb:b.natAbs<1000000000000000000):FT 65 #[(.string (istr a)),(.string (istr b))] n0 [(3,gob1)] (.string (istr ((Nat.gcd a.natAbs b.natAbs:Nat):Int))) [] []:=by
 obtain⟨g,x,y,h1,h2,T⟩:=Gcd_s a b ha hb
 rw[←h1.1]
 exact fsp_keep (L:=[(3,gob1)]) (fsp_glob [(3,gob1)] [] [] [] [] [] n0 (rg_o a b g x y (T _ (by omega))) (by decide+kernel) (by rfl) rfl (by rfl) rfl (by simp) (by simp) hG rfl rfl rfl (by simp) (by simp) rfl rfl rfl)
theorem mu_o(a b:Int)(ha:a.natAbs<1000000000000000000)(hb:b.natAbs<1000000000000000000)(hp:(a*b).natAbs<9000000000000000000):CT 60 (z_35e_0 a b) (mkH 10 [(3,gob1)]) (.string (istr (a*b))) (mkH 10 [(3,gob1)]):=
 sF (sc:=[(8,.call [3] (.tuple #[(.string (istr (a*b))),(lI 0)]) [] []),(31,.stay)]) (by kernel_rfl) (aI (Mul_s 10 a b (by omega) ha hb hp) tt) (Gets.refl _)
theorem mu_c(n0:Nat)(a b:Int)(hG:10≤n0)(ha:a.natAbs<1000000000000000000)(hb:b.natAbs<1000000000000000000)(hp:(a*b).natAbs<9000000000000000000):FT 60 #[(.string (istr a)),(.string (istr b))] n0 [(3,gob1)] (.string (istr (a*b))) [] []:=fsp_keep (L:=[(3,gob1)]) (fsp_glob [(3,gob1)] [] [] [] [] [] n0 (mu_o a b ha hb hp) (by decide+kernel) (by rfl) rfl (by rfl) rfl (by simp) (by simp) hG rfl rfl rfl (by simp) (by simp) rfl rfl rfl)
theorem ad_o(a b:Int)(ha:a.natAbs<1000000000000000000)(hb:b.natAbs<1000000000000000000):CT 59 (z_35e_0 a b) (mkH 10 [(3,gob1)]) (.string (istr (a+b))) (mkH 10 [(3,gob1)]):=
 sF (sc:=[(8,.call [3] (.tuple #[(.string (istr (a+b))),(lI 0)]) [] []),(31,.stay)]) (by kernel_rfl) (aI (Add_s 10 a b (by omega) ha hb) tt) (Gets.refl _)
theorem ad_c(n0:Nat)(a b:Int)(hG:10≤n0)(ha:a.natAbs<1000000000000000000)(hb:b.natAbs<1000000000000000000):FT 59 #[(.string (istr a)),(.string (istr b))] n0 [(3,gob1)] (.string (istr (a+b))) [] []:=fsp_keep (L:=[(3,gob1)]) (fsp_glob [(3,gob1)] [] [] [] [] [] n0 (ad_o a b ha hb) (by decide+kernel) (by rfl) rfl (by rfl) rfl (by simp) (by simp) hG rfl rfl rfl (by simp) (by simp) rfl rfl rfl)
theorem od_o(a b:Int)(ha:a.natAbs<1000000000000000000)(hb:b.natAbs<1000000000000000000):CT 90 (z_35e_0 a b) (mkH 10 [(3,gob1)]) (.int .i64 (cmpZ a b)) (mkH 10 [(3,gob1)]):=
 sF (sc:=[(8,.call [3] (.tuple #[(.int .i64 (cmpZ a b)),(lI 0)]) [] []),(26,.stay)]) (by kernel_rfl) (aI (Cmp_s 10 a b (by omega) ha hb) tt) (Gets.refl _)
theorem od_c(n0:Nat)(a b:Int)(hG:10≤n0)(ha:a.natAbs<1000000000000000000)(hb:b.natAbs<1000000000000000000):FT 90 #[(.string (istr a)),(.string (istr b))] n0 [(3,gob1)] (.int .i64 (cmpZ a b)) [] []:=fsp_keep (L:=[(3,gob1)]) (fsp_glob [(3,gob1)] [] [] [] [] [] n0 (od_o a b ha hb) (by decide+kernel) (by rfl) rfl (by rfl) rfl (by simp) (by simp) hG rfl rfl rfl (by simp) (by simp) rfl rfl rfl)
end Go.Proofs.YtdgbfelbfhgglaaGreatDoor
