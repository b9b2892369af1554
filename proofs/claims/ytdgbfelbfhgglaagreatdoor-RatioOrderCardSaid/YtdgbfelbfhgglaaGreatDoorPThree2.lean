import Derived.Test.YtdgbfelbfhgglaaGreatDoorPCntB
import Derived.Test.YtdgbfelbfhgglaaGreatDoorPRatB
import Derived.Test.YtdgbfelbfhgglaaGreatDoorPNumS
set_option linter.unusedVariables false
set_option linter.unusedSimpArgs false
set_option maxRecDepth 100000
namespace Go.Proofs.YtdgbfelbfhgglaaGreatDoor
open Go Go.AE Seg
noncomputable section
abbrev z_9ae_0(o:Nat)(zs:List Int):AObj:=.win o (zs.map (Value.int .i64))
abbrev z_9ae_1(o n c:Nat):Value:=.slice (some ⟨10,o,none⟩) n c
end
theorem pick49{r:Nat}(h:r≤1): ∃w:Nat,w≤900∧([.int .i64 (.ofNat 4),.int .i64 (.ofNat 900)]:List Value)[r]? =some (nI w):=by
 have:r=0∨r=1:=by omega
 rcases this with rfl|rfl
 ·exact⟨4,by omega,rfl⟩
 ·exact⟨900,by omega,rfl⟩
theorem t2n_o(v0 r0:Nat)(w0:Nat)(hw0:w0≤900)(hd0:([.int .i64 (.ofNat 4),.int .i64 (.ofNat 900)]:List Value)[r0]? =some (nI w0))(hr0:r0≤1)(hc1:(FT 55 #[(pt 13),(lI 1)] 15 [(13,(.cells [(.slice none 0 0),(lI 0),(lU 7640891576956012809)] 78 none false))] (nI r0) [(13,some (.cells [(.slice none 0 0),(nI 1),(nU v0)] 78 none false))] []))(x0:Rat)(u0:Nat)(hc3:(FT 22 #[(pt 13),(nI w0),(lI 40)] 15 [(13,(.cells [(.slice none 0 0),(nI 1),(nU v0)] 78 none false))] (.agg #[(.string (istr x0.num)),(.string (istr (x0.den:Int)))]) [(13,some (.cells [(.slice none 0 0),(nI 4),(nU u0)] 78 none false))] []))(v1 r1:Nat)(w1:Nat)(hw1:w1≤900)(hd1:([.int .i64 (.ofNat 4),.int .i64 (.ofNat 900)]:List Value)[r1]? =some (nI w1))(hr1:r1≤1)(hc5:(FT 55 #[(pt 13),(lI 1)] 16 [(13,(.cells [(.slice none 0 0),(nI 4),(nU u0)] 78 none false))] (nI r1) [(13,some (.cells [(.slice none 0 0),(nI 5),(nU v1)] 78 none false))] []))(x1:Rat)(u1:Nat)(hc7:(FT 22 #[(pt 13),(nI w1),(lI 40)] 16 [(13,(.cells [(.slice none 0 0),(nI 5),(nU v1)] 78 none false))] (.agg #[(.string (istr x1.num)),(.string (istr (x1.den:Int)))]) [(13,some (.cells [(.slice none 0 0),(nI 8),(nU u1)] 78 none false))] []))(v2 r2:Nat)(w2:Nat)(hw2:w2≤900)(hd2:([.int .i64 (.ofNat 4),.int .i64 (.ofNat 900)]:List Value)[r2]? =some (nI w2))(hr2:r2≤1)(hc9:(FT 55 #[(pt 13),(lI 1)] 17 [(13,(.cells [(.slice none 0 0),(nI 8),(nU u1)] 78 none false))] (nI r2) [(13,some (.cells [(.slice none 0 0),(nI 9),(nU v2)] 78 none false))] []))(x2:Rat)(u2:Nat)(hc11:(FT 22 #[(pt 13),(nI w2),(lI 40)] 17 [(13,(.cells [(.slice none 0 0),(nI 9),(nU v2)] 78 none false))] (.agg #[(.string (istr x2.num)),(.string (istr (x2.den:Int)))]) [(13,some (.cells [(.slice none 0 0),(nI 12),(nU u2)] 78 none false))] [])):CT 6 #[(.slice none 0 0)] (mkH 10 []) (.tuple #[(.agg #[(.string (istr x0.num)),(.string (istr (x0.den:Int)))]),(.agg #[(.string (istr x1.num)),(.string (istr (x1.den:Int)))]),(.agg #[(.string (istr x2.num)),(.string (istr (x2.den:Int)))])]) (mkH 17 []):=
 sF (sc:=[(42,.call [13] (nI r0) [(13,some (.cells [(.slice none 0 0),(nI 1),(nU v0)] 78 none false))] []),(0,.op (.idx r0)),(0,.op (.ld (nI w0))),(4,.call [13] (.agg #[(.string (istr x0.num)),(.string (istr (x0.den:Int)))]) [(13,some (.cells [(.slice none 0 0),(nI 4),(nU u0)] 78 none false))] []),(15,.call [13] (nI r1) [(13,some (.cells [(.slice none 0 0),(nI 5),(nU v1)] 78 none false))] []),(0,.op (.idx r1)),(0,.op (.ld (nI w1))),(4,.call [13] (.agg #[(.string (istr x1.num)),(.string (istr (x1.den:Int)))]) [(13,some (.cells [(.slice none 0 0),(nI 8),(nU u1)] 78 none false))] []),(15,.call [13] (nI r2) [(13,some (.cells [(.slice none 0 0),(nI 9),(nU v2)] 78 none false))] []),(0,.op (.idx r2)),(0,.op (.ld (nI w2))),(4,.call [13] (.agg #[(.string (istr x2.num)),(.string (istr (x2.den:Int)))]) [(13,some (.cells [(.slice none 0 0),(nI 12),(nU u2)] 78 none false))] []),(5,.stay)]) (by kernel_rfl) (aI hc1 (aI (ix (r0:Int) ((2:Nat):Int) 0 1 r0 (by omega)) (aI hd0 (aI hc3 (aI hc5 (aI (ix (r1:Int) ((2:Nat):Int) 0 1 r1 (by omega)) (aI hd1 (aI hc7 (aI hc9 (aI (ix (r2:Int) ((2:Nat):Int) 0 1 r2 (by omega)) (aI hd2 (aI hc11 tt)))))))))))) (Gets.refl _)
theorem three2n_c(n0:Nat)(hG:10≤n0): ∃x0 x1 x2:Rat,RB 900 40 x0∧RB 900 40 x1∧RB 900 40 x2∧FT 6 #[.slice none 0 0] n0 [] (.tuple #[(.agg #[(.string (istr x0.num)),(.string (istr (x0.den:Int)))]),(.agg #[(.string (istr x1.num)),(.string (istr (x1.den:Int)))]),(.agg #[(.string (istr x2.num)),(.string (istr (x2.den:Int)))])]) [] []:=by
 obtain⟨v0,r0,hr0,T0⟩:=upn_c 15 13 0 7640891576956012809 1 (by omega) (by omega) (by omega)
 obtain⟨w0,hw0,hd0⟩:=pick49 hr0
 obtain⟨x0,u0,hx0,R0⟩:=ratn_c 15 13 (0+1) v0 w0 40 (by omega) (by omega) (by omega) (by omega)
 obtain⟨v1,r1,hr1,T1⟩:=upn_c 16 13 ((0+1)+3) u0 1 (by omega) (by omega) (by omega)
 obtain⟨w1,hw1,hd1⟩:=pick49 hr1
 obtain⟨x1,u1,hx1,R1⟩:=ratn_c 16 13 (((0+1)+3)+1) v1 w1 40 (by omega) (by omega) (by omega) (by omega)
 obtain⟨v2,r2,hr2,T2⟩:=upn_c 17 13 ((((0+1)+3)+1)+3) u1 1 (by omega) (by omega) (by omega)
 obtain⟨w2,hw2,hd2⟩:=pick49 hr2
 obtain⟨x2,u2,hx2,R2⟩:=ratn_c 17 13 (((((0+1)+3)+1)+3)+1) v2 w2 40 (by omega) (by omega) (by omega) (by omega)
 exact⟨x0,x1,x2,hx0.le hw0 (by omega),hx1.le hw1 (by omega),hx2.le hw2 (by omega),fsp_flat [] [] [] [] [] n0 (t2n_o v0 r0 w0 hw0 hd0 hr0 T0 x0 u0 R0 v1 r1 w1 hw1 hd1 hr1 T1 x1 u1 R1 v2 r2 w2 hw2 hd2 hr2 T2 x2 u2 R2) rfl rfl rfl (by simp) (by simp) hG rfl rfl rfl (by simp) (by simp) rfl rfl rfl⟩
theorem t2_o(zs:List Int)(o n c:Nat)(v0 r0:Nat)(w0:Nat)(hw0:w0≤900)(hd0:([.int .i64 (.ofNat 4),.int .i64 (.ofNat 900)]:List Value)[r0]? =some (nI w0))(hr0:r0≤1)(hc1:(FT 55 #[(pt 14),(lI 1)] 16 [(14,(.cells [(z_9ae_1 o n c),(lI 0),(lU 7640891576956012809)] 78 none false)),(10,(z_9ae_0 o zs))] (nI r0) [(14,some (.cells [(z_9ae_1 o n c),(nI 1),(nU v0)] 78 none false)),(10,some (z_9ae_0 o zs))] []))(x0:Rat)(u0:Nat)(hc3:(FT 22 #[(pt 14),(nI w0),(lI 40)] 16 [(14,(.cells [(z_9ae_1 o n c),(nI 1),(nU v0)] 78 none false)),(10,(z_9ae_0 o zs))] (.agg #[(.string (istr x0.num)),(.string (istr (x0.den:Int)))]) [(14,some (.cells [(z_9ae_1 o n c),(nI 4),(nU u0)] 78 none false)),(10,some (z_9ae_0 o zs))] []))(v1 r1:Nat)(w1:Nat)(hw1:w1≤900)(hd1:([.int .i64 (.ofNat 4),.int .i64 (.ofNat 900)]:List Value)[r1]? =some (nI w1))(hr1:r1≤1)(hc5:(FT 55 #[(pt 14),(lI 1)] 17 [(14,(.cells [(z_9ae_1 o n c),(nI 4),(nU u0)] 78 none false)),(10,(z_9ae_0 o zs))] (nI r1) [(14,some (.cells [(z_9ae_1 o n c),(nI 5),(nU v1)] 78 none false)),(10,some (z_9ae_0 o zs))] []))(x1:Rat)(u1:Nat)(hc7:(FT 22 #[(pt 14),(nI w1),(lI 40)] 17 [(14,(.cells [(z_9ae_1 o n c),(nI 5),(nU v1)] 78 none false)),(10,(z_9ae_0 o zs))] (.agg #[(.string (istr x1.num)),(.string (istr (x1.den:Int)))]) [(14,some (.cells [(z_9ae_1 o n c),(nI 8),(nU u1)] 78 none false)),(10,some (z_9ae_0 o zs))] []))(v2 r2:Nat)(w2:Nat)(hw2:w2≤900)(hd2:([.int .i64 (.ofNat 4),.int .i64 (.ofNat 900)]:List Value)[r2]? =some (nI w2))(hr2:r2≤1)(hc9:(FT 55 #[(pt 14),(lI 1)] 18 [(14,(.cells [(z_9ae_1 o n c),(nI 8),(nU u1)] 78 none false)),(10,(z_9ae_0 o zs))] (nI r2) [(14,some (.cells [(z_9ae_1 o n c),(nI 9),(nU v2)] 78 none false)),(10,some (z_9ae_0 o zs))] []))(x2:Rat)(u2:Nat)(hc11:(FT 22 #[(pt 14),(nI w2),(lI 40)] 18 [(14,(.cells [(z_9ae_1 o n c),(nI 9),(nU v2)] 78 none false)),(10,(z_9ae_0 o zs))] (.agg #[(.string (istr x2.num)),(.string (istr (x2.den:Int)))]) [(14,some (.cells [(z_9ae_1 o n c),(nI 12),(nU u2)] 78 none false)),(10,some (z_9ae_0 o zs))] [])):CT 6 #[(z_9ae_1 o n c)] (mkH 11 [(10,(z_9ae_0 o zs))]) (.tuple #[(.agg #[(.string (istr x0.num)),(.string (istr (x0.den:Int)))]),(.agg #[(.string (istr x1.num)),(.string (istr (x1.den:Int)))]),(.agg #[(.string (istr x2.num)),(.string (istr (x2.den:Int)))])]) (mkH 18 [(10,(z_9ae_0 o zs))]):=
 sF (sc:=[(42,.call [14,10] (nI r0) [(14,some (.cells [(z_9ae_1 o n c),(nI 1),(nU v0)] 78 none false)),(10,some (z_9ae_0 o zs))] []),(0,.op (.idx r0)),(0,.op (.ld (nI w0))),(4,.call [14,10] (.agg #[(.string (istr x0.num)),(.string (istr (x0.den:Int)))]) [(14,some (.cells [(z_9ae_1 o n c),(nI 4),(nU u0)] 78 none false)),(10,some (z_9ae_0 o zs))] []),(15,.call [14,10] (nI r1) [(14,some (.cells [(z_9ae_1 o n c),(nI 5),(nU v1)] 78 none false)),(10,some (z_9ae_0 o zs))] []),(0,.op (.idx r1)),(0,.op (.ld (nI w1))),(4,.call [14,10] (.agg #[(.string (istr x1.num)),(.string (istr (x1.den:Int)))]) [(14,some (.cells [(z_9ae_1 o n c),(nI 8),(nU u1)] 78 none false)),(10,some (z_9ae_0 o zs))] []),(15,.call [14,10] (nI r2) [(14,some (.cells [(z_9ae_1 o n c),(nI 9),(nU v2)] 78 none false)),(10,some (z_9ae_0 o zs))] []),(0,.op (.idx r2)),(0,.op (.ld (nI w2))),(4,.call [14,10] (.agg #[(.string (istr x2.num)),(.string (istr (x2.den:Int)))]) [(14,some (.cells [(z_9ae_1 o n c),(nI 12),(nU u2)] 78 none false)),(10,some (z_9ae_0 o zs))] []),(5,.stay)]) (by kernel_rfl) (aI hc1 (aI (ix (r0:Int) ((2:Nat):Int) 0 1 r0 (by omega)) (aI hd0 (aI hc3 (aI hc5 (aI (ix (r1:Int) ((2:Nat):Int) 0 1 r1 (by omega)) (aI hd1 (aI hc7 (aI hc9 (aI (ix (r2:Int) ((2:Nat):Int) 0 1 r2 (by omega)) (aI hd2 (aI hc11 tt)))))))))))) (Gets.refl _)
theorem three2_c(n0 L:Nat)(zs:List Int)(o n c:Nat)(hL:10≤L∧L<n0)(hn:n≤zs.length): ∃x0 x1 x2:Rat,RB 900 40 x0∧RB 900 40 x1∧RB 900 40 x2∧FT 6 #[.slice (some ⟨L,o,none⟩) n c] n0 [(L,.win o (zs.map (Value.int .i64)))] (.tuple #[(.agg #[(.string (istr x0.num)),(.string (istr (x0.den:Int)))]),(.agg #[(.string (istr x1.num)),(.string (istr (x1.den:Int)))]),(.agg #[(.string (istr x2.num)),(.string (istr (x2.den:Int)))])]) [(L,some (.win o (zs.map (Value.int .i64))))] []:=by
 obtain⟨v0,r0,hr0,T0⟩:=up_c 16 14 10 zs o n c 0 7640891576956012809 1 (by omega) hn (by omega) (by omega)
 obtain⟨w0,hw0,hd0⟩:=pick49 hr0
 obtain⟨x0,u0,hx0,R0⟩:=rat_c 16 14 10 zs o n c (0+1) v0 w0 40 (by omega) hn (by omega) (by omega) (by omega)
 obtain⟨v1,r1,hr1,T1⟩:=up_c 17 14 10 zs o n c ((0+1)+3) u0 1 (by omega) hn (by omega) (by omega)
 obtain⟨w1,hw1,hd1⟩:=pick49 hr1
 obtain⟨x1,u1,hx1,R1⟩:=rat_c 17 14 10 zs o n c (((0+1)+3)+1) v1 w1 40 (by omega) hn (by omega) (by omega) (by omega)
 obtain⟨v2,r2,hr2,T2⟩:=up_c 18 14 10 zs o n c ((((0+1)+3)+1)+3) u1 1 (by omega) hn (by omega) (by omega)
 obtain⟨w2,hw2,hd2⟩:=pick49 hr2
 obtain⟨x2,u2,hx2,R2⟩:=rat_c 18 14 10 zs o n c (((((0+1)+3)+1)+3)+1) v2 w2 40 (by omega) hn (by omega) (by omega) (by omega)
 exact⟨x0,x1,x2,hx0.le hw0 (by omega),hx1.le hw1 (by omega),hx2.le hw2 (by omega),fsp_flat [L] [.win o (zs.map (Value.int .i64))] [.win o (zs.map (Value.int .i64))] [] [] n0 (t2_o zs o n c v0 r0 w0 hw0 hd0 hr0 T0 x0 u0 R0 v1 r1 w1 hw1 hd1 hr1 T1 x1 u1 R1 v2 r2 w2 hw2 hd2 hr2 T2 x2 u2 R2) rfl rfl rfl (by simp) (by simp;omega) (by omega) (by simp[flat,ints_closed]) (by simp[flat,ints_closed]) rfl (by simp) (by simp) rfl rfl rfl⟩
theorem ba_beq2(a:ByteArray):(a==a)=true:=by
 first
 |exact beq_self_eq_true a
 |(cases a with|mk d=>show (d==d)=true;exact beq_self_eq_true d)
theorem ba_of{a b:ByteArray}(h:(a==b)=true):a=b:=by
 first
 |exact eq_of_beq h
 |(cases a with|mk x=>cases b with|mk y=>exact congrArg ByteArray.mk (eq_of_beq (show (x==y)=true from h)))
theorem rq_t{p q:Rat}(h:p=q):eqQ .eql ((istr p.num==istr q.num)&&(istr (p.den:Int)==istr (q.den:Int)))=true:=by subst h;rw[ba_beq2,ba_beq2];rfl
theorem rq_f{p q:Rat}(h:p≠q):eqQ .eql ((istr p.num==istr q.num)&&(istr (p.den:Int)==istr (q.den:Int)))=false:=by
 show ((istr p.num==istr q.num)&&(istr (p.den:Int)==istr (q.den:Int)))=false
 cases h1:(istr p.num==istr q.num) with
 |false=>rfl
 |true=>
  cases h2:(istr (p.den:Int)==istr (q.den:Int)) with
  |false=>rfl
  |true=>exact absurd (Rat.ext (istr_eq (ba_of h1)) (by have:=istr_eq (ba_of h2);omega)) h
def cmpR(x y:Rat):Int:=cmpZ (x.num*(y.den:Int)) (y.num*(x.den:Int))
theorem cmpR_l{x y:Rat}(h:x<y):cmpR x y= -1:=by unfold cmpR cmpZ;rw[if_pos ((Rat.lt_iff x y).1 h)]
theorem cmpR_g{x y:Rat}(h:y<x):cmpR x y=1:=by
 have h1:=(Rat.lt_iff y x).1 h
 unfold cmpR cmpZ
 rw[if_neg (by omega),if_pos h1]
theorem cmpR_e{x y:Rat}(h:x=y):cmpR x y=0:=by
 subst h
 unfold cmpR cmpZ
 rw[if_neg (by omega),if_neg (by omega)]
theorem cmpR_d{x y:Rat}(h:(x.den:Int)=(y.den:Int)):cmpZ x.num y.num=cmpR x y:=by
 have hp:=rat_den_pos y
 have hq:(0:Int)<(y.den:Int):=by omega
 have e (a b:Int):a*(y.den:Int)<b*(y.den:Int)↔a<b:=⟨fun q=>Int.lt_of_mul_lt_mul_right q (by omega),fun q=>Int.mul_lt_mul_of_pos_right q hq⟩
 unfold cmpR cmpZ
 rw[h]
 simp only[e]
theorem cq_e(x y:Rat)(hx1:x.num.natAbs<100000000)(hx2:x.den<100000000)(hy1:y.num.natAbs<100000000)(hy2:y.den<100000000)(hne:x=y):CT 39 #[(.agg #[(.string (istr x.num)),(.string (istr (x.den:Int)))]),(.agg #[(.string (istr y.num)),(.string (istr (y.den:Int)))])] (mkH 10 [(3,gob1)]) (lI 0) (mkH 12 [(3,gob1)]):=
 sF (sc:=[(12,.op (.eqS true)),(8,.stay)]) (by kernel_rfl) (aI (show eqQ .eql (((istr x.num)==(istr y.num))&&((istr (x.den:Int))==(istr (y.den:Int))))=true from (rq_t hne)) tt) (Gets.refl _)
theorem cq_d(x y:Rat)(hx1:x.num.natAbs<100000000)(hx2:x.den<100000000)(hy1:y.num.natAbs<100000000)(hy2:y.den<100000000)(hne:x≠y)(hd:(x.den:Int)=(y.den:Int)):CT 39 #[(.agg #[(.string (istr x.num)),(.string (istr (x.den:Int)))]),(.agg #[(.string (istr y.num)),(.string (istr (y.den:Int)))])] (mkH 10 [(3,gob1)]) (.int .i64 (cmpZ x.num y.num)) (mkH 12 [(3,gob1)]):=
 sF (sc:=[(12,.op (.eqS false)),(11,.op (.rwB true)),(11,.call [3] (.int .i64 (cmpZ x.num y.num)) [] []),(3,.stay)]) (by kernel_rfl) (aI (show eqQ .eql (((istr x.num)==(istr y.num))&&((istr (x.den:Int))==(istr (y.den:Int))))=false from (rq_f hne)) (aI (show ((istr (x.den:Int)).toList==(istr (y.den:Int)).toList)=true from (txt_eqT hd)) (aI (od_c 12 x.num y.num (by omega) (by omega) (by omega)) tt))) (Gets.refl _)
theorem cq_n(x y:Rat)(hx1:x.num.natAbs<100000000)(hx2:x.den<100000000)(hy1:y.num.natAbs<100000000)(hy2:y.den<100000000)(p0:(x.num*(y.den:Int)).natAbs<10000000000000000)(p1:(y.num*(x.den:Int)).natAbs<10000000000000000)(hne:x≠y)(hd:(x.den:Int)≠(y.den:Int)):CT 39 #[(.agg #[(.string (istr x.num)),(.string (istr (x.den:Int)))]),(.agg #[(.string (istr y.num)),(.string (istr (y.den:Int)))])] (mkH 10 [(3,gob1)]) (.int .i64 (cmpZ (x.num*(y.den:Int)) (y.num*(x.den:Int)))) (mkH 14 [(3,gob1)]):=
 sF (sc:=[(12,.op (.eqS false)),(11,.op (.rwB false)),(22,.op (.rwI (((max ((istr x.num).size) ((istr (x.den:Int)).size)):Nat):Int))),(0,.op (.rwB true)),(22,.op (.rwI (((max ((istr y.num).size) ((istr (y.den:Int)).size)):Nat):Int))),(0,.op (.rwB true)),(9,.drwM [] [⟨6,[3],(.string (istr (x.num*(y.den:Int)))),[],[]⟩,⟨13,[3],(.string (istr (y.num*(x.den:Int)))),[],[]⟩,⟨14,[3],(.int .i64 (cmpZ (x.num*(y.den:Int)) (y.num*(x.den:Int)))),[],[]⟩]),(1,.stay)]) (by kernel_rfl) (aI (show eqQ .eql (((istr x.num)==(istr y.num))&&((istr (x.den:Int))==(istr (y.den:Int))))=false from (rq_f hne)) (aI (show ((istr (x.den:Int)).toList==(istr (y.den:Int)).toList)=false from (txt_eqF hd)) (aI (show (if (((istr (x.den:Int)).size:Nat):Int)>(((istr x.num).size:Nat):Int) then (((istr (x.den:Int)).size:Nat):Int) else (((istr x.num).size:Nat):Int))=(((max ((istr x.num).size) ((istr (x.den:Int)).size)):Nat):Int) from (max_if _ _)) (aI (show decide ((((max ((istr x.num).size) ((istr (x.den:Int)).size)):Nat):Int)<(200:Int))=true from (max_lt (by omega) (by omega))) (aI (show (if (((istr (y.den:Int)).size:Nat):Int)>(((istr y.num).size:Nat):Int) then (((istr (y.den:Int)).size:Nat):Int) else (((istr y.num).size:Nat):Int))=(((max ((istr y.num).size) ((istr (y.den:Int)).size)):Nat):Int) from (max_if _ _)) (aI (show decide ((((max ((istr y.num).size) ((istr (y.den:Int)).size)):Nat):Int)<(200:Int))=true from (max_lt (by omega) (by omega))) (aI (aI (aI tt (aI tt (aI tt (aI tt (aI tt (aI tt (aI tt (aI tt (aI tt (aI tt (aI tt (aI tt (aI (mu_c 14 x.num (y.den:Int) (by omega) (by omega) (by omega) (by omega)) (aI (mu_c 14 y.num (x.den:Int) (by omega) (by omega) (by omega) (by omega)) (aI (od_c 14 (x.num*(y.den:Int)) (y.num*(x.den:Int)) (by omega) (by omega) (by omega)) (aI tt tt)))))))))))))))) (show ((((#[(.string (istr x.num)),(.string (istr (y.den:Int)))]:Array Value)= #[(.string (istr y.num)),(.string (istr (x.den:Int)))]→((.string (istr (y.num*(x.den:Int)))):Value)=(.string (istr (x.num*(y.den:Int)))))∧(True∧True))∧((True∧True)∧(True∧True))) from⟨⟨(by first|(simp;done)|(simp;intro h1 h2;rw[istr_eq h1,istr_eq h2])|(simp;intro h1;rw[istr_eq h1])),⟨tt,tt⟩⟩,⟨⟨tt,tt⟩,⟨tt,tt⟩⟩⟩)) tt))))))) (Gets.refl _)
theorem cq_c(n0:Nat)(x y:Rat)(hx1:x.num.natAbs<100000000)(hx2:x.den<100000000)(hy1:y.num.natAbs<100000000)(hy2:y.den<100000000)(hG:10≤n0):FT 39 #[(.agg #[(.string (istr x.num)),(.string (istr (x.den:Int)))]),(.agg #[(.string (istr y.num)),(.string (istr (y.den:Int)))])] n0 [(3,gob1)] (.int .i64 (cmpR x y)) [] []:=by
 by_cases hne:x=y
 ·rw[cmpR_e hne]
  exact fsp_keep (L:=[(3,gob1)]) (fsp_glob [(3,gob1)] [] [] [] [] [] n0 (cq_e x y hx1 hx2 hy1 hy2 hne) (by decide+kernel) (by rfl) rfl (by rfl) rfl (by simp) (by simp) hG rfl rfl rfl (by simp) (by simp) rfl rfl rfl)
 ·by_cases hd:(x.den:Int)=(y.den:Int)
  ·rw[←cmpR_d hd]
   exact fsp_keep (L:=[(3,gob1)]) (fsp_glob [(3,gob1)] [] [] [] [] [] n0 (cq_d x y hx1 hx2 hy1 hy2 hne hd) (by decide+kernel) (by rfl) rfl (by rfl) rfl (by simp) (by simp) hG rfl rfl rfl (by simp) (by simp) rfl rfl rfl)
  ·have p0:=mul8 (a:=x.num) (b:=(y.den:Int)) hx1 (by omega)
   have p1:=mul8 (a:=y.num) (b:=(x.den:Int)) hy1 (by omega)
   exact fsp_keep (L:=[(3,gob1)]) (fsp_glob [(3,gob1)] [] [] [] [] [] n0 (cq_n x y hx1 hx2 hy1 hy2 p0 p1 hne hd) (by decide+kernel) (by rfl) rfl (by rfl) rfl (by simp) (by simp) hG rfl rfl rfl (by simp) (by simp) rfl rfl rfl)
theorem Compare_q0(x y:Rat)(hx:Sm x)(hy:Sm y):CT 13 #[(.agg #[(.string (istr x.num)),(.string (istr (x.den:Int)))]),(.agg #[(.string (istr y.num)),(.string (istr (y.den:Int)))])] (mkH 10 [(3,gob1)]) (.tuple #[(.int .i64 (cmpR x y)),(lI 0)]) (mkH 15 [(3,gob1)]):=
 sF (sc:=[(33,.call [3] (.tuple #[(.agg #[(.string (istr x.num)),(.string (istr (x.den:Int)))]),(.agg #[(.string (istr y.num)),(.string (istr (y.den:Int)))])]) [] []),(12,.call [3] (.int .i64 (cmpR x y)) [] []),(30,.stay)]) (by kernel_rfl) (aI (bo_c 13 x y hx hy (by omega)) (aI (cq_c 15 x y hx.1 hx.2 hy.1 hy.2 (by omega)) tt)) (Gets.refl _)
theorem Compare_q(n0:Nat)(x y:Rat)(hx:Sm x)(hy:Sm y)(hG:10≤n0):FT 13 #[(.agg #[(.string (istr x.num)),(.string (istr (x.den:Int)))]),(.agg #[(.string (istr y.num)),(.string (istr (y.den:Int)))])] n0 [(3,gob1)] (.tuple #[.int .i64 (cmpR x y),.int .i64 (.ofNat 0)]) [] []:=fsp_keep (L:=[(3,gob1)]) (fsp_glob [(3,gob1)] [] [] [] [] [] n0 (Compare_q0 x y hx hy) (by decide+kernel) (by rfl) rfl (by rfl) rfl (by simp) (by simp) hG rfl rfl rfl (by simp) (by simp) rfl rfl rfl)
theorem oi_s(n:Nat)(hn:n<1000000000000000000)(h:n<10)(e:Nat)(he:e=n):CT 48 #[(nI n)] (mkH 10 []) (.string (dstr [e])) (mkH 11 []):=
 sF (sc:=[(8,.op (.rwB false)),(7,.op (.rwB true)),(5,.op (.rwI (((48+n):Nat):Int))),(0,.op (.rwI (((48+n):Nat):Int))),(1,.op (.b2s (dstr [e]))),(3,.stay)]) (by kernel_rfl) (aI (dF (p:=(n:Int)<(0:Int)) (by omega)) (aI (dT (p:=(n:Int)<(10:Int)) (by omega)) (aI (wI64 (a:=((48:Int)+(n:Int))) (r:=(((48+n):Nat):Int)) (by omega)) (aI (wU8 (a:=(((48+n):Nat):Int)) (r:=(((48+n):Nat):Int)) (by omega)) (aI (show 0+1≤([(nB (48+n))]).length∧(intsOf (List.take 1 (List.drop 0 [(nB (48+n))]))).map (fun ns=>(⟨(ns.map fun n=>UInt8.ofNat n.toNat).toArray⟩:ByteArray))=some (dstr [e]) from (b2s_one (by omega))) tt))))) (Gets.refl _)
theorem oi_r(n:Nat)(hn:n<1000000000000000000)(h: ¬n<10)(e:Nat)(he:e=n%10)(sr:ByteArray)(hsz:sr.size<1099511627776)(hrec: ∀n0,10≤n0→FT 48 #[(nI (n/10))] n0 [] (.string sr) [] []):CT 48 #[(nI n)] (mkH 10 []) (.string (sr++(dstr [e]))) (mkH 11 []):=
 sF (sc:=[(8,.op (.rwB false)),(7,.op (.rwB false)),(4,.drwB [(1,.rwI (((n/10):Nat):Int)),(4,.rwI (((n%10):Nat):Int)),(5,.rwI (((48+(n%10)):Nat):Int)),(6,.rwI (((48+(n%10)):Nat):Int)),(8,.b2s (dstr [e])),(9,.cat (sr++(dstr [e])))] [⟨2,[],(.string sr),[],[]⟩] ⟨#[(nI n),uu,(.string (sr++(dstr [e]))),(nI n),bF,uu,uu,uu,uu,(nI n),bF,uu,uu,uu,uu,uu,(nI n),(nI (n/10)),(.string sr),(nI n),(nI (n%10)),(nI (48+(n%10))),(nB (48+(n%10))),(sl 10 1 1),(.string (dstr [e])),(.string (sr++(dstr [e])))],11,[(10,(.cells [(nB (48+(n%10)))] 5 none false))]⟩),(1,.stay)]) (by kernel_rfl) (aI (dF (p:=(n:Int)<(0:Int)) (by omega)) (aI (dF (p:=(n:Int)<(10:Int)) (by omega)) (aI (show True∧((IntKind.wrap .i64 (Int.tdiv (n:Int) (10:Int))=(((n/10):Nat):Int))∧(True∧(((Int.tmod (n:Int) (10:Int))=(((n%10):Nat):Int))∧((IntKind.wrap .i64 ((48:Int)+(((n%10):Nat):Int))=(((48+(n%10)):Nat):Int))∧((IntKind.wrap .u8 (((48+(n%10)):Nat):Int)=(((48+(n%10)):Nat):Int))∧(((FT 48 #[(nI (n/10))] 10 [] (.string sr) [] [])∧(True)∧(((True)∧(True)∧(((0+1≤([(nB (48+(n%10)))]).length∧(intsOf (List.take 1 (List.drop 0 [(nB (48+(n%10)))]))).map (fun ns=>(⟨(ns.map fun n=>UInt8.ofNat n.toNat).toArray⟩:ByteArray))=some (dstr [e]))∧(True)∧(((((sr.size+(dstr [e]).size:Nat)):Int)≤9223372036854775807∧sr++(dstr [e])=(sr++(dstr [e])))∧(True∧(endT ⟨#[(nI n),uu,(.string (sr++(dstr [e]))),(nI n),bF,uu,uu,uu,uu,(nI n),bF,uu,uu,uu,uu,uu,(nI n),(nI (n/10)),(.string sr),(nI n),(nI (n%10)),(nI (48+(n%10))),(nB (48+(n%10))),(sl 10 1 1),(.string (dstr [e])),(.string (sr++(dstr [e])))],11,[(10,(.cells [(nB (48+(n%10)))] 5 none false))]⟩))))∧(True)))∧(True)))∧(((True)∧(True)∧(((FT 48 #[(nI (n/10))] 11 [] (.string sr) [] [])∧(True)∧(((0+1≤([(nB (48+(n%10)))]).length∧(intsOf (List.take 1 (List.drop 0 [(nB (48+(n%10)))]))).map (fun ns=>(⟨(ns.map fun n=>UInt8.ofNat n.toNat).toArray⟩:ByteArray))=some (dstr [e]))∧(True)∧(((((sr.size+(dstr [e]).size:Nat)):Int)≤9223372036854775807∧sr++(dstr [e])=(sr++(dstr [e])))∧(True∧(endT ⟨#[(nI n),uu,(.string (sr++(dstr [e]))),(nI n),bF,uu,uu,uu,uu,(nI n),bF,uu,uu,uu,uu,uu,(nI n),(nI (n/10)),(.string sr),(nI n),(nI (n%10)),(nI (48+(n%10))),(nB (48+(n%10))),(sl 10 1 1),(.string (dstr [e])),(.string (sr++(dstr [e])))],11,[(10,(.cells [(nB (48+(n%10)))] 5 none false))]⟩))))∧(True)))∧(((0+1≤([(nB (48+(n%10)))]).length∧(intsOf (List.take 1 (List.drop 0 [(nB (48+(n%10)))]))).map (fun ns=>(⟨(ns.map fun n=>UInt8.ofNat n.toNat).toArray⟩:ByteArray))=some (dstr [e]))∧(True)∧(((FT 48 #[(nI (n/10))] 11 [] (.string sr) [] [])∧(True)∧(((((sr.size+(dstr [e]).size:Nat)):Int)≤9223372036854775807∧sr++(dstr [e])=(sr++(dstr [e])))∧(True∧(endT ⟨#[(nI n),uu,(.string (sr++(dstr [e]))),(nI n),bF,uu,uu,uu,uu,(nI n),bF,uu,uu,uu,uu,uu,(nI n),(nI (n/10)),(.string sr),(nI n),(nI (n%10)),(nI (48+(n%10))),(nB (48+(n%10))),(sl 10 1 1),(.string (dstr [e])),(.string (sr++(dstr [e])))],11,[(10,(.cells [(nB (48+(n%10)))] 5 none false))]⟩))))∧(True)))∧(True))))∧(True)))))))) from⟨tt,⟨(by rw[Int.tdiv_eq_ediv_of_nonneg (by omega),wrap_i64 (by omega) (by omega)]<;>omega),⟨tt,⟨(by rw[Int.tmod_eq_emod_of_nonneg (by omega)]<;>omega),⟨(wI64 (by omega)),⟨(wU8 (by omega)),⟨⟨(hrec 10 (by omega)),tt,⟨⟨tt,tt,⟨⟨(b2s_one (by omega)),tt,⟨⟨by rw[show (dstr [e]).size=1 from rfl];omega,rfl⟩,⟨tt,rfl⟩⟩⟩,tt⟩⟩,tt⟩⟩,⟨⟨tt,tt,⟨⟨(hrec 11 (by omega)),tt,⟨⟨(b2s_one (by omega)),tt,⟨⟨by rw[show (dstr [e]).size=1 from rfl];omega,rfl⟩,⟨tt,rfl⟩⟩⟩,tt⟩⟩,⟨⟨(b2s_one (by omega)),tt,⟨⟨(hrec 11 (by omega)),tt,⟨⟨by rw[show (dstr [e]).size=1 from rfl];omega,rfl⟩,⟨tt,rfl⟩⟩⟩,tt⟩⟩,tt⟩⟩⟩,tt⟩⟩⟩⟩⟩⟩⟩⟩) tt))) (Gets.refl _)
theorem oi_c: ∀(n n0:Nat),10≤n0→n<1000000000000000000→FT 48 #[.int .i64 ((n:Nat):Int)] n0 [] (.string (istr (n:Int))) [] []:=by
 intro n
 induction n using Nat.strongRecOn with
 |_ n ih=>
  intro n0 hG hn
  rw[istr_nn]
  by_cases h:n<10
  ·rw[digs_small h]
   exact fsp_flat [] [] [] [] [] n0 (oi_s n hn h n rfl) rfl rfl rfl (by simp) (by simp) hG rfl rfl rfl (by simp) (by simp) rfl rfl rfl
  ·have hr: ∀n0,10≤n0→FT 48 #[(nI (n/10))] n0 [] (.string (dstr (digs (n/10)))) [] []:=fun n0 hG=>by
    have:=ih (n/10) (by omega) n0 hG (by omega)
    rw[istr_nn]at this
    exact this
   have hsz:(dstr (digs (n/10))).size<1099511627776:=by
    rw[dstr_size]
    have:=digs_len_le (ndig_lt 18 (n/10) (by omega)) (by decide)
    omega
   rw[←dec_eq h]
   exact fsp_flat [] [] [] [] [] n0 (oi_r n hn h _ rfl _ hsz hr) rfl rfl rfl (by simp) (by simp) hG rfl rfl rfl (by simp) (by simp) rfl rfl rfl
theorem oi_m(n:Nat)(h0:0<n)(hn:n<1000000000000000000)(ds:List Nat)(hsz:(dstr ds).size<1099511627776)(hrec: ∀n0,10≤n0→FT 48 #[.int .i64 (n:Int)] n0 [] (.string (dstr ds)) [] []):CT 48 #[(.int .i64 (-(n:Int)))] (mkH 10 []) (.string ((bts [45])++(dstr ds))) (mkH 10 []):=
 sF (sc:=[(8,.op (.rwB true)),(5,.op (.rwI (n:Int))),(0,.call [] (.string (dstr ds)) [] []),(0,.op (.cat ((bts [45])++(dstr ds)))),(3,.stay)]) (by kernel_rfl) (aI (dT (p:=(-(n:Int))<(0:Int)) (by omega)) (aI (wI64 (a:=((0:Int)-(-(n:Int)))) (r:=(n:Int)) (by omega)) (aI (hrec 10 (by omega)) (aI (show ((((bts [45]).size+(dstr ds).size:Nat)):Int)≤9223372036854775807∧(bts [45])++(dstr ds)=((bts [45])++(dstr ds)) from⟨by rw[show (Seg.bts [45]).size=1 from rfl];omega,rfl⟩) tt)))) (Gets.refl _)
theorem oi_i(z:Int)(n0:Nat)(hG:10≤n0)(hz:z.natAbs<1000000000000000000):FT 48 #[.int .i64 z] n0 [] (.string (istr z)) [] []:=by
 rcases int_cases z with⟨m,rfl,hm⟩|⟨m,h0,rfl,hm⟩
 ·exact oi_c m n0 hG (by omega)
 ·have hr: ∀n0,10≤n0→FT 48 #[.int .i64 ((m:Nat):Int)] n0 [] (.string (dstr (digs m))) [] []:=fun n0 hG=>by
   have:=oi_c m n0 hG (by omega)
   rw[istr_nn]at this
   exact this
  have hsz:(dstr (digs m)).size<1099511627776:=by
   rw[dstr_size]
   have:=digs_len_le (ndig_lt 18 m (by omega)) (by decide)
   omega
  rw[istr_neg h0,←mstr_cat]
  exact fsp_flat [] [] [] [] [] n0 (oi_m m h0 (by omega) _ hsz hr) rfl rfl rfl (by simp) (by simp) hG rfl rfl rfl (by simp) (by simp) rfl rfl rfl
noncomputable section
abbrev z_374_0(d:Nat):Value:=nB ((UInt8.ofNat (48+d)).toNat)
abbrev z_374_1(ds:List Nat):List Value:=[bF,(.string (dstr ds)),(nI ((dstr ds).size)),(.string (dstr ds)),(nI ((dstr ds).size)),undef,undef,undef,undef,undef,undef,undef,undef,undef,undef,undef,undef,undef,undef,undef,undef]
abbrev z_374_3(ds:List Nat):AS:=⟨Frame.enter Tryz.prog 209 #[(.string (dstr ds))] .normal,[],mkH 10 []⟩
end
theorem byte_ge{d:Nat}(h:d<10):decide ((((UInt8.ofNat (48+d)).toNat:Nat):Int)<(48:Int))=false:=by
 rw[byte_nat h,decide_eq_false_iff_not];omega
theorem byte_le{d:Nat}(h:d<10):decide ((((UInt8.ofNat (48+d)).toNat:Nat):Int)>(57:Int))=false:=by
 rw[byte_nat h,decide_eq_false_iff_not];omega
theorem byte_sub{d:Nat}(h:d<10):IntKind.wrap .u8 ((((UInt8.ofNat (48+d)).toNat:Nat):Int)-(48:Int))=((d:Nat):Int):=by
 rw[byte_nat h]
 simp[IntKind.wrap,IntKind.signed,IntKind.bits]
 omega
theorem at_ne{a b:List UInt8}(i:Nat)(h:a[i]? ≠b[i]?):(!(a==b))=true:=by
 rw[Bool.not_eq_true',beq_eq_false_iff_ne]
 intro q
 exact h (by rw[q])
theorem byte_inj{d k:Nat}(h:d<10)(hk:k<256)(hne:48+d≠k):UInt8.ofNat (48+d)≠UInt8.ofNat k:=by
 intro q
 have:=congrArg UInt8.toNat q
 rw[byte_nat h,UInt8.toNat_ofNat']at this
 omega
theorem dstr_ne_m0{ds:List Nat}(hd:Dig ds)(h0:0<ds.length):(!((dstr ds).toList==(Seg.bts [45,48]).toList))=true:=by
 rw[ByteArray.toList_eq,ByteArray.toList_eq]
 cases ds with
 |nil=>simp at h0
 |cons d ds=>
  refine at_ne 0 fun q=> ?_
  have q:some (UInt8.ofNat (48+d))=some (UInt8.ofNat 45):=q
  injection q with q
  exact byte_inj (hd d (List.mem_cons_self ..)) (by decide) (by omega) q
theorem mstr_ne_m0{ds:List Nat}(hd:Dig ds)(h0:0<ds.length)(h1:ds.getD 0 0≠0):(!((mstr ds).toList==(Seg.bts [45,48]).toList))=true:=by
 rw[ByteArray.toList_eq,ByteArray.toList_eq]
 cases ds with
 |nil=>simp at h0
 |cons d ds=>
  have h1':d≠0:=h1
  refine at_ne 1 fun q=> ?_
  have q:some (UInt8.ofNat (48+d))=some (UInt8.ofNat 48):=q
  injection q with q
  exact byte_inj (hd d (List.mem_cons_self ..)) (by decide) (by omega) q
theorem ne_p(ds:List Nat)(d:Nat)(hd:d<10)(h0:0<(dstr ds).size)(hx:(dstr ds)[0]? =some (UInt8.ofNat (48+d))):CT 50 #[(.string (dstr ds))] (mkH 10 []) bF (mkH 10 []):=
 sF (sc:=[(8,.op (.rwB true)),(2,.op (.sidx (UInt8.ofNat (48+d)))),(0,.op (.rwB false)),(4,.stay)]) (by kernel_rfl) (aI (dT (p:=(((dstr ds).size:Nat):Int)>(0:Int)) (by omega)) (aI (show 0≤(0:Int)∧(dstr ds)[Int.toNat (0:Int)]? =some (UInt8.ofNat (48+d)) from⟨by omega,hx⟩) (aI (show ((((UInt8.ofNat (48+d)).toNat:Nat):Int)==(45:Int))=false from (byte_no45 hd)) tt))) (Gets.refl _)
theorem ne_pc(n0:Nat)(ds:List Nat)(hG:10≤n0)(hd:Dig ds)(h0:0<ds.length):FT 50 #[.string (dstr ds)] n0 [] bF [] []:=
 fsp_flat [] [] [] [] [] n0 (ne_p ds _ (hd.get 0) (by rw[dstr_size];exact h0) (dstr_get h0)) rfl rfl rfl (by simp) (by simp) hG rfl rfl rfl (by simp) (by simp) rfl rfl rfl
theorem ne_m(ds:List Nat)(h0:0<(mstr ds).size):CT 50 #[(.string (mstr ds))] (mkH 10 []) bT (mkH 10 []):=
 sF (sc:=[(8,.op (.rwB true)),(2,.op (.sidx (UInt8.ofNat 45))),(0,.op (.rwB true)),(4,.stay)]) (by kernel_rfl) (aI (dT (p:=(((mstr ds).size:Nat):Int)>(0:Int)) (by omega)) (aI (show 0≤(0:Int)∧(mstr ds)[Int.toNat (0:Int)]? =some (UInt8.ofNat 45) from⟨by omega,mstr_get0 ds⟩) (aI byte_45 tt))) (Gets.refl _)
theorem ne_mc(n0:Nat)(ds:List Nat)(hG:10≤n0):FT 50 #[.string (mstr ds)] n0 [] bT [] []:=
 fsp_flat [] [] [] [] [] n0 (ne_m ds (by rw[mstr_size];omega)) rfl rfl rfl (by simp) (by simp) hG rfl rfl rfl (by simp) (by simp) rfl rfl rfl
theorem ab_p(ds:List Nat)(hd:Dig ds)(h0:0<ds.length):CT 42 #[(.string (dstr ds))] (mkH 10 []) (.string (dstr ds)) (mkH 10 []):=
 sF (sc:=[(8,.call [] bF [] []),(9,.stay)]) (by kernel_rfl) (aI (ne_pc 10 ds (by omega) hd h0) tt) (Gets.refl _)
theorem ab_m(ds:List Nat)(hs:(mstr ds).size=ds.length+1):CT 42 #[(.string (mstr ds))] (mkH 10 []) (.string (dstr ds)) (mkH 10 []):=
 sF (sc:=[(8,.call [] bT [] []),(5,.op (.sslc (dstr ds))),(3,.stay)]) (by kernel_rfl) (aI (ne_mc 10 ds (by omega)) (aI (show 0≤(1:Int)∧(1:Int)≤(((mstr ds).size:Nat):Int)∧(((mstr ds).size:Nat):Int)≤(((mstr ds).size:Nat):Int)∧(mstr ds).extract (Int.toNat (1:Int)) (Int.toNat (((mstr ds).size:Nat):Int))=(dstr ds) from⟨by omega,by omega,by omega,mstr_rest ds _ hs⟩) tt)) (Gets.refl _)
theorem ab_pc(n0:Nat)(ds:List Nat)(hG:10≤n0)(hd:Dig ds)(h0:0<ds.length):FT 42 #[.string (dstr ds)] n0 [] (.string (dstr ds)) [] []:=
 fsp_flat [] [] [] [] [] n0 (ab_p ds hd h0) rfl rfl rfl (by simp) (by simp) hG rfl rfl rfl (by simp) (by simp) rfl rfl rfl
theorem ab_mc(n0:Nat)(ds:List Nat)(hG:10≤n0):FT 42 #[.string (mstr ds)] n0 [] (.string (dstr ds)) [] []:=
 fsp_flat [] [] [] [] [] n0 (ab_m ds (mstr_size ds)) rfl rfl rfl (by simp) (by simp) hG rfl rfl rfl (by simp) (by simp) rfl rfl rfl
noncomputable def rdg_h_f(ds:List Nat)(i:Nat)(jc:List Value)(j:List Value):Frame:=⟨209,List.toArray [(.string (dstr ds)),uu,(J j 0),(nI i),(J j 1),(J j 2),bF,bF,(J j 3),(J j 4),(J jc 0),(J jc 1),(J jc 2),(J jc 3),(J jc 4),bF,bF,(J j 5),(J j 6),(J j 7),(J j 8),(J j 9),(J j 10),(J j 11),(J j 12),(J j 13),(J j 14),(J j 15),(J j 16),(J j 17),(J j 18),(J j 19),(J j 20)],[.code (cd Tryz.f209 [1,1,0,1,0,0]),.inLoop (cd Tryz.f209 [1,1,0,1,0,0]),.inBlock 0,.code (cd Tryz.f209 [1,1,1])],[],.run,.normal,none⟩
noncomputable def rdg_h_o(ds:List Nat)(i:Nat)(jc:List Value):List (Nat×AObj):=[]
noncomputable def rdg_h(ds:List Nat)(i:Nat)(jc:List Value)(j:List Value):AS:=⟨rdg_h_f ds i jc j,[],mkH 10 (rdg_h_o ds i jc)⟩
theorem rdg_in1(ds:List Nat)(h0:0<(dstr ds).size)(h1: ¬(dstr ds).size>1):GT (z_374_3 ds) (rdg_h ds 0 ([bF,bF,undef,undef,undef]) (z_374_1 ds)):=
 sR (sc:=[(9,.op (.rwB false)),(3,.op (.rwB false)),(16,.stay)]) (by kernel_rfl) (aI (eF (a:=(((dstr ds).size:Nat):Int)) (b:=(0:Int)) (by omega)) (aI (dF (p:=(((dstr ds).size:Nat):Int)>(1:Int)) (by omega)) tt))
theorem rdg_in2(ds:List Nat)(h0:0<(dstr ds).size)(h1:(dstr ds).size>1)(d:Nat)(hd0:d<10)(hd1:d≠0)(hx:(dstr ds)[0]? =some (UInt8.ofNat (48+d))):GT (z_374_3 ds) (rdg_h ds 0 ([bT,bT,(.string (dstr ds)),(z_374_0 d),bF]) (z_374_1 ds)):=
 sR (sc:=[(9,.op (.rwB false)),(3,.op (.rwB true)),(2,.op (.sidx (UInt8.ofNat (48+d)))),(0,.op (.rwB false)),(12,.stay)]) (by kernel_rfl) (aI (eF (a:=(((dstr ds).size:Nat):Int)) (b:=(0:Int)) (by omega)) (aI (dT (p:=(((dstr ds).size:Nat):Int)>(1:Int)) (by omega)) (aI (show 0≤(0:Int)∧(dstr ds)[Int.toNat (0:Int)]? =some (UInt8.ofNat (48+d)) from⟨by omega,hx⟩) (aI (show ((((UInt8.ofNat (48+d)).toNat:Nat):Int)==(48:Int))=false from (byte_ne hd0 hd1)) tt))))
theorem rdg_r(ds:List Nat)(i d:Nat)(j jc:List Value)(hd:d<10)(hi:i<(dstr ds).size)(hm:(dstr ds).size<1099511627776)(hx:(dstr ds)[i]? =some (UInt8.ofNat (48+d))):GT (rdg_h ds i jc j) (rdg_h ds (i+1) ([(J jc 0),(J jc 1),(J jc 2),(J jc 3),(J jc 4)]) [(J j 0),(J j 1),(J j 2),(J j 3),(J j 4),(nI i),(.string (dstr ds)),(nI ((dstr ds).size)),bT,(nI i),(nI (i+1)),(.string (dstr ds)),(nI i),(z_374_0 d),bF,bF,(.string (dstr ds)),(nI i),(z_374_0 d),bF,bF]):=
 sR (sc:=[(6,.op (.rwB true)),(9,.op (.sidx (UInt8.ofNat (48+d)))),(0,.op (.rwB false)),(3,.op (.sidx (UInt8.ofNat (48+d)))),(0,.op (.rwB false)),(7,.op (.rwI (((i+1):Nat):Int))),(3,.stay)]) (by kernel_rfl) (aI (dT (p:=(i:Int)<(((dstr ds).size:Nat):Int)) (by omega)) (aI (show 0≤(i:Int)∧(dstr ds)[Int.toNat (i:Int)]? =some (UInt8.ofNat (48+d)) from⟨by omega,hx⟩) (aI (show decide ((((UInt8.ofNat (48+d)).toNat:Nat):Int)<(48:Int))=false from (byte_ge hd)) (aI (show 0≤(i:Int)∧(dstr ds)[Int.toNat (i:Int)]? =some (UInt8.ofNat (48+d)) from⟨by omega,hx⟩) (aI (show decide ((((UInt8.ofNat (48+d)).toNat:Nat):Int)>(57:Int))=false from (byte_le hd)) (aI (wI64 (a:=((i:Int)+(1:Int))) (r:=(((i+1):Nat):Int)) (by omega)) tt))))))
theorem rdg_o(ds:List Nat)(i:Nat)(j jc:List Value)(hi:(dstr ds).size≤i)(hr:GT (z_374_3 ds) (rdg_h ds i jc j)):CT 209 #[(.string (dstr ds))] (mkH 10 []) bT (mkH 10 []):=
 sF (sc:=[(6,.op (.rwB false)),(8,.stay)]) (by kernel_rfl) (aI (dF (p:=(i:Int)<(((dstr ds).size:Nat):Int)) (by omega)) tt) hr
theorem rdg_loop{ds:List Nat}(hd:Dig ds)(hm:ds.length<1099511627776): ∀(k i:Nat) (j jc:List Value),k=ds.length-i→i≤ds.length→GT ⟨Frame.enter Tryz.prog 209 #[(.string (dstr ds))] .normal,[],mkH 10 []⟩ (rdg_h ds i jc j)→CT 209 #[(.string (dstr ds))] (mkH 10 []) bT (mkH 10 []):=by
 intro k
 induction k with
 |zero=>
  intro i j jc hk hi hr
  exact rdg_o ds i j jc (by rw[dstr_size];omega) hr
 |succ k ih=>
  intro i j jc hk hi hr
  exact ih (i+1) _ _ (by omega) (by omega) (hr.trans (rdg_r ds i _ j jc (hd.get i) (by rw[dstr_size];omega) (by rw[dstr_size];exact hm) (dstr_get (by omega))))
theorem rdg_c1(n0:Nat)(ds:List Nat)(hG:10≤n0)(hd:Dig ds)(h0:0<ds.length)(hm:ds.length<1099511627776)(hh:1<ds.length→ds.getD 0 0≠0):FT 209 #[.string (dstr ds)] n0 [] bT [] []:=by
 by_cases h1:1<ds.length
 ·exact fsp_flat [] [] [] [] [] n0 (rdg_loop hd hm _ 0 _ _ rfl (Nat.zero_le _) (rdg_in2 ds (by rw[dstr_size];exact h0) (by rw[dstr_size];exact h1) _ (hd.get 0) (hh h1) (dstr_get h0))) rfl rfl rfl (by simp) (by simp) hG rfl rfl rfl (by simp) (by simp) rfl rfl rfl
 ·exact fsp_flat [] [] [] [] [] n0 (rdg_loop hd hm _ 0 _ _ rfl (Nat.zero_le _) (rdg_in1 ds (by rw[dstr_size];exact h0) (by rw[dstr_size];exact h1))) rfl rfl rfl (by simp) (by simp) hG rfl rfl rfl (by simp) (by simp) rfl rfl rfl
theorem fo_p(ds:List Nat)(hd:Dig ds)(h0:0<ds.length)(hm:ds.length<1099511627776)(hh:1<ds.length→ds.getD 0 0≠0):CT 151 #[(.string (dstr ds))] (mkH 10 []) bT (mkH 10 []):=
 sF (sc:=[(7,.call [] (.string (dstr ds)) [] []),(0,.call [] bT [] []),(2,.op (.rwB true)),(4,.stay)]) (by kernel_rfl) (aI (ab_pc 10 ds (by omega) hd h0) (aI (rdg_c1 10 ds (by omega) hd h0 hm hh) (aI (show (!((dstr ds).toList==(bts [45,48]).toList))=true from (dstr_ne_m0 hd h0)) tt))) (Gets.refl _)
theorem fo_pc(n0:Nat)(ds:List Nat)(hG:10≤n0)(hd:Dig ds)(h0:0<ds.length)(hm:ds.length<1099511627776)(hh:1<ds.length→ds.getD 0 0≠0):FT 151 #[(.string (dstr ds))] n0 [] bT [] []:=
 fsp_flat [] [] [] [] [] n0 (fo_p ds hd h0 hm hh) rfl rfl rfl (by simp) (by simp) hG rfl rfl rfl (by simp) (by simp) rfl rfl rfl
theorem fo_m(ds:List Nat)(hd:Dig ds)(h0:0<ds.length)(hm:ds.length<1099511627776)(hh:1<ds.length→ds.getD 0 0≠0)(h1:ds.getD 0 0≠0):CT 151 #[(.string (mstr ds))] (mkH 10 []) bT (mkH 10 []):=
 sF (sc:=[(7,.call [] (.string (dstr ds)) [] []),(0,.call [] bT [] []),(2,.op (.rwB true)),(4,.stay)]) (by kernel_rfl) (aI (ab_mc 10 ds (by omega)) (aI (rdg_c1 10 ds (by omega) hd h0 hm hh) (aI (show (!((mstr ds).toList==(bts [45,48]).toList))=true from (mstr_ne_m0 hd h0 h1)) tt))) (Gets.refl _)
theorem fo_mc(n0:Nat)(ds:List Nat)(hG:10≤n0)(hd:Dig ds)(h0:0<ds.length)(hm:ds.length<1099511627776)(hh:1<ds.length→ds.getD 0 0≠0)(h1:ds.getD 0 0≠0):FT 151 #[(.string (mstr ds))] n0 [] bT [] []:=
 fsp_flat [] [] [] [] [] n0 (fo_m ds hd h0 hm hh h1) rfl rfl rfl (by simp) (by simp) hG rfl rfl rfl (by simp) (by simp) rfl rfl rfl
noncomputable def tip_h_f(ds:List Nat)(l i:Nat)(j:List Value):Frame:=⟨103,List.toArray [(.string (dstr ds)),uu,(lI 0),bF,(.string (dstr ds)),(nI l),(nI i),(.string (dstr ds)),(.string (dstr ds)),(.string (dstr ds)),bT,bF,bF,(.string (dstr ds)),(J j 0),bF,bF,(J j 1),(J j 2),(J j 3),(J j 4),(J j 5),(J j 6),(J j 7),(J j 8),(J j 9),(J j 10),(J j 11),(J j 12),(J j 13),(J j 14),uu,uu,uu,uu,uu],[.code (cd Tryz.f103 [1,1,1,1,0,1,0,0]),.inLoop (cd Tryz.f103 [1,1,1,1,0,1,0,0]),.inBlock 0,.code (cd Tryz.f103 [1,1,1,1,1])],[],.run,.normal,none⟩
noncomputable def tip_h_o(ds:List Nat)(l i:Nat):List (Nat×AObj):=[]
noncomputable def tip_h(ds:List Nat)(l i:Nat)(j:List Value):AS:=⟨tip_h_f ds l i j,[],mkH 10 (tip_h_o ds l i)⟩
theorem tip_in(ds:List Nat)(hd:Dig ds)(h0:0<ds.length)(hm:ds.length≤15)(hh:1<ds.length→ds.getD 0 0≠0)(hs:(dstr ds).size=ds.length):GT ⟨Frame.enter Tryz.prog 103 #[(.string (dstr ds))] .normal,[],mkH 10 []⟩ (tip_h ds 0 0 [(nI ((dstr ds).size)),undef,undef,undef,undef,undef,undef,undef,undef,undef,undef,undef,undef,undef,undef]):=
 sR (sc:=[(8,.call [] (.string (dstr ds)) [] []),(6,.call [] bT [] []),(4,.op (.rwB false)),(15,.stay)]) (by kernel_rfl) (aI (ab_pc 10 ds (by omega) hd h0) (aI (fo_pc 10 ds (by omega) hd h0 (by omega) hh) (aI (dF (p:=(((dstr ds).size:Nat):Int)>(15:Int)) (by omega)) tt)))
theorem tip_r(ds:List Nat)(l i d:Nat)(j:List Value)(hd:d<10)(hl:l<100000000000000)(hi:i<(dstr ds).size)(hm:(dstr ds).size<1099511627776)(hx:(dstr ds)[i]? =some (UInt8.ofNat (48+d))):GT (tip_h ds l i j) (tip_h ds ((10*l)+d) (i+1) [(J j 0),(nI i),(.string (dstr ds)),(nI ((dstr ds).size)),bT,(nI i),(nI (i+1)),(nI l),(nI (10*l)),(.string (dstr ds)),(nI i),(z_374_0 d),(nB d),(nI d),(nI ((10*l)+d))]):=
 sR (sc:=[(6,.op (.rwB true)),(7,.op (.rwI (((10*l):Nat):Int))),(2,.op (.sidx (UInt8.ofNat (48+d)))),(0,.op (.rwI (d:Int))),(0,.op (.rwI (d:Int))),(0,.op (.rwI ((((10*l)+d):Nat):Int))),(5,.op (.rwI (((i+1):Nat):Int))),(3,.stay)]) (by kernel_rfl) (aI (dT (p:=(i:Int)<(((dstr ds).size:Nat):Int)) (by omega)) (aI (wI64 (a:=((10:Int)*(l:Int))) (r:=(((10*l):Nat):Int)) (by omega)) (aI (show 0≤(i:Int)∧(dstr ds)[Int.toNat (i:Int)]? =some (UInt8.ofNat (48+d)) from⟨by omega,hx⟩) (aI (show IntKind.wrap .u8 ((((UInt8.ofNat (48+d)).toNat:Nat):Int)-(48:Int))=(d:Int) from (byte_sub hd)) (aI (wI64 (a:=(d:Int)) (r:=(d:Int)) (by omega)) (aI (wI64 (a:=((((10*l):Nat):Int)+(d:Int))) (r:=((((10*l)+d):Nat):Int)) (by omega)) (aI (wI64 (a:=((i:Int)+(1:Int))) (r:=(((i+1):Nat):Int)) (by omega)) tt)))))))
theorem tip_o(ds:List Nat)(l i:Nat)(j:List Value)(hd:Dig ds)(h0:0<ds.length)(hl:l<1000000000000000)(hi:(dstr ds).size≤i)(hr:GT ⟨Frame.enter Tryz.prog 103 #[(.string (dstr ds))] .normal,[],mkH 10 []⟩ (tip_h ds l i j)):CT 103 #[(.string (dstr ds))] (mkH 10 []) (.tuple #[(nI l),bT]) (mkH 10 []):=
 sF (sc:=[(6,.op (.rwB false)),(7,.call [] bF [] []),(10,.stay)]) (by kernel_rfl) (aI (dF (p:=(i:Int)<(((dstr ds).size:Nat):Int)) (by omega)) (aI (ne_pc 10 ds (by omega) hd h0) tt)) hr
theorem tip_loop{ds:List Nat}(hd:Dig ds)(h0:0<ds.length)(hL:ds.length≤15): ∀(k i:Nat) (j:List Value),k=ds.length-i→i≤ds.length→GT ⟨Frame.enter Tryz.prog 103 #[(.string (dstr ds))] .normal,[],mkH 10 []⟩ (tip_h ds (dval (ds.take i)) i j)→CT 103 #[(.string (dstr ds))] (mkH 10 []) (.tuple #[.int .i64 (((dval ds:Nat):Int)),.bool true]) (mkH 10 []):=by
 intro k
 induction k with
 |zero=>
  intro i j hk hi hr
  have hlt:dval ds<1000000000000000:=by
   have h2:=dval_lt _ hd
   have h3:10^ds.length≤10^15:=Nat.pow_le_pow_right (by decide) hL
   have h4:(10:Nat)^15=1000000000000000:=by decide
   omega
  rw[List.take_of_length_le (by omega)]at hr
  exact tip_o ds (dval ds) i j hd h0 hlt (by rw[dstr_size];omega) hr
 |succ k ih=>
  intro i j hk hi hr
  have hlt:dval (ds.take i)<100000000000000:=by
   have h2:=dval_lt _ (hd.take i)
   have h3:10^(ds.take i).length≤10^14:=Nat.pow_le_pow_right (by decide) (by rw[List.length_take];omega)
   have h4:(10:Nat)^14=100000000000000:=by decide
   omega
  have r:=tip_r ds _ i (ds.getD i 0) j (hd.get i) hlt (by rw[dstr_size];omega) (by rw[dstr_size];omega) (dstr_get (by omega))
  rw[show 10*dval (ds.take i)+ds.getD i 0=dval (ds.take (i+1)) by rw[dval_take_succ (by omega),Nat.mul_comm]]at r
  exact ih (i+1) _ (by omega) (by omega) (hr.trans r)
theorem tip_c(n0:Nat)(ds:List Nat)(hG:10≤n0)(hd:Dig ds)(h0:0<ds.length)(hm:ds.length≤15)(hh:1<ds.length→ds.getD 0 0≠0):FT 103 #[(.string (dstr ds))] n0 [] (.tuple #[.int .i64 (((dval ds:Nat):Int)),.bool true]) [] []:=
 fsp_flat [] [] [] [] [] n0 (tip_loop hd h0 hm _ 0 _ rfl (Nat.zero_le _) (tip_in ds hd h0 hm hh (dstr_size ds))) rfl rfl rfl (by simp) (by simp) hG rfl rfl rfl (by simp) (by simp) rfl rfl rfl
noncomputable def tim_h_f(ds:List Nat)(l i:Nat)(j:List Value):Frame:=⟨103,List.toArray [(.string (mstr ds)),uu,(lI 0),bF,(.string (dstr ds)),(nI l),(nI i),(.string (mstr ds)),(.string (dstr ds)),(.string (mstr ds)),bT,bF,bF,(.string (dstr ds)),(J j 0),bF,bF,(J j 1),(J j 2),(J j 3),(J j 4),(J j 5),(J j 6),(J j 7),(J j 8),(J j 9),(J j 10),(J j 11),(J j 12),(J j 13),(J j 14),uu,uu,uu,uu,uu],[.code (cd Tryz.f103 [1,1,1,1,0,1,0,0]),.inLoop (cd Tryz.f103 [1,1,1,1,0,1,0,0]),.inBlock 0,.code (cd Tryz.f103 [1,1,1,1,1])],[],.run,.normal,none⟩
noncomputable def tim_h_o(ds:List Nat)(l i:Nat):List (Nat×AObj):=[]
noncomputable def tim_h(ds:List Nat)(l i:Nat)(j:List Value):AS:=⟨tim_h_f ds l i j,[],mkH 10 (tim_h_o ds l i)⟩
theorem tim_in(ds:List Nat)(hd:Dig ds)(h0:0<ds.length)(hm:ds.length≤15)(hh:1<ds.length→ds.getD 0 0≠0)(h1:ds.getD 0 0≠0)(hs:(dstr ds).size=ds.length):GT ⟨Frame.enter Tryz.prog 103 #[(.string (mstr ds))] .normal,[],mkH 10 []⟩ (tim_h ds 0 0 [(nI ((dstr ds).size)),undef,undef,undef,undef,undef,undef,undef,undef,undef,undef,undef,undef,undef,undef]):=
 sR (sc:=[(8,.call [] (.string (dstr ds)) [] []),(6,.call [] bT [] []),(4,.op (.rwB false)),(15,.stay)]) (by kernel_rfl) (aI (ab_mc 10 ds (by omega)) (aI (fo_mc 10 ds (by omega) hd h0 (by omega) hh h1) (aI (dF (p:=(((dstr ds).size:Nat):Int)>(15:Int)) (by omega)) tt)))
theorem tim_r(ds:List Nat)(l i d:Nat)(j:List Value)(hd:d<10)(hl:l<100000000000000)(hi:i<(dstr ds).size)(hm:(dstr ds).size<1099511627776)(hx:(dstr ds)[i]? =some (UInt8.ofNat (48+d))):GT (tim_h ds l i j) (tim_h ds ((10*l)+d) (i+1) [(J j 0),(nI i),(.string (dstr ds)),(nI ((dstr ds).size)),bT,(nI i),(nI (i+1)),(nI l),(nI (10*l)),(.string (dstr ds)),(nI i),(z_374_0 d),(nB d),(nI d),(nI ((10*l)+d))]):=
 sR (sc:=[(6,.op (.rwB true)),(7,.op (.rwI (((10*l):Nat):Int))),(2,.op (.sidx (UInt8.ofNat (48+d)))),(0,.op (.rwI (d:Int))),(0,.op (.rwI (d:Int))),(0,.op (.rwI ((((10*l)+d):Nat):Int))),(5,.op (.rwI (((i+1):Nat):Int))),(3,.stay)]) (by kernel_rfl) (aI (dT (p:=(i:Int)<(((dstr ds).size:Nat):Int)) (by omega)) (aI (wI64 (a:=((10:Int)*(l:Int))) (r:=(((10*l):Nat):Int)) (by omega)) (aI (show 0≤(i:Int)∧(dstr ds)[Int.toNat (i:Int)]? =some (UInt8.ofNat (48+d)) from⟨by omega,hx⟩) (aI (show IntKind.wrap .u8 ((((UInt8.ofNat (48+d)).toNat:Nat):Int)-(48:Int))=(d:Int) from (byte_sub hd)) (aI (wI64 (a:=(d:Int)) (r:=(d:Int)) (by omega)) (aI (wI64 (a:=((((10*l):Nat):Int)+(d:Int))) (r:=((((10*l)+d):Nat):Int)) (by omega)) (aI (wI64 (a:=((i:Int)+(1:Int))) (r:=(((i+1):Nat):Int)) (by omega)) tt)))))))
theorem tim_o(ds:List Nat)(l i:Nat)(j:List Value)(hd:Dig ds)(h0:0<ds.length)(hl:l<1000000000000000)(hi:(dstr ds).size≤i)(hr:GT ⟨Frame.enter Tryz.prog 103 #[(.string (mstr ds))] .normal,[],mkH 10 []⟩ (tim_h ds l i j)):CT 103 #[(.string (mstr ds))] (mkH 10 []) (.tuple #[(.int .i64 (-(l:Int))),bT]) (mkH 10 []):=
 sF (sc:=[(6,.op (.rwB false)),(7,.call [] bT [] []),(4,.op (.rwI (-(l:Int)))),(9,.stay)]) (by kernel_rfl) (aI (dF (p:=(i:Int)<(((dstr ds).size:Nat):Int)) (by omega)) (aI (ne_mc 10 ds (by omega)) (aI (wI64 (a:=((0:Int)-(l:Int))) (r:=(-(l:Int))) (by omega)) tt))) hr
theorem tim_loop{ds:List Nat}(hd:Dig ds)(h0:0<ds.length)(hL:ds.length≤15): ∀(k i:Nat) (j:List Value),k=ds.length-i→i≤ds.length→GT ⟨Frame.enter Tryz.prog 103 #[(.string (mstr ds))] .normal,[],mkH 10 []⟩ (tim_h ds (dval (ds.take i)) i j)→CT 103 #[(.string (mstr ds))] (mkH 10 []) (.tuple #[.int .i64 (-((dval ds:Nat):Int)),.bool true]) (mkH 10 []):=by
 intro k
 induction k with
 |zero=>
  intro i j hk hi hr
  have hlt:dval ds<1000000000000000:=by
   have h2:=dval_lt _ hd
   have h3:10^ds.length≤10^15:=Nat.pow_le_pow_right (by decide) hL
   have h4:(10:Nat)^15=1000000000000000:=by decide
   omega
  rw[List.take_of_length_le (by omega)]at hr
  exact tim_o ds (dval ds) i j hd h0 hlt (by rw[dstr_size];omega) hr
 |succ k ih=>
  intro i j hk hi hr
  have hlt:dval (ds.take i)<100000000000000:=by
   have h2:=dval_lt _ (hd.take i)
   have h3:10^(ds.take i).length≤10^14:=Nat.pow_le_pow_right (by decide) (by rw[List.length_take];omega)
   have h4:(10:Nat)^14=100000000000000:=by decide
   omega
  have r:=tim_r ds _ i (ds.getD i 0) j (hd.get i) hlt (by rw[dstr_size];omega) (by rw[dstr_size];omega) (dstr_get (by omega))
  rw[show 10*dval (ds.take i)+ds.getD i 0=dval (ds.take (i+1)) by rw[dval_take_succ (by omega),Nat.mul_comm]]at r
  exact ih (i+1) _ (by omega) (by omega) (hr.trans r)
theorem tim_c(n0:Nat)(ds:List Nat)(hG:10≤n0)(hd:Dig ds)(h0:0<ds.length)(hm:ds.length≤15)(hh:1<ds.length→ds.getD 0 0≠0)(h1:ds.getD 0 0≠0):FT 103 #[(.string (mstr ds))] n0 [] (.tuple #[.int .i64 (-((dval ds:Nat):Int)),.bool true]) [] []:=
 fsp_flat [] [] [] [] [] n0 (tim_loop hd h0 hm _ 0 _ rfl (Nat.zero_le _) (tim_in ds hd h0 hm hh h1 (dstr_size ds))) rfl rfl rfl (by simp) (by simp) hG rfl rfl rfl (by simp) (by simp) rfl rfl rfl
theorem ti_i(z:Int)(n0:Nat)(hG:10≤n0)(hz:(digs z.natAbs).length≤15):FT 103 #[.string (istr z)] n0 [] (.tuple #[.int .i64 z,.bool true]) [] []:=by
 rcases int_cases z with⟨m,rfl,hm⟩|⟨m,h0,rfl,hm⟩
 ·rw[istr_nn]
  rw[hm]at hz
  have h:=tip_c n0 (digs m) hG (digs_dig m) (digs_len_pos m) hz (fun h=>digs_head m (by
   rcases Nat.eq_zero_or_pos m with q|q
   ·rw[q,digs_zero]at h;exact absurd h (by decide)
   ·exact q))
  rw[digs_val]at h
  exact h
 ·rw[istr_neg h0]
  rw[hm]at hz
  have h:=tim_c n0 (digs m) hG (digs_dig m) (digs_len_pos m) hz (fun _=>digs_head m h0) (digs_head m h0)
  rw[digs_val]at h
  exact h
theorem istr_sz(z:Int):(istr z).size=(digs z.natAbs).length+(if z<0 then 1 else 0):=by
 unfold istr
 split
 ·simp[mstr,ByteArray.size]
 ·rename_i h
  rw[dstr_size,show z.toNat=z.natAbs by omega];rfl
theorem istr_sz_le(z:Int):(istr z).size≤(digs z.natAbs).length+1:=by rw[istr_sz];split<;>omega
theorem ab_i(z:Int)(n0:Nat)(hG:10≤n0):FT 42 #[.string (istr z)] n0 [] (.string (dstr (digs z.natAbs))) [] []:=by
 rcases int_cases z with⟨k,rfl,hm⟩|⟨k,h0,rfl,hm⟩
 ·rw[istr_nn,hm]
  exact ab_pc n0 _ hG (digs_dig _) (digs_len_pos _)
 ·rw[istr_neg h0,hm]
  exact ab_mc n0 _ hG
theorem sm_4(x y:Int)(h0:(istr x).size≤10)(h1:(istr y).size≤10)(h2:(digs x.natAbs).length≤9)(h3:(digs y.natAbs).length≤9)(hx:(digs x.natAbs).length<1099511627776)(hy:(digs y.natAbs).length<1099511627776):CT 47 #[(.string (istr x)),(.string (istr y))] (mkH 10 []) (.tuple #[(.int .i64 x),(.int .i64 y),bT]) (mkH 10 []):=
 sF (sc:=[(11,.op (.rwB false)),(3,.op (.rwB false)),(3,.call [] (.string (dstr (digs x.natAbs))) [] []),(1,.op (.rwB false)),(3,.call [] (.string (dstr (digs y.natAbs))) [] []),(1,.op (.rwB false)),(7,.call [] (.tuple #[(.int .i64 x),bT]) [] []),(9,.call [] (.tuple #[(.int .i64 y),bT]) [] []),(15,.stay)]) (by kernel_rfl) (aI (show decide ((((istr x).size:Nat):Int)>(10:Int))=false from (by simp only[decide_eq_true_eq,decide_eq_false_iff_not,dstr_size,gt_iff_lt]<;>omega)) (aI (show decide ((((istr y).size:Nat):Int)>(10:Int))=false from (by simp only[decide_eq_true_eq,decide_eq_false_iff_not,dstr_size,gt_iff_lt]<;>omega)) (aI (ab_i x 10 (by omega)) (aI (show decide ((((dstr (digs x.natAbs)).size:Nat):Int)>(9:Int))=false from (by simp only[decide_eq_true_eq,decide_eq_false_iff_not,dstr_size,gt_iff_lt]<;>omega)) (aI (ab_i y 10 (by omega)) (aI (show decide ((((dstr (digs y.natAbs)).size:Nat):Int)>(9:Int))=false from (by simp only[decide_eq_true_eq,decide_eq_false_iff_not,dstr_size,gt_iff_lt]<;>omega)) (aI (ti_i x 10 (by omega) (by omega)) (aI (ti_i y 10 (by omega) (by omega)) tt)))))))) (Gets.refl _)
theorem sm_t(x y:Int)(n0:Nat)(hG:10≤n0)(hx:(digs x.natAbs).length≤9)(hy:(digs y.natAbs).length≤9):FT 47 #[.string (istr x),.string (istr y)] n0 [] (.tuple #[.int .i64 x,.int .i64 y,.bool true]) [] []:=
 have h1:=istr_sz_le x
 have h2:=istr_sz_le y
 fsp_flat [] [] [] [] [] n0 (sm_4 x y (by omega) (by omega) hx hy (by omega) (by omega)) rfl rfl rfl (by simp) (by simp) hG rfl rfl rfl (by simp) (by simp) rfl rfl rfl
theorem d9{z:Int}(h:z.natAbs<1000000000):(digs z.natAbs).length≤9:=digs_len_le (ndig_lt 9 _ h) (by decide)
theorem ne_f(n0:Nat)(z:Int)(hG:10≤n0)(hz: ¬z<0):FT 50 #[.string (istr z)] n0 [] bF [] []:=by
 rcases int_cases z with⟨n,rfl,hm⟩|⟨n,h0,rfl,hm⟩
 ·rw[istr_nn];exact ne_pc n0 _ hG (digs_dig n) (digs_len_pos n)
 ·omega
theorem ab_z(n0:Nat)(z:Int)(hG:10≤n0):FT 42 #[.string (istr z)] n0 [] (.string (istr ((z.natAbs:Nat):Int))) [] []:=by
 rw[istr_nn]
 exact ab_i z n0 hG
theorem rtx_o(a b:Int)(ha:a.natAbs<1000000000)(hb:b.natAbs<1000000000)(hp:(a*b).natAbs<1000000000000000000):CT 18 #[(.string (istr a)),(.string (istr b))] (mkH 10 []) (.string (istr (a*b))) (mkH 10 []):=
 sF (sc:=[(9,.call [] (.tuple #[(.int .i64 a),(.int .i64 b),bT]) [] []),(17,.op (.rwI (a*b))),(0,.call [] (.string (istr (a*b))) [] []),(3,.stay)]) (by kernel_rfl) (aI (sm_t a b 10 (by omega) (d9 (by omega)) (d9 (by omega))) (aI (wI64 (a:=(a*b)) (r:=(a*b)) (by omega)) (aI (oi_i (a*b) 10 (by omega) (by omega)) tt))) (Gets.refl _)
theorem rtm_c(n0:Nat)(a b:Int)(ha:a.natAbs<1000000000)(hb:b.natAbs<1000000000)(hG:10≤n0):FT 18 #[(.string (istr a)),(.string (istr b))] n0 [] (.string (istr (a*b))) [] []:=by
 have hp:(a*b).natAbs<1000000000000000000:=by
  rw[Int.natAbs_mul]
  have:a.natAbs*b.natAbs≤999999999*999999999:=Nat.mul_le_mul (by omega) (by omega)
  omega
 exact fsp_flat [] [] [] [] [] n0 (rtx_o a b ha hb hp) rfl rfl rfl (by simp) (by simp) hG rfl rfl rfl (by simp) (by simp) rfl rfl rfl
end Go.Proofs.YtdgbfelbfhgglaaGreatDoor
