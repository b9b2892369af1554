import Derived.Test.YtdgbfelbfhgglaaGreatDoorPRatB
import Derived.Test.YtdgbfelbfhgglaaGreatDoorLF
import Derived.Test.YtdgbfelbfhgglaaGreatDoorAl
import Derived.Test.YtdgbfelbfhgglaaGreatDoorPGcdS
import Derived.Test.YtdgbfelbfhgglaaGreatDoorK
set_option linter.unusedVariables false
set_option linter.unusedSimpArgs false
set_option maxRecDepth 100000
namespace Go.Proofs.YtdgbfelbfhgglaaGreatDoor
open Go Go.AE Seg
theorem gob1_eq:Cn.gob3=gob1:=by kernel_rfl
theorem gl_eq:Cn.gl=[(0,Cn.gob0),(3,gob1),(7,Cn.gob7),(8,Cn.gob8)]:=by rw[←gob1_eq];rfl
theorem reckoned_c(n:Nat):FT 12 #[] n [(0,Cn.gob0),(3,gob1),(7,Cn.gob7),(8,Cn.gob8)] bT [(0,some Cn.gob0),(3,some gob1),(7,some Cn.gob7),(8,some Cn.gob8)] []:=by
 have h:=fsp_of_tell Cn.tell14 Cn.glOK (by kernel_rfl) (by kernel_rfl) n
 rw[gl_eq]at h
 exact h
theorem dstr_snoc(ds:List Nat)(e:Nat):dstr ds++dstr [e]=dstr (ds++[e]):=by
 apply ByteArray.ext
 simp[ByteArray.data_append,dstr]
theorem dec_eq{n:Nat}(h: ¬n<10):dstr (digs (n/10))++dstr [n%10]=dstr (digs n):=by rw[dstr_snoc,←digs_big h]
theorem b2s_one{x e:Nat}(h:x=48+e):0+1≤([.int .u8 ((x:Nat):Int)]:List Value).length∧(intsOf (List.take 1 (List.drop 0 ([.int .u8 ((x:Nat):Int)]:List Value)))).map (fun ns=>(⟨(ns.map fun n=>UInt8.ofNat n.toNat).toArray⟩:ByteArray))=some (dstr [e]):=by
 subst h
 exact⟨Nat.le_refl _,rfl⟩
theorem de_s(n:Nat)(hn:n<1000000000000000000)(h:n<10)(e:Nat)(he:e=n):CT 97 #[(nI n)] (mkH 10 []) (.string (dstr [e])) (mkH 11 []):=
 sF (sc:=[(8,.op (.rwB false)),(7,.op (.rwB true)),(13,.op (.rwI (((n%10):Nat):Int))),(0,.op (.rwI (((48+(n%10)):Nat):Int))),(0,.op (.rwI (((48+(n%10)):Nat):Int))),(1,.op (.b2s (dstr [e]))),(7,.stay)]) (by kernel_rfl) (aI (dF (p:=(n:Int)<(0:Int)) (by omega)) (aI (dT (p:=(n:Int)<(10:Int)) (by omega)) (aI (show (Int.tmod (n:Int) (10:Int))=(((n%10):Nat):Int) from (by rw[Int.tmod_eq_emod_of_nonneg (by omega)]<;>omega)) (aI (wI64 (a:=((48:Int)+(((n%10):Nat):Int))) (r:=(((48+(n%10)):Nat):Int)) (by omega)) (aI (wU8 (a:=(((48+(n%10)):Nat):Int)) (r:=(((48+(n%10)):Nat):Int)) (by omega)) (aI (show 0+1≤([(nB (48+(n%10)))]).length∧(intsOf (List.take 1 (List.drop 0 [(nB (48+(n%10)))]))).map (fun ns=>(⟨(ns.map fun n=>UInt8.ofNat n.toNat).toArray⟩:ByteArray))=some (dstr [e]) from (b2s_one (by omega))) tt)))))) (Gets.refl _)
theorem de_r(n:Nat)(hn:n<1000000000000000000)(h: ¬n<10)(e:Nat)(he:e=n%10)(sr:ByteArray)(hsz:sr.size<1099511627776)(hrec: ∀n0,10≤n0→FT 97 #[(nI (n/10))] n0 [] (.string sr) [] []):CT 97 #[(nI n)] (mkH 10 []) (.string (sr++(dstr [e]))) (mkH 11 []):=
 sF (sc:=[(8,.op (.rwB false)),(7,.op (.rwB false)),(6,.op (.rwI (((n/10):Nat):Int))),(0,.call [] (.string sr) [] []),(1,.op (.rwI (((n%10):Nat):Int))),(8,.op (.rwI ((((n%10)%10):Nat):Int))),(0,.op (.rwI (((48+((n%10)%10)):Nat):Int))),(0,.op (.rwI (((48+((n%10)%10)):Nat):Int))),(1,.op (.b2s (dstr [e]))),(4,.op (.cat (sr++(dstr [e])))),(3,.stay)]) (by kernel_rfl) (aI (dF (p:=(n:Int)<(0:Int)) (by omega)) (aI (dF (p:=(n:Int)<(10:Int)) (by omega)) (aI (show IntKind.wrap .i64 (Int.tdiv (n:Int) (10:Int))=(((n/10):Nat):Int) from (by rw[Int.tdiv_eq_ediv_of_nonneg (by omega),wrap_i64 (by omega) (by omega)]<;>omega)) (aI (hrec 10 (by omega)) (aI (show (Int.tmod (n:Int) (10:Int))=(((n%10):Nat):Int) from (by rw[Int.tmod_eq_emod_of_nonneg (by omega)]<;>omega)) (aI (show (Int.tmod (((n%10):Nat):Int) (10:Int))=((((n%10)%10):Nat):Int) from (by rw[Int.tmod_eq_emod_of_nonneg (by omega)]<;>omega)) (aI (wI64 (a:=((48:Int)+((((n%10)%10):Nat):Int))) (r:=(((48+((n%10)%10)):Nat):Int)) (by omega)) (aI (wU8 (a:=(((48+((n%10)%10)):Nat):Int)) (r:=(((48+((n%10)%10)):Nat):Int)) (by omega)) (aI (show 0+1≤([(nB (48+((n%10)%10)))]).length∧(intsOf (List.take 1 (List.drop 0 [(nB (48+((n%10)%10)))]))).map (fun ns=>(⟨(ns.map fun n=>UInt8.ofNat n.toNat).toArray⟩:ByteArray))=some (dstr [e]) from (b2s_one (by omega))) (aI (show (((sr.size+(dstr [e]).size:Nat)):Int)≤9223372036854775807∧sr++(dstr [e])=(sr++(dstr [e])) from⟨by rw[show (dstr [e]).size=1 from rfl];omega,rfl⟩) tt)))))))))) (Gets.refl _)
theorem de_c: ∀(n n0:Nat),10≤n0→n<1000000000000000000→FT 97 #[.int .i64 ((n:Nat):Int)] n0 [] (.string (istr (n:Int))) [] []:=by
 intro n
 induction n using Nat.strongRecOn with
 |_ n ih=>
  intro n0 hG hn
  rw[istr_nn]
  by_cases h:n<10
  ·rw[digs_small h]
   exact fsp_flat [] [] [] [] [] n0 (de_s n hn h n rfl) rfl rfl rfl (by simp) (by simp) hG rfl rfl rfl (by simp) (by simp) rfl rfl rfl
  ·have hr: ∀n0,10≤n0→FT 97 #[(nI (n/10))] n0 [] (.string (dstr (digs (n/10)))) [] []:=fun n0 hG=>by
    have:=ih (n/10) (by omega) n0 hG (by omega)
    rw[istr_nn]at this
    exact this
   have hsz:(dstr (digs (n/10))).size<1099511627776:=by
    rw[dstr_size]
    have:=digs_len_le (ndig_lt 18 (n/10) (by omega)) (by decide)
    omega
   rw[←dec_eq h]
   exact fsp_flat [] [] [] [] [] n0 (de_r n hn h _ rfl _ hsz hr) rfl rfl rfl (by simp) (by simp) hG rfl rfl rfl (by simp) (by simp) rfl rfl rfl
theorem de_m(n:Nat)(h0:0<n)(hn:n<1000000000000000000)(ds:List Nat)(hsz:(dstr ds).size<1099511627776)(hrec: ∀n0,10≤n0→FT 97 #[.int .i64 (n:Int)] n0 [] (.string (dstr ds)) [] []):CT 97 #[(.int .i64 (-(n:Int)))] (mkH 10 []) (.string ((bts [45])++(dstr ds))) (mkH 10 []):=
 sF (sc:=[(8,.op (.rwB true)),(5,.op (.rwI (n:Int))),(0,.call [] (.string (dstr ds)) [] []),(0,.op (.cat ((bts [45])++(dstr ds)))),(3,.stay)]) (by kernel_rfl) (aI (dT (p:=(-(n:Int))<(0:Int)) (by omega)) (aI (wI64 (a:=((0:Int)-(-(n:Int)))) (r:=(n:Int)) (by omega)) (aI (hrec 10 (by omega)) (aI (show ((((bts [45]).size+(dstr ds).size:Nat)):Int)≤9223372036854775807∧(bts [45])++(dstr ds)=((bts [45])++(dstr ds)) from⟨by rw[show (Seg.bts [45]).size=1 from rfl];omega,rfl⟩) tt)))) (Gets.refl _)
theorem de_i(z:Int)(n0:Nat)(hG:10≤n0)(hz:z.natAbs<1000000000000000000):FT 97 #[.int .i64 z] n0 [] (.string (istr z)) [] []:=by
 rcases int_cases z with⟨m,rfl,hm⟩|⟨m,h0,rfl,hm⟩
 ·exact de_c m n0 hG (by omega)
 ·have hr: ∀n0,10≤n0→FT 97 #[.int .i64 ((m:Nat):Int)] n0 [] (.string (dstr (digs m))) [] []:=fun n0 hG=>by
   have:=de_c m n0 hG (by omega)
   rw[istr_nn]at this
   exact this
  have hsz:(dstr (digs m)).size<1099511627776:=by
   rw[dstr_size]
   have:=digs_len_le (ndig_lt 18 m (by omega)) (by decide)
   omega
  rw[istr_neg h0,←mstr_cat]
  exact fsp_flat [] [] [] [] [] n0 (de_m m h0 (by omega) _ hsz hr) rfl rfl rfl (by simp) (by simp) hG rfl rfl rfl (by simp) (by simp) rfl rfl rfl
noncomputable section
abbrev z_2b5_0(p:Int)(q:Nat):AS:=⟨Frame.enter Tryz.prog 43 #[(.int .i64 p),(nI q)] .normal,[],mkH 10 []⟩
end
noncomputable def ro_h_f(p:Int)(q:Nat)(a b:Int)(jc:List Value)(j:List Value):Frame:=⟨43,List.toArray [(.int .i64 p),(nI q),uu,uu,(pt 10),(.int .i64 a),(.int .i64 b),(J jc 0),(J jc 1),(J jc 2),(J jc 3),(J jc 4),(J jc 5),(J j 0),(J j 1),(J j 2),(J j 3),(J j 4),(J j 5),uu,uu,uu,uu,uu,uu,uu,uu,uu,uu,uu],[.code (cd Tryz.f43 [1,1,1,0,0,0]),.inLoop (cd Tryz.f43 [1,1,1,0,0,0]),.inBlock 0,.code (cd Tryz.f43 [1,1,1,1])],[],.run,.normal,none⟩
noncomputable def ro_h_o(p:Int)(q:Nat)(a b:Int)(jc:List Value):List (Nat×AObj):=[(10,(.cells [(.string (bts [])),(.string (bts []))] 24 none false))]
noncomputable def ro_h(p:Int)(q:Nat)(a b:Int)(jc:List Value)(j:List Value):AS:=⟨ro_h_f p q a b jc j,[],mkH 11 (ro_h_o p q a b jc)⟩
theorem ro_inp(p:Int)(q:Nat)(hp:p.natAbs<1000000000)(hq:q<1000000000)(h0: ¬p<0):GT (z_2b5_0 p q) (ro_h p q p (q:Int) ([(.int .i64 p),(nI q),(.int .i64 p),bF,undef,undef]) [undef,undef,undef,undef,undef,undef]):=
 sR (sc:=[(15,.op (.rwB false)),(6,.stay)]) (by kernel_rfl) (aI (dF (p:=p<(0:Int)) (by omega)) tt)
theorem ro_inm(p:Int)(q:Nat)(hp:p.natAbs<1000000000)(hq:q<1000000000)(h0:p<0):GT (z_2b5_0 p q) (ro_h p q (-p) (q:Int) ([(.int .i64 p),(nI q),(.int .i64 p),bT,(.int .i64 p),(.int .i64 (-p))]) [undef,undef,undef,undef,undef,undef]):=
 sR (sc:=[(15,.op (.rwB true)),(4,.op (.rwI (-p))),(5,.stay)]) (by kernel_rfl) (aI (dT (p:=p<(0:Int)) (by omega)) (aI (show IntKind.wrap .i64 ((0:Int)-p)=(-p) from (by rw[wrap_i64 (by omega) (by omega)];try omega)) tt))
theorem ro_r(p:Int)(q:Nat)(hp:p.natAbs<1000000000)(hq:q<1000000000)(a b:Int)(jc j:List Value)(h0:b≠0):GT (ro_h p q a b jc j) (ro_h p q b (Int.tmod a b) ([(J jc 0),(J jc 1),(J jc 2),(J jc 3),(J jc 4),(J jc 5)]) [(.int .i64 b),bT,(.int .i64 b),(.int .i64 a),(.int .i64 b),(.int .i64 (Int.tmod a b))]):=
 sR (sc:=[(4,.op (.rwB true)),(4,.drw [(3,.div (Int.tmod a b))]),(2,.stay)]) (by kernel_rfl) (aI (nT (a:=b) (b:=(0:Int)) (by omega)) (aI (aI tt (aI tt (aI tt (aI (show b≠0∧(Int.tmod a b)=(Int.tmod a b) from⟨h0,rfl⟩) (aI tt (aI tt tt)))))) tt))
theorem ro_o(p:Int)(q:Nat)(hp:p.natAbs<1000000000)(hq:q<1000000000)(a b:Int)(jc j:List Value)(h0:b=0)(h1:0<a)(hd1:(Int.tdiv p a).natAbs<1000000000)(hd2:(Int.tdiv (q:Int) a).natAbs<1000000000)(hr:GT (z_2b5_0 p q) (ro_h p q a b jc j)):CT 43 #[(.int .i64 p),(nI q)] (mkH 10 []) (.agg #[(.string (istr (Int.tdiv p a))),(.string (istr (Int.tdiv (q:Int) a)))]) (mkH 11 []):=
 sF (sc:=[(4,.op (.rwB false)),(7,.op (.rwB false)),(4,.drwM [(2,.div (Int.tdiv p a)),(6,.div (Int.tdiv (q:Int) a))] [⟨3,[],(.string (istr (Int.tdiv p a))),[],[]⟩,⟨7,[],(.string (istr (Int.tdiv (q:Int) a))),[],[]⟩]),(1,.stay)]) (by kernel_rfl) (aI (nF (a:=b) (b:=(0:Int)) (by omega)) (aI (dF (p:=a<(1:Int)) (by omega)) (aI (aI (aI tt (aI tt (aI (show a≠0∧IntKind.wrap .i64 (Int.tdiv p a)=(Int.tdiv p a) from⟨by omega,wI64 ⟨rfl,by omega,by omega⟩⟩) (aI tt (aI tt (aI (show a≠0∧IntKind.wrap .i64 (Int.tdiv (q:Int) a)=(Int.tdiv (q:Int) a) from⟨by omega,wI64 ⟨rfl,by omega,by omega⟩⟩) (aI (de_i (Int.tdiv p a) 11 (by omega) (by omega)) (aI (de_i (Int.tdiv (q:Int) a) 11 (by omega) (by omega)) (aI tt (aI tt tt)))))))))) (show ((((#[(.int .i64 (Int.tdiv p a))]:Array Value)= #[(.int .i64 (Int.tdiv (q:Int) a))]→((.string (istr (Int.tdiv (q:Int) a))):Value)=(.string (istr (Int.tdiv p a))))∧True)∧(True∧True)) from⟨⟨(by simp;intro h;rw[h]),tt⟩,⟨tt,tt⟩⟩)) tt))) hr
theorem ro_loop{p:Int}{q:Nat}(hp:p.natAbs<1000000000)(hq:q<1000000000): ∀(n a b:Nat) (jc j:List Value),b≤n→GT ⟨Frame.enter Tryz.prog 43 #[(.int .i64 p),(nI q)] .normal,[],mkH 10 []⟩ (ro_h p q (a:Int) (b:Int) jc j)→ ∃jc j,GT ⟨Frame.enter Tryz.prog 43 #[(.int .i64 p),(nI q)] .normal,[],mkH 10 []⟩ (ro_h p q ((Nat.gcd a b:Nat):Int) 0 jc j):=by
 intro n
 induction n with
 |zero=>
  intro a b jc j hb hr
  obtain rfl:b=0:=by omega
  rw[Nat.gcd_zero_right]
  exact⟨jc,j,hr⟩
 |succ n ih=>
  intro a b jc j hb hr
  rcases Nat.eq_zero_or_pos b with h|h
  ·subst h
   rw[Nat.gcd_zero_right]
   exact⟨jc,j,hr⟩
  have r:=hr.trans (ro_r p q hp hq (a:Int) (b:Int) jc j (by omega))
  have e:Int.tmod (a:Int) (b:Int)=((a%b:Nat):Int):=rfl
  rw[e]at r
  have hlt:=Nat.mod_lt a h
  obtain⟨jc',j',r'⟩:=ih b (a%b) _ _ (by omega) r
  rw[show Nat.gcd a b=Nat.gcd b (a%b) by rw[Nat.gcd_comm,Nat.gcd_rec,Nat.gcd_comm]]
  exact⟨jc',j',r'⟩
theorem tdiv_dvd{a g:Int}(hg:0<g)(h:g∣a):Int.tdiv a g=a/g:=by
 obtain⟨x,rfl⟩:=h
 rw[Int.mul_tdiv_cancel_left _ (by omega),Int.mul_ediv_cancel_left _ (by omega)]
theorem ro_c(n0:Nat)(p:Int)(q:Nat)(hp:p.natAbs<1000000000)(hq:q<1000000000)(hG:10≤n0)(hq0:q≠0):FT 43 #[(.int .i64 p),(nI q)] n0 [] (.agg #[(.string (istr ((Rat.normalize p q hq0).num))),(.string (istr ((Rat.normalize p q hq0).den:Int)))]) [] []:=by
 have hg0:0<Nat.gcd p.natAbs q:=Nat.gcd_pos_of_pos_right _ (by omega)
 have key: ∃jc j,GT ⟨Frame.enter Tryz.prog 43 #[(.int .i64 p),(nI q)] .normal,[],mkH 10 []⟩ (ro_h p q ((Nat.gcd p.natAbs q:Nat):Int) 0 jc j):=by
  by_cases h0:p<0
  ·have r:=ro_inm p q hp hq h0
   rw[show -p=((p.natAbs:Nat):Int) by omega]at r
   exact ro_loop hp hq q p.natAbs q _ _ (Nat.le_refl _) r
  ·have r:=ro_inp p q hp hq h0
   rw[show ro_h p q p (q:Int)=ro_h p q ((p.natAbs:Nat):Int) (q:Int) by rw[show ((p.natAbs:Nat):Int)=p by omega]]at r
   exact ro_loop hp hq q p.natAbs q _ _ (Nat.le_refl _) r
 obtain⟨jc,j,hr⟩:=key
 have d1:=gcd_dvd_num p q
 have d2:=gcd_dvd_den p q
 have a1:=ediv_abs_le p ((Nat.gcd p.natAbs q:Nat):Int)
 have a2:=ediv_abs_le (q:Int) ((Nat.gcd p.natAbs q:Nat):Int)
 have S:=ro_o p q hp hq ((Nat.gcd p.natAbs q:Nat):Int) 0 jc j rfl (by omega) (by rw[tdiv_dvd (by omega) d1];omega) (by rw[tdiv_dvd (by omega) d2];omega) hr
 rw[tdiv_dvd (by omega) d1,tdiv_dvd (by omega) d2]at S
 rw[Rat.num_normalize,Rat.den_normalize,Int.natCast_ediv]
 exact fsp_flat [] [] [] [] [] n0 (S) rfl rfl rfl (by simp) (by simp) hG rfl rfl rfl (by simp) (by simp) rfl rfl rfl
noncomputable section
abbrev z_6b1_0(o n c i b4:Nat)(zs:List Int):List (Nat×AObj):=[(10,(.cells [(.slice (some ⟨11,o,none⟩) n c),(nI (i+1)),(nU b4)] 78 none false)),(11,(.win o (zs.map (Value.int .i64))))]
end
theorem tn_a(zs:List Int)(o n c i u:Nat)(z:Int)(hx:(zs.map (Value.int .i64))[i]? =some (.int .i64 z))(hi:i<n)(hm:i<9223372036854775000)(a1:Nat)(ha1:IntKind.wrap .u64 ((((i+1):Nat):Int)*(13503953896175478587:Int))=(a1:Int))(a2:Nat)(ha2:IntKind.wrap .u64 z=(a2:Int))(a3:Nat)(ha3:IntKind.wrap .u64 ((a2:Int)*(4354685564936845355:Int))=(a3:Int))(a4:Nat)(ha4:IntKind.wrap .u64 ((a1:Int)+(a3:Int))=(a4:Int))(b1:Nat)(hb1:IntKind.wrap .u64 (((BitVec.ofInt 64 (u:Int)^^^BitVec.ofInt 64 (a4:Int)).toNat:Nat):Int)=(b1:Int))(b2:Nat)(hb2:IntKind.wrap .u64 ((b1:Int)*(11912009170470909681:Int))=(b2:Int))(b3:Nat)(hb3:(Int.fdiv (b2:Int) (2^31))=(b3:Int))(b4:Nat)(hb4:IntKind.wrap .u64 (((BitVec.ofInt 64 (b2:Int)^^^BitVec.ofInt 64 (b3:Int)).toNat:Nat):Int)=(b4:Int))(b5:Nat)(hb5:IntKind.wrap .u64 ((b4:Int)*(5840696475078001361:Int))=(b5:Int))(b6:Nat)(hb6:(Int.fdiv (b5:Int) (2^29))=(b6:Int))(b7:Nat)(hb7:IntKind.wrap .u64 (((BitVec.ofInt 64 (b5:Int)^^^BitVec.ofInt 64 (b6:Int)).toNat:Nat):Int)=(b7:Int))(b8:Nat)(hb8:(Int.fdiv (b7:Int) (2^11))=(b8:Int)):CT 108 #[(pt 10)] (mkH 12 [(10,(.cells [(.slice (some ⟨11,o,none⟩) n c),(nI i),(nU u)] 78 none false)),(11,(.win o (zs.map (Value.int .i64))))]) (nU b8) (mkH 12 (z_6b1_0 o n c i b4 zs)):=
 sF (sc:=[(10,.op (.rwI (((i+1):Nat):Int))),(0,.op (.rwI (((i+1):Nat):Int))),(0,.op (.rwI (a1:Int))),(4,.drw [(9,.rwB true)]),(1,.drw [(9,.idx (o+i)),(10,.ld (.int .i64 z)),(11,.rwI (a2:Int)),(12,.rwI (a3:Int)),(13,.rwI (a4:Int))]),(6,.op (.rwI (((i+1):Nat):Int))),(12,.op (.rwI (b1:Int))),(0,.op (.rwI (b2:Int))),(5,.drwM [(9,.rwI (b3:Int)),(10,.rwI (b4:Int))] []),(6,.op (.rwI (b5:Int))),(6,.op (.rwI (b6:Int))),(0,.op (.rwI (b7:Int))),(0,.op (.rwI (b8:Int))),(3,.stay)]) (by kernel_rfl) (aI (wI64 (a:=((i:Int)+(1:Int))) (r:=(((i+1):Nat):Int)) (by omega)) (aI (wU64 (a:=(((i+1):Nat):Int)) (r:=(((i+1):Nat):Int)) (by omega)) (aI ha1 (aI (aI tt (aI tt (aI tt (aI tt (aI tt (aI tt (aI tt (aI tt (aI tt (aI (dT (p:=(i:Int)<(n:Int)) (by omega)) tt)))))))))) (aI (aI tt (aI tt (aI tt (aI tt (aI tt (aI tt (aI tt (aI tt (aI tt (aI (ix (i:Int) (n:Int) o 1 (o+i) (by omega)) (aI (show o≤(o+i)∧((zs.map (Value.int .i64)):List Value)[(o+i)-o]? =some (.int .i64 z) from⟨Nat.le_add_right _ _,by rw[Nat.add_sub_cancel_left];exact hx⟩) (aI ha2 (aI ha3 (aI ha4 (aI tt tt))))))))))))))) (aI (wI64 (a:=((i:Int)+(1:Int))) (r:=(((i+1):Nat):Int)) (by omega)) (aI hb1 (aI hb2 (aI (aI tt (aI tt (aI tt (aI tt (aI tt (aI tt (aI tt (aI tt (aI tt (aI hb3 (aI hb4 (aI tt (aI tt (aI tt tt)))))))))))))) (aI hb5 (aI hb6 (aI hb7 (aI hb8 tt))))))))))))) (Gets.refl _)
theorem turn_a(n0 b L:Nat)(zs:List Int)(o n c i u:Nat)(hb:10≤b∧b<n0∧10≤L∧L<n0∧b≠L)(hn:n≤zs.length)(hi:i<n)(hm:i<9223372036854775000):
  ∃u' x,FT 108 #[pt b] n0 [(b,.cells [.slice (some ⟨L,o,none⟩) n c,.int .i64 ((i:Nat):Int),.int .u64 ((u:Nat):Int)] 78 none false),(L,.win o (zs.map (Value.int .i64)))] (nU x) [(b,some (.cells [.slice (some ⟨L,o,none⟩) n c,.int .i64 ((i+1:Nat):Int),.int .u64 ((u':Nat):Int)] 78 none false)),(L,some (.win o (zs.map (Value.int .i64))))] []:=by
 obtain⟨a1,ha1⟩: ∃v:Nat,IntKind.wrap .u64 ((((i+1):Nat):Int)*(13503953896175478587:Int))=((v:Nat):Int):=ex_u64 _
 obtain⟨a2,ha2⟩: ∃v:Nat,IntKind.wrap .u64 (zs.getD i 0)=((v:Nat):Int):=ex_u64 _
 obtain⟨a3,ha3⟩: ∃v:Nat,IntKind.wrap .u64 (((a2:Nat):Int)*(4354685564936845355:Int))=((v:Nat):Int):=ex_u64 _
 obtain⟨a4,ha4⟩: ∃v:Nat,IntKind.wrap .u64 (((a1:Nat):Int)+((a3:Nat):Int))=((v:Nat):Int):=ex_u64 _
 obtain⟨b1,hb1⟩: ∃v:Nat,IntKind.wrap .u64 (((BitVec.ofInt 64 ((u:Nat):Int)^^^BitVec.ofInt 64 ((a4:Nat):Int)).toNat:Nat):Int)=((v:Nat):Int):=ex_u64 _
 obtain⟨b2,hb2⟩: ∃v:Nat,IntKind.wrap .u64 (((b1:Nat):Int)*(11912009170470909681:Int))=((v:Nat):Int):=ex_u64 _
 obtain⟨b3,hb3⟩: ∃v:Nat,(Int.fdiv ((b2:Nat):Int) (2^31))=((v:Nat):Int):=ex_shr _ _
 obtain⟨b4,hb4⟩: ∃v:Nat,IntKind.wrap .u64 (((BitVec.ofInt 64 ((b2:Nat):Int)^^^BitVec.ofInt 64 ((b3:Nat):Int)).toNat:Nat):Int)=((v:Nat):Int):=ex_u64 _
 obtain⟨b5,hb5⟩: ∃v:Nat,IntKind.wrap .u64 (((b4:Nat):Int)*(5840696475078001361:Int))=((v:Nat):Int):=ex_u64 _
 obtain⟨b6,hb6⟩: ∃v:Nat,(Int.fdiv ((b5:Nat):Int) (2^29))=((v:Nat):Int):=ex_shr _ _
 obtain⟨b7,hb7⟩: ∃v:Nat,IntKind.wrap .u64 (((BitVec.ofInt 64 ((b5:Nat):Int)^^^BitVec.ofInt 64 ((b6:Nat):Int)).toNat:Nat):Int)=((v:Nat):Int):=ex_u64 _
 obtain⟨b8,hb8⟩: ∃v:Nat,(Int.fdiv ((b7:Nat):Int) (2^11))=((v:Nat):Int):=ex_shr _ _
 refine⟨b4,b8,fsp_move (os':=[.cells [.slice (some ⟨L,o,none⟩) n c,.int .i64 ((i:Nat):Int),.int .u64 ((u:Nat):Int)] 78 none false,.win o (zs.map (Value.int .i64))]) (ps':=[.cells [.slice (some ⟨L,o,none⟩) n c,.int .i64 ((i+1:Nat):Int),.int .u64 ((b4:Nat):Int)] 78 none false,.win o (zs.map (Value.int .i64))]) (qs':=[]) [b,L] [.cells [.slice (some ⟨11,o,none⟩) n c,.int .i64 ((i:Nat):Int),.int .u64 ((u:Nat):Int)] 78 none false,.win o (zs.map (Value.int .i64))] [.cells [.slice (some ⟨11,o,none⟩) n c,.int .i64 ((i+1:Nat):Int),.int .u64 ((b4:Nat):Int)] 78 none false,.win o (zs.map (Value.int .i64))] [] [] n0 (tn_a zs o n c i u (zs.getD i 0) (ints_get (by omega)) hi hm a1 ha1 a2 ha2 a3 ha3 a4 ha4 b1 hb1 b2 hb2 b3 hb3 b4 hb4 b5 hb5 b6 hb6 b7 hb7 b8 hb8) rfl rfl rfl (by simp[hb.2.2.2.2]) (by simp;omega) (by omega) rfl
  (by simp[goodO,goodL,good,okI,closedL_good _ _ (ints_closed zs)]) rfl (by simp only[List.map_cons,List.map_nil,mvO,closedL_mv _ _ (ints_closed zs)];rfl) (by simp only[List.map_cons,List.map_nil,mvO,closedL_mv _ _ (ints_closed zs)];rfl) rfl (by simp) (by simp) rfl rfl rfl⟩
theorem tn_b(zs:List Int)(o n c i u:Nat)(hi:n≤i)(hm:i<9223372036854775000)(a1:Nat)(ha1:IntKind.wrap .u64 ((((i+1):Nat):Int)*(13503953896175478587:Int))=(a1:Int))(b1:Nat)(hb1:IntKind.wrap .u64 (((BitVec.ofInt 64 (u:Int)^^^BitVec.ofInt 64 (a1:Int)).toNat:Nat):Int)=(b1:Int))(b2:Nat)(hb2:IntKind.wrap .u64 ((b1:Int)*(11912009170470909681:Int))=(b2:Int))(b3:Nat)(hb3:(Int.fdiv (b2:Int) (2^31))=(b3:Int))(b4:Nat)(hb4:IntKind.wrap .u64 (((BitVec.ofInt 64 (b2:Int)^^^BitVec.ofInt 64 (b3:Int)).toNat:Nat):Int)=(b4:Int))(b5:Nat)(hb5:IntKind.wrap .u64 ((b4:Int)*(5840696475078001361:Int))=(b5:Int))(b6:Nat)(hb6:(Int.fdiv (b5:Int) (2^29))=(b6:Int))(b7:Nat)(hb7:IntKind.wrap .u64 (((BitVec.ofInt 64 (b5:Int)^^^BitVec.ofInt 64 (b6:Int)).toNat:Nat):Int)=(b7:Int))(b8:Nat)(hb8:(Int.fdiv (b7:Int) (2^11))=(b8:Int)):CT 108 #[(pt 10)] (mkH 12 [(10,(.cells [(.slice (some ⟨11,o,none⟩) n c),(nI i),(nU u)] 78 none false)),(11,(.win o (zs.map (Value.int .i64))))]) (nU b8) (mkH 12 (z_6b1_0 o n c i b4 zs)):=
 sF (sc:=[(10,.op (.rwI (((i+1):Nat):Int))),(0,.op (.rwI (((i+1):Nat):Int))),(0,.op (.rwI (a1:Int))),(4,.drw [(9,.rwB false)]),(8,.op (.rwI (((i+1):Nat):Int))),(12,.op (.rwI (b1:Int))),(0,.op (.rwI (b2:Int))),(5,.drwM [(9,.rwI (b3:Int)),(10,.rwI (b4:Int))] []),(6,.op (.rwI (b5:Int))),(6,.op (.rwI (b6:Int))),(0,.op (.rwI (b7:Int))),(0,.op (.rwI (b8:Int))),(3,.stay)]) (by kernel_rfl) (aI (wI64 (a:=((i:Int)+(1:Int))) (r:=(((i+1):Nat):Int)) (by omega)) (aI (wU64 (a:=(((i+1):Nat):Int)) (r:=(((i+1):Nat):Int)) (by omega)) (aI ha1 (aI (aI tt (aI tt (aI tt (aI tt (aI tt (aI tt (aI tt (aI tt (aI tt (aI (dF (p:=(i:Int)<(n:Int)) (by omega)) tt)))))))))) (aI (wI64 (a:=((i:Int)+(1:Int))) (r:=(((i+1):Nat):Int)) (by omega)) (aI hb1 (aI hb2 (aI (aI tt (aI tt (aI tt (aI tt (aI tt (aI tt (aI tt (aI tt (aI tt (aI hb3 (aI hb4 (aI tt (aI tt (aI tt tt)))))))))))))) (aI hb5 (aI hb6 (aI hb7 (aI hb8 tt)))))))))))) (Gets.refl _)
theorem turn_b(n0 b L:Nat)(zs:List Int)(o n c i u:Nat)(hb:10≤b∧b<n0∧10≤L∧L<n0∧b≠L)(hn:n≤zs.length)(hi:n≤i)(hm:i<9223372036854775000):
  ∃u' x,FT 108 #[pt b] n0 [(b,.cells [.slice (some ⟨L,o,none⟩) n c,.int .i64 ((i:Nat):Int),.int .u64 ((u:Nat):Int)] 78 none false),(L,.win o (zs.map (Value.int .i64)))] (nU x) [(b,some (.cells [.slice (some ⟨L,o,none⟩) n c,.int .i64 ((i+1:Nat):Int),.int .u64 ((u':Nat):Int)] 78 none false)),(L,some (.win o (zs.map (Value.int .i64))))] []:=by
 obtain⟨a1,ha1⟩: ∃v:Nat,IntKind.wrap .u64 ((((i+1):Nat):Int)*(13503953896175478587:Int))=((v:Nat):Int):=ex_u64 _
 obtain⟨b1,hb1⟩: ∃v:Nat,IntKind.wrap .u64 (((BitVec.ofInt 64 ((u:Nat):Int)^^^BitVec.ofInt 64 ((a1:Nat):Int)).toNat:Nat):Int)=((v:Nat):Int):=ex_u64 _
 obtain⟨b2,hb2⟩: ∃v:Nat,IntKind.wrap .u64 (((b1:Nat):Int)*(11912009170470909681:Int))=((v:Nat):Int):=ex_u64 _
 obtain⟨b3,hb3⟩: ∃v:Nat,(Int.fdiv ((b2:Nat):Int) (2^31))=((v:Nat):Int):=ex_shr _ _
 obtain⟨b4,hb4⟩: ∃v:Nat,IntKind.wrap .u64 (((BitVec.ofInt 64 ((b2:Nat):Int)^^^BitVec.ofInt 64 ((b3:Nat):Int)).toNat:Nat):Int)=((v:Nat):Int):=ex_u64 _
 obtain⟨b5,hb5⟩: ∃v:Nat,IntKind.wrap .u64 (((b4:Nat):Int)*(5840696475078001361:Int))=((v:Nat):Int):=ex_u64 _
 obtain⟨b6,hb6⟩: ∃v:Nat,(Int.fdiv ((b5:Nat):Int) (2^29))=((v:Nat):Int):=ex_shr _ _
 obtain⟨b7,hb7⟩: ∃v:Nat,IntKind.wrap .u64 (((BitVec.ofInt 64 ((b5:Nat):Int)^^^BitVec.ofInt 64 ((b6:Nat):Int)).toNat:Nat):Int)=((v:Nat):Int):=ex_u64 _
 obtain⟨b8,hb8⟩: ∃v:Nat,(Int.fdiv ((b7:Nat):Int) (2^11))=((v:Nat):Int):=ex_shr _ _
 refine⟨b4,b8,fsp_move (os':=[.cells [.slice (some ⟨L,o,none⟩) n c,.int .i64 ((i:Nat):Int),.int .u64 ((u:Nat):Int)] 78 none false,.win o (zs.map (Value.int .i64))]) (ps':=[.cells [.slice (some ⟨L,o,none⟩) n c,.int .i64 ((i+1:Nat):Int),.int .u64 ((b4:Nat):Int)] 78 none false,.win o (zs.map (Value.int .i64))]) (qs':=[]) [b,L] [.cells [.slice (some ⟨11,o,none⟩) n c,.int .i64 ((i:Nat):Int),.int .u64 ((u:Nat):Int)] 78 none false,.win o (zs.map (Value.int .i64))] [.cells [.slice (some ⟨11,o,none⟩) n c,.int .i64 ((i+1:Nat):Int),.int .u64 ((b4:Nat):Int)] 78 none false,.win o (zs.map (Value.int .i64))] [] [] n0 (tn_b zs o n c i u hi hm a1 ha1 b1 hb1 b2 hb2 b3 hb3 b4 hb4 b5 hb5 b6 hb6 b7 hb7 b8 hb8) rfl rfl rfl (by simp[hb.2.2.2.2]) (by simp;omega) (by omega) rfl
  (by simp[goodO,goodL,good,okI,closedL_good _ _ (ints_closed zs)]) rfl (by simp only[List.map_cons,List.map_nil,mvO,closedL_mv _ _ (ints_closed zs)];rfl) (by simp only[List.map_cons,List.map_nil,mvO,closedL_mv _ _ (ints_closed zs)];rfl) rfl (by simp) (by simp) rfl rfl rfl⟩
theorem turn_c(n0 b L:Nat)(zs:List Int)(o n c i u:Nat)(hb:10≤b∧b<n0∧10≤L∧L<n0∧b≠L)(hn:n≤zs.length)(hm:i<9223372036854775000):
  ∃u' x,FT 108 #[pt b] n0 [(b,.cells [.slice (some ⟨L,o,none⟩) n c,.int .i64 ((i:Nat):Int),.int .u64 ((u:Nat):Int)] 78 none false),(L,.win o (zs.map (Value.int .i64)))] (nU x) [(b,some (.cells [.slice (some ⟨L,o,none⟩) n c,.int .i64 ((i+1:Nat):Int),.int .u64 ((u':Nat):Int)] 78 none false)),(L,some (.win o (zs.map (Value.int .i64))))] []:=by
 rcases Nat.lt_or_ge i n with h|h
 ·exact turn_a n0 b L zs o n c i u hb hn h hm
 ·exact turn_b n0 b L zs o n c i u hb hn h hm
noncomputable section
abbrev z_258_0(o n c i v:Nat):AObj:=.cells [(.slice (some ⟨11,o,none⟩) n c),(nI (i+1)),(nU v)] 78 none false
abbrev z_258_1(o:Nat)(zs:List Int):AObj:=.win o (zs.map (Value.int .i64))
end
theorem up_conv{x r k:Nat}(hr:r=x% (k+1))(hk:k<1099511627776):IntKind.wrap .i64 (((x% (k+1):Nat):Int))=((r:Nat):Int):=by
 have:x% (k+1)<k+1:=Nat.mod_lt x (by omega)
 subst hr
 exact wrap_i64 (by omega) (by omega)
theorem up_p(zs:List Int)(o n c i u k:Nat)(hk:0<k)(hk2:k<1099511627776)(v x:Nat)(r:Nat)(hrx:r=x% (k+1))(hc1:(FT 108 #[(pt 10)] 12 [(10,(.cells [(.slice (some ⟨11,o,none⟩) n c),(nI i),(nU u)] 78 none false)),(11,(z_258_1 o zs))] (nU x) [(10,some (z_258_0 o n c i v)),(11,some (z_258_1 o zs))] [])):CT 55 #[(pt 10),(nI k)] (mkH 12 [(10,(.cells [(.slice (some ⟨11,o,none⟩) n c),(nI i),(nU u)] 78 none false)),(11,(z_258_1 o zs))]) (nI r) (mkH 12 [(10,(z_258_0 o n c i v)),(11,(z_258_1 o zs))]):=
 sF (sc:=[(7,.call [10,11] (nU x) [(10,some (z_258_0 o n c i v)),(11,some (z_258_1 o zs))] []),(6,.op (.rwB false)),(7,.op (.rwI (k:Int))),(0,.op (.rwI (((k+1):Nat):Int))),(0,.op (.div (((x% (k+1)):Nat):Int))),(0,.op (.rwI (r:Int))),(3,.stay)]) (by kernel_rfl) (aI hc1 (aI (dF (p:=(k:Int)<(1:Int)) (by omega)) (aI (wU64 (a:=(k:Int)) (r:=(k:Int)) (by omega)) (aI (wU64 (a:=((k:Int)+(1:Int))) (r:=(((k+1):Nat):Int)) (by omega)) (aI (show (((k+1):Nat):Int)≠0∧(Int.tmod (x:Int) (((k+1):Nat):Int))=(((x% (k+1)):Nat):Int) from⟨by omega,by first|(rw[Int.tmod_eq_emod_of_nonneg (by omega)];first|rfl|exact (Int.natCast_emod _ _).symm|omega)|(rw[Int.tdiv_eq_ediv_of_nonneg (by omega)];first|rfl|omega)⟩) (aI (show IntKind.wrap .i64 (((x% (k+1)):Nat):Int)=(r:Int) from (up_conv hrx hk2)) tt)))))) (Gets.refl _)
theorem up_z(zs:List Int)(o n c i u k:Nat)(hk:k=0)(hk2:k<1099511627776)(v x:Nat)(hc1:(FT 108 #[(pt 10)] 12 [(10,(.cells [(.slice (some ⟨11,o,none⟩) n c),(nI i),(nU u)] 78 none false)),(11,(z_258_1 o zs))] (nU x) [(10,some (z_258_0 o n c i v)),(11,some (z_258_1 o zs))] [])):CT 55 #[(pt 10),(nI k)] (mkH 12 [(10,(.cells [(.slice (some ⟨11,o,none⟩) n c),(nI i),(nU u)] 78 none false)),(11,(z_258_1 o zs))]) (lI 0) (mkH 12 [(10,(z_258_0 o n c i v)),(11,(z_258_1 o zs))]):=
 sF (sc:=[(7,.call [10,11] (nU x) [(10,some (z_258_0 o n c i v)),(11,some (z_258_1 o zs))] []),(6,.op (.rwB true)),(7,.stay)]) (by kernel_rfl) (aI hc1 (aI (dT (p:=(k:Int)<(1:Int)) (by omega)) tt)) (Gets.refl _)
theorem up_c(n0 b L:Nat)(zs:List Int)(o n c i u k:Nat)(hb:10≤b∧b<n0∧10≤L∧L<n0∧b≠L)(hn:n≤zs.length)(hm:i<9223372036854775000)(hk2:k<1099511627776):
  ∃u' r,r≤k∧FT 55 #[pt b,.int .i64 ((k:Nat):Int)] n0 [(b,.cells [.slice (some ⟨L,o,none⟩) n c,.int .i64 ((i:Nat):Int),.int .u64 ((u:Nat):Int)] 78 none false),(L,.win o (zs.map (Value.int .i64)))] (nI r) [(b,some (.cells [.slice (some ⟨L,o,none⟩) n c,.int .i64 ((i+1:Nat):Int),.int .u64 ((u':Nat):Int)] 78 none false)),(L,some (.win o (zs.map (Value.int .i64))))] []:=by
 obtain⟨v,x,T⟩:=turn_c 12 10 11 zs o n c i u (by omega) hn hm
 rcases Nat.eq_zero_or_pos k with hk|hk
 ·exact⟨v,0,Nat.zero_le _,fsp_move (os':=[.cells [.slice (some ⟨L,o,none⟩) n c,.int .i64 ((i:Nat):Int),.int .u64 ((u:Nat):Int)] 78 none false,.win o (zs.map (Value.int .i64))]) (ps':=[.cells [.slice (some ⟨L,o,none⟩) n c,.int .i64 ((i+1:Nat):Int),.int .u64 ((v:Nat):Int)] 78 none false,.win o (zs.map (Value.int .i64))]) (qs':=[]) [b,L] [.cells [.slice (some ⟨11,o,none⟩) n c,.int .i64 ((i:Nat):Int),.int .u64 ((u:Nat):Int)] 78 none false,.win o (zs.map (Value.int .i64))] [.cells [.slice (some ⟨11,o,none⟩) n c,.int .i64 ((i+1:Nat):Int),.int .u64 ((v:Nat):Int)] 78 none false,.win o (zs.map (Value.int .i64))] [] [] n0 (up_z zs o n c i u k hk hk2 v x T) rfl rfl rfl (by simp[hb.2.2.2.2]) (by simp;omega) (by omega) rfl
   (by simp[goodO,goodL,good,okI,closedL_good _ _ (ints_closed zs)]) rfl (by simp only[List.map_cons,List.map_nil,mvO,closedL_mv _ _ (ints_closed zs)];rfl) (by simp only[List.map_cons,List.map_nil,mvO,closedL_mv _ _ (ints_closed zs)];rfl) rfl (by simp) (by simp) rfl rfl rfl⟩
 ·exact⟨v,x% (k+1),Nat.le_of_lt_succ (Nat.mod_lt x (Nat.succ_pos k)),fsp_move (os':=[.cells [.slice (some ⟨L,o,none⟩) n c,.int .i64 ((i:Nat):Int),.int .u64 ((u:Nat):Int)] 78 none false,.win o (zs.map (Value.int .i64))]) (ps':=[.cells [.slice (some ⟨L,o,none⟩) n c,.int .i64 ((i+1:Nat):Int),.int .u64 ((v:Nat):Int)] 78 none false,.win o (zs.map (Value.int .i64))]) (qs':=[]) [b,L] [.cells [.slice (some ⟨11,o,none⟩) n c,.int .i64 ((i:Nat):Int),.int .u64 ((u:Nat):Int)] 78 none false,.win o (zs.map (Value.int .i64))] [.cells [.slice (some ⟨11,o,none⟩) n c,.int .i64 ((i+1:Nat):Int),.int .u64 ((v:Nat):Int)] 78 none false,.win o (zs.map (Value.int .i64))] [] [] n0 (up_p zs o n c i u k hk hk2 v x _ rfl T) rfl rfl rfl (by simp[hb.2.2.2.2]) (by simp;omega) (by omega) rfl
   (by simp[goodO,goodL,good,okI,closedL_good _ _ (ints_closed zs)]) rfl (by simp only[List.map_cons,List.map_nil,mvO,closedL_mv _ _ (ints_closed zs)];rfl) (by simp only[List.map_cons,List.map_nil,mvO,closedL_mv _ _ (ints_closed zs)];rfl) rfl (by simp) (by simp) rfl rfl rfl⟩
theorem tn_n(i u:Nat)(hm:i<9223372036854775000)(a1:Nat)(ha1:IntKind.wrap .u64 ((((i+1):Nat):Int)*(13503953896175478587:Int))=(a1:Int))(b1:Nat)(hb1:IntKind.wrap .u64 (((BitVec.ofInt 64 (u:Int)^^^BitVec.ofInt 64 (a1:Int)).toNat:Nat):Int)=(b1:Int))(b2:Nat)(hb2:IntKind.wrap .u64 ((b1:Int)*(11912009170470909681:Int))=(b2:Int))(b3:Nat)(hb3:(Int.fdiv (b2:Int) (2^31))=(b3:Int))(b4:Nat)(hb4:IntKind.wrap .u64 (((BitVec.ofInt 64 (b2:Int)^^^BitVec.ofInt 64 (b3:Int)).toNat:Nat):Int)=(b4:Int))(b5:Nat)(hb5:IntKind.wrap .u64 ((b4:Int)*(5840696475078001361:Int))=(b5:Int))(b6:Nat)(hb6:(Int.fdiv (b5:Int) (2^29))=(b6:Int))(b7:Nat)(hb7:IntKind.wrap .u64 (((BitVec.ofInt 64 (b5:Int)^^^BitVec.ofInt 64 (b6:Int)).toNat:Nat):Int)=(b7:Int))(b8:Nat)(hb8:(Int.fdiv (b7:Int) (2^11))=(b8:Int)):CT 108 #[(pt 10)] (mkH 11 [(10,(.cells [(.slice none 0 0),(nI i),(nU u)] 78 none false))]) (nU b8) (mkH 11 [(10,(.cells [(.slice none 0 0),(nI (i+1)),(nU b4)] 78 none false))]):=
 sF (sc:=[(10,.op (.rwI (((i+1):Nat):Int))),(0,.op (.rwI (((i+1):Nat):Int))),(0,.op (.rwI (a1:Int))),(4,.drw [(9,.rwB false)]),(8,.op (.rwI (((i+1):Nat):Int))),(12,.op (.rwI (b1:Int))),(0,.op (.rwI (b2:Int))),(5,.drwM [(9,.rwI (b3:Int)),(10,.rwI (b4:Int))] []),(6,.op (.rwI (b5:Int))),(6,.op (.rwI (b6:Int))),(0,.op (.rwI (b7:Int))),(0,.op (.rwI (b8:Int))),(3,.stay)]) (by kernel_rfl) (aI (wI64 (a:=((i:Int)+(1:Int))) (r:=(((i+1):Nat):Int)) (by omega)) (aI (wU64 (a:=(((i+1):Nat):Int)) (r:=(((i+1):Nat):Int)) (by omega)) (aI ha1 (aI (aI tt (aI tt (aI tt (aI tt (aI tt (aI tt (aI tt (aI tt (aI tt (aI (dF (p:=(i:Int)<(0:Int)) (by omega)) tt)))))))))) (aI (wI64 (a:=((i:Int)+(1:Int))) (r:=(((i+1):Nat):Int)) (by omega)) (aI hb1 (aI hb2 (aI (aI tt (aI tt (aI tt (aI tt (aI tt (aI tt (aI tt (aI tt (aI tt (aI hb3 (aI hb4 (aI tt (aI tt (aI tt tt)))))))))))))) (aI hb5 (aI hb6 (aI hb7 (aI hb8 tt)))))))))))) (Gets.refl _)
theorem turnn_c(n0 b:Nat)(i u:Nat)(hb:10≤b∧b<n0)(hm:i<9223372036854775000):
  ∃u' x,FT 108 #[pt b] n0 [(b,.cells [.slice none 0 0,.int .i64 ((i:Nat):Int),.int .u64 ((u:Nat):Int)] 78 none false)] (nU x) [(b,some (.cells [.slice none 0 0,.int .i64 ((i+1:Nat):Int),.int .u64 ((u':Nat):Int)] 78 none false))] []:=by
 obtain⟨a1,ha1⟩: ∃v:Nat,IntKind.wrap .u64 ((((i+1):Nat):Int)*(13503953896175478587:Int))=((v:Nat):Int):=ex_u64 _
 obtain⟨b1,hb1⟩: ∃v:Nat,IntKind.wrap .u64 (((BitVec.ofInt 64 ((u:Nat):Int)^^^BitVec.ofInt 64 ((a1:Nat):Int)).toNat:Nat):Int)=((v:Nat):Int):=ex_u64 _
 obtain⟨b2,hb2⟩: ∃v:Nat,IntKind.wrap .u64 (((b1:Nat):Int)*(11912009170470909681:Int))=((v:Nat):Int):=ex_u64 _
 obtain⟨b3,hb3⟩: ∃v:Nat,(Int.fdiv ((b2:Nat):Int) (2^31))=((v:Nat):Int):=ex_shr _ _
 obtain⟨b4,hb4⟩: ∃v:Nat,IntKind.wrap .u64 (((BitVec.ofInt 64 ((b2:Nat):Int)^^^BitVec.ofInt 64 ((b3:Nat):Int)).toNat:Nat):Int)=((v:Nat):Int):=ex_u64 _
 obtain⟨b5,hb5⟩: ∃v:Nat,IntKind.wrap .u64 (((b4:Nat):Int)*(5840696475078001361:Int))=((v:Nat):Int):=ex_u64 _
 obtain⟨b6,hb6⟩: ∃v:Nat,(Int.fdiv ((b5:Nat):Int) (2^29))=((v:Nat):Int):=ex_shr _ _
 obtain⟨b7,hb7⟩: ∃v:Nat,IntKind.wrap .u64 (((BitVec.ofInt 64 ((b5:Nat):Int)^^^BitVec.ofInt 64 ((b6:Nat):Int)).toNat:Nat):Int)=((v:Nat):Int):=ex_u64 _
 obtain⟨b8,hb8⟩: ∃v:Nat,(Int.fdiv ((b7:Nat):Int) (2^11))=((v:Nat):Int):=ex_shr _ _
 exact⟨b4,b8,fsp_flat [b] [.cells [.slice none 0 0,.int .i64 ((i:Nat):Int),.int .u64 ((u:Nat):Int)] 78 none false] [.cells [.slice none 0 0,.int .i64 ((i+1:Nat):Int),.int .u64 ((b4:Nat):Int)] 78 none false] [] [] n0 (tn_n i u hm a1 ha1 b1 hb1 b2 hb2 b3 hb3 b4 hb4 b5 hb5 b6 hb6 b7 hb7 b8 hb8) rfl rfl rfl (by simp) (by simp;omega) (by omega) (by simp[flat,closedL,closed]) (by simp[flat,closedL,closed]) rfl (by simp) (by simp) rfl rfl rfl⟩
noncomputable section
abbrev z_b1a_0(i v:Nat):AObj:=.cells [(.slice none 0 0),(nI (i+1)),(nU v)] 78 none false
abbrev z_b1a_1(i u:Nat):AObj:=.cells [(.slice none 0 0),(nI i),(nU u)] 78 none false
end
theorem upn_p(i u k:Nat)(hk:0<k)(hk2:k<1099511627776)(v x:Nat)(r:Nat)(hrx:r=x% (k+1))(hc1:(FT 108 #[(pt 10)] 11 [(10,(z_b1a_1 i u))] (nU x) [(10,some (z_b1a_0 i v))] [])):CT 55 #[(pt 10),(nI k)] (mkH 11 [(10,(z_b1a_1 i u))]) (nI r) (mkH 11 [(10,(z_b1a_0 i v))]):=
 sF (sc:=[(7,.call [10] (nU x) [(10,some (z_b1a_0 i v))] []),(6,.op (.rwB false)),(7,.op (.rwI (k:Int))),(0,.op (.rwI (((k+1):Nat):Int))),(0,.op (.div (((x% (k+1)):Nat):Int))),(0,.op (.rwI (r:Int))),(3,.stay)]) (by kernel_rfl) (aI hc1 (aI (dF (p:=(k:Int)<(1:Int)) (by omega)) (aI (wU64 (a:=(k:Int)) (r:=(k:Int)) (by omega)) (aI (wU64 (a:=((k:Int)+(1:Int))) (r:=(((k+1):Nat):Int)) (by omega)) (aI (show (((k+1):Nat):Int)≠0∧(Int.tmod (x:Int) (((k+1):Nat):Int))=(((x% (k+1)):Nat):Int) from⟨by omega,by first|(rw[Int.tmod_eq_emod_of_nonneg (by omega)];first|rfl|exact (Int.natCast_emod _ _).symm|omega)|(rw[Int.tdiv_eq_ediv_of_nonneg (by omega)];first|rfl|omega)⟩) (aI (show IntKind.wrap .i64 (((x% (k+1)):Nat):Int)=(r:Int) from (up_conv hrx hk2)) tt)))))) (Gets.refl _)
theorem upn_z(i u k:Nat)(hk:k=0)(hk2:k<1099511627776)(v x:Nat)(hc1:(FT 108 #[(pt 10)] 11 [(10,(z_b1a_1 i u))] (nU x) [(10,some (z_b1a_0 i v))] [])):CT 55 #[(pt 10),(nI k)] (mkH 11 [(10,(z_b1a_1 i u))]) (lI 0) (mkH 11 [(10,(z_b1a_0 i v))]):=
 sF (sc:=[(7,.call [10] (nU x) [(10,some (z_b1a_0 i v))] []),(6,.op (.rwB true)),(7,.stay)]) (by kernel_rfl) (aI hc1 (aI (dT (p:=(k:Int)<(1:Int)) (by omega)) tt)) (Gets.refl _)
theorem upn_c(n0 b:Nat)(i u k:Nat)(hb:10≤b∧b<n0)(hm:i<9223372036854775000)(hk2:k<1099511627776):
  ∃u' r,r≤k∧FT 55 #[pt b,.int .i64 ((k:Nat):Int)] n0 [(b,.cells [.slice none 0 0,.int .i64 ((i:Nat):Int),.int .u64 ((u:Nat):Int)] 78 none false)] (nI r) [(b,some (.cells [.slice none 0 0,.int .i64 ((i+1:Nat):Int),.int .u64 ((u':Nat):Int)] 78 none false))] []:=by
 obtain⟨v,x,T⟩:=turnn_c 11 10 i u (by omega) hm
 rcases Nat.eq_zero_or_pos k with hk|hk
 ·exact⟨v,0,Nat.zero_le _,fsp_flat [b] [.cells [.slice none 0 0,.int .i64 ((i:Nat):Int),.int .u64 ((u:Nat):Int)] 78 none false] [.cells [.slice none 0 0,.int .i64 ((i+1:Nat):Int),.int .u64 ((v:Nat):Int)] 78 none false] [] [] n0 (upn_z i u k hk hk2 v x T) rfl rfl rfl (by simp) (by simp;omega) (by omega) (by simp[flat,closedL,closed]) (by simp[flat,closedL,closed]) rfl (by simp) (by simp) rfl rfl rfl⟩
 ·exact⟨v,x% (k+1),Nat.le_of_lt_succ (Nat.mod_lt x (Nat.succ_pos k)),fsp_flat [b] [.cells [.slice none 0 0,.int .i64 ((i:Nat):Int),.int .u64 ((u:Nat):Int)] 78 none false] [.cells [.slice none 0 0,.int .i64 ((i+1:Nat):Int),.int .u64 ((v:Nat):Int)] 78 none false] [] [] n0 (upn_p i u k hk hk2 v x _ rfl T) rfl rfl rfl (by simp) (by simp;omega) (by omega) (by simp[flat,closedL,closed]) (by simp[flat,closedL,closed]) rfl (by simp) (by simp) rfl rfl rfl⟩
noncomputable section
abbrev z_a15_0(o:Nat)(zs:List Int):AObj:=.win o (zs.map (Value.int .i64))
abbrev z_a15_1(i v2:Nat):AObj:=.cells [(.slice none 0 0),(nI (((i+1)+1)+1)),(nU v2)] 78 none false
abbrev z_a15_2(o n c i v2:Nat):AObj:=.cells [(.slice (some ⟨11,o,none⟩) n c),(nI (((i+1)+1)+1)),(nU v2)] 78 none false
end
theorem pick4{r e:Nat}(h:r≤3)(he:1≤e∧e≤1000000): ∃w:Nat,(1≤w∧w≤max 2 e)∧([.int .i64 (.ofNat 1),.int .i64 (.ofNat 1),.int .i64 (.ofNat 2),.int .i64 ((e:Nat):Int)]:List Value)[r]? =some (nI w):=by
 have:r=0∨r=1∨r=2∨r=3:=by omega
 rcases this with rfl|rfl|rfl|rfl
 ·exact⟨1,by omega,rfl⟩
 ·exact⟨1,by omega,rfl⟩
 ·exact⟨2,by omega,rfl⟩
 ·exact⟨e,by omega,rfl⟩
theorem rb_of{k e r0 r2 w:Nat}(h0:r0≤2*k)(h2:r2≤w-1)(hw:1≤w∧w≤max 2 e)(hz:1+r2≠0):RB k (max 2 e) (Rat.normalize (-(k:Int)+(r0:Int)) (1+r2) hz):=(rb_norm hz).le (by omega) (by omega)
theorem rtn_o(i u k e:Nat)(hk:k≤1000000)(he:e≤1000000)(v0 r0:Nat)(hr0:r0≤(2*k))(hc1:(FT 55 #[(pt 10),(nI (2*k))] 12 [(10,(.cells [(.slice none 0 0),(nI i),(nU u)] 78 none false))] (nI r0) [(10,some (.cells [(.slice none 0 0),(nI (i+1)),(nU v0)] 78 none false))] []))(v1 r1:Nat)(hr1:r1≤3)(w:Nat)(hw:1≤w∧w≤1000000)(hd:([.int .i64 (.ofNat 1),.int .i64 (.ofNat 1),.int .i64 (.ofNat 2),.int .i64 (e:Int)]:List Value)[r1]? =some (nI w))(hc4:(FT 55 #[(pt 10),(lI 3)] 13 [(10,(.cells [(.slice none 0 0),(nI (i+1)),(nU v0)] 78 none false))] (nI r1) [(10,some (.cells [(.slice none 0 0),(nI ((i+1)+1)),(nU v1)] 78 none false))] []))(v2 r2:Nat)(hr2:r2≤(w-1))(hc6:FT 55 #[(pt 10),(nI (w-1))] 13 [(10,(.cells [(.slice none 0 0),(nI ((i+1)+1)),(nU v1)] 78 none false))] (nI r2) [(10,some (z_a15_1 i v2))] [])(z:Rat)(hc8:(FT 43 #[(.int .i64 ((-(k:Int))+(r0:Int))),(nI (1+r2))] 13 [] (.agg #[(.string (istr z.num)),(.string (istr (z.den:Int)))]) [] [])):CT 22 #[(pt 10),(nI k),(nI e)] (mkH 11 [(10,(.cells [(.slice none 0 0),(nI i),(nU u)] 78 none false))]) (.agg #[(.string (istr z.num)),(.string (istr (z.den:Int)))]) (mkH 13 [(10,(z_a15_1 i v2))]):=
 sF (sc:=[(8,.op (.rwI (-(k:Int)))),(12,.op (.rwI (((2*k):Nat):Int))),(0,.call [10] (nI r0) [(10,some (.cells [(.slice none 0 0),(nI (i+1)),(nU v0)] 78 none false))] []),(0,.op (.rwI ((-(k:Int))+(r0:Int)))),(20,.call [10] (nI r1) [(10,some (.cells [(.slice none 0 0),(nI ((i+1)+1)),(nU v1)] 78 none false))] []),(0,.op (.idx r1)),(0,.op (.ld (nI w))),(15,.op (.rwI (((w-1):Nat):Int))),(0,.call [10] (nI r2) [(10,some (z_a15_1 i v2))] []),(0,.op (.rwI (((1+r2):Nat):Int))),(4,.call [] (.agg #[(.string (istr z.num)),(.string (istr (z.den:Int)))]) [] []),(3,.stay)]) (by kernel_rfl) (aI (show IntKind.wrap .i64 ((0:Int)-(k:Int))=(-(k:Int)) from (by rw[wrap_i64 (by omega) (by omega)];try omega)) (aI (show IntKind.wrap .i64 ((k:Int)-(-(k:Int)))=(((2*k):Nat):Int) from (by rw[wrap_i64 (by omega) (by omega)];try omega)) (aI hc1 (aI (show IntKind.wrap .i64 ((-(k:Int))+(r0:Int))=((-(k:Int))+(r0:Int)) from (by rw[wrap_i64 (by omega) (by omega)];try omega)) (aI hc4 (aI (ix (r1:Int) ((4:Nat):Int) 0 1 r1 (by omega)) (aI hd (aI (show IntKind.wrap .i64 ((w:Int)-(1:Int))=(((w-1):Nat):Int) from (by rw[wrap_i64 (by omega) (by omega)];try omega)) (aI hc6 (aI (show IntKind.wrap .i64 ((1:Int)+(r2:Int))=(((1+r2):Nat):Int) from (by rw[wrap_i64 (by omega) (by omega)];try omega)) (aI hc8 tt))))))))))) (Gets.refl _)
theorem ratn_c(n0 b:Nat)(i u k e:Nat)(hb:10≤b∧b<n0)(hi:i<4611686018427387904)(hk:k≤1000000)(he:1≤e∧e≤1000000):
  ∃(z:Rat) (u':Nat),RB k (max 2 e) z∧FT 22 #[pt b,.int .i64 ((k:Nat):Int),.int .i64 ((e:Nat):Int)] n0 [(b,.cells [.slice none 0 0,.int .i64 ((i:Nat):Int),.int .u64 ((u:Nat):Int)] 78 none false)] (.agg #[(.string (istr z.num)),(.string (istr (z.den:Int)))]) [(b,some (.cells [.slice none 0 0,.int .i64 ((i+3:Nat):Int),.int .u64 ((u':Nat):Int)] 78 none false))] []:=by
 obtain⟨v0,r0,hr0,T0⟩:=upn_c 12 10 (i) u (2*k) (by omega) (by omega) (by omega)
 obtain⟨v1,r1,hr1,T1⟩:=upn_c 13 10 (i+1) v0 (3) (by omega) (by omega) (by omega)
 obtain⟨w,hw,hd⟩:=pick4 hr1 he
 obtain⟨v2,r2,hr2,T2⟩:=upn_c 13 10 (i+1+1) v1 (w-1) (by omega) (by omega) (by omega)
 have hz:1+r2≠0:=by omega
 have R:=ro_c 13 (-(k:Int)+(r0:Int)) (1+r2) (by omega) (by omega) (by omega) hz
 exact⟨_,v2,rb_of hr0 hr2 hw hz,fsp_flat [b] [.cells [.slice none 0 0,.int .i64 ((i:Nat):Int),.int .u64 ((u:Nat):Int)] 78 none false] [.cells [.slice none 0 0,.int .i64 ((i+3:Nat):Int),.int .u64 ((v2:Nat):Int)] 78 none false] [] [] n0 (rtn_o i u k e hk he.2 v0 r0 hr0 T0 v1 r1 hr1 w ⟨hw.1,by omega⟩ hd T1 v2 r2 hr2 T2 _ R) rfl rfl rfl (by simp) (by simp;omega) (by omega) (by simp[flat,closedL,closed]) (by simp[flat,closedL,closed]) rfl (by simp) (by simp) rfl rfl rfl⟩
theorem rt_o(zs:List Int)(o n c:Nat)(i u k e:Nat)(hk:k≤1000000)(he:e≤1000000)(v0 r0:Nat)(hr0:r0≤(2*k))(hc1:(FT 55 #[(pt 10),(nI (2*k))] 13 [(10,(.cells [(.slice (some ⟨11,o,none⟩) n c),(nI i),(nU u)] 78 none false)),(11,(z_a15_0 o zs))] (nI r0) [(10,some (.cells [(.slice (some ⟨11,o,none⟩) n c),(nI (i+1)),(nU v0)] 78 none false)),(11,some (z_a15_0 o zs))] []))(v1 r1:Nat)(hr1:r1≤3)(w:Nat)(hw:1≤w∧w≤1000000)(hd:([.int .i64 (.ofNat 1),.int .i64 (.ofNat 1),.int .i64 (.ofNat 2),.int .i64 (e:Int)]:List Value)[r1]? =some (nI w))(hc4:(FT 55 #[(pt 10),(lI 3)] 14 [(10,(.cells [(.slice (some ⟨11,o,none⟩) n c),(nI (i+1)),(nU v0)] 78 none false)),(11,(z_a15_0 o zs))] (nI r1) [(10,some (.cells [(.slice (some ⟨11,o,none⟩) n c),(nI ((i+1)+1)),(nU v1)] 78 none false)),(11,some (z_a15_0 o zs))] []))(v2 r2:Nat)(hr2:r2≤(w-1))(hc6:FT 55 #[(pt 10),(nI (w-1))] 14 [(10,(.cells [(.slice (some ⟨11,o,none⟩) n c),(nI ((i+1)+1)),(nU v1)] 78 none false)),(11,(z_a15_0 o zs))] (nI r2) [(10,some (z_a15_2 o n c i v2)),(11,some (z_a15_0 o zs))] [])(z:Rat)(hc8:(FT 43 #[(.int .i64 ((-(k:Int))+(r0:Int))),(nI (1+r2))] 14 [] (.agg #[(.string (istr z.num)),(.string (istr (z.den:Int)))]) [] [])):CT 22 #[(pt 10),(nI k),(nI e)] (mkH 12 [(10,(.cells [(.slice (some ⟨11,o,none⟩) n c),(nI i),(nU u)] 78 none false)),(11,(z_a15_0 o zs))]) (.agg #[(.string (istr z.num)),(.string (istr (z.den:Int)))]) (mkH 14 [(10,(z_a15_2 o n c i v2)),(11,(z_a15_0 o zs))]):=
 sF (sc:=[(8,.op (.rwI (-(k:Int)))),(12,.op (.rwI (((2*k):Nat):Int))),(0,.call [10,11] (nI r0) [(10,some (.cells [(.slice (some ⟨11,o,none⟩) n c),(nI (i+1)),(nU v0)] 78 none false)),(11,some (z_a15_0 o zs))] []),(0,.op (.rwI ((-(k:Int))+(r0:Int)))),(20,.call [10,11] (nI r1) [(10,some (.cells [(.slice (some ⟨11,o,none⟩) n c),(nI ((i+1)+1)),(nU v1)] 78 none false)),(11,some (z_a15_0 o zs))] []),(0,.op (.idx r1)),(0,.op (.ld (nI w))),(15,.op (.rwI (((w-1):Nat):Int))),(0,.call [10,11] (nI r2) [(10,some (z_a15_2 o n c i v2)),(11,some (z_a15_0 o zs))] []),(0,.op (.rwI (((1+r2):Nat):Int))),(4,.call [] (.agg #[(.string (istr z.num)),(.string (istr (z.den:Int)))]) [] []),(3,.stay)]) (by kernel_rfl) (aI (show IntKind.wrap .i64 ((0:Int)-(k:Int))=(-(k:Int)) from (by rw[wrap_i64 (by omega) (by omega)];try omega)) (aI (show IntKind.wrap .i64 ((k:Int)-(-(k:Int)))=(((2*k):Nat):Int) from (by rw[wrap_i64 (by omega) (by omega)];try omega)) (aI hc1 (aI (show IntKind.wrap .i64 ((-(k:Int))+(r0:Int))=((-(k:Int))+(r0:Int)) from (by rw[wrap_i64 (by omega) (by omega)];try omega)) (aI hc4 (aI (ix (r1:Int) ((4:Nat):Int) 0 1 r1 (by omega)) (aI hd (aI (show IntKind.wrap .i64 ((w:Int)-(1:Int))=(((w-1):Nat):Int) from (by rw[wrap_i64 (by omega) (by omega)];try omega)) (aI hc6 (aI (show IntKind.wrap .i64 ((1:Int)+(r2:Int))=(((1+r2):Nat):Int) from (by rw[wrap_i64 (by omega) (by omega)];try omega)) (aI hc8 tt))))))))))) (Gets.refl _)
theorem rat_c(n0 b L:Nat)(zs:List Int)(o n c i u k e:Nat)(hb:10≤b∧b<n0∧10≤L∧L<n0∧b≠L)(hn:n≤zs.length)(hi:i<4611686018427387904)(hk:k≤1000000)(he:1≤e∧e≤1000000):
  ∃(z:Rat) (u':Nat),RB k (max 2 e) z∧FT 22 #[pt b,.int .i64 ((k:Nat):Int),.int .i64 ((e:Nat):Int)] n0 [(b,.cells [.slice (some ⟨L,o,none⟩) n c,.int .i64 ((i:Nat):Int),.int .u64 ((u:Nat):Int)] 78 none false),(L,.win o (zs.map (Value.int .i64)))] (.agg #[(.string (istr z.num)),(.string (istr (z.den:Int)))]) [(b,some (.cells [.slice (some ⟨L,o,none⟩) n c,.int .i64 ((i+3:Nat):Int),.int .u64 ((u':Nat):Int)] 78 none false)),(L,some (.win o (zs.map (Value.int .i64))))] []:=by
 obtain⟨v0,r0,hr0,T0⟩:=up_c 13 10 11 zs o n c (i) u (2*k) (by omega) hn (by omega) (by omega)
 obtain⟨v1,r1,hr1,T1⟩:=up_c 14 10 11 zs o n c (i+1) v0 (3) (by omega) hn (by omega) (by omega)
 obtain⟨w,hw,hd⟩:=pick4 hr1 he
 obtain⟨v2,r2,hr2,T2⟩:=up_c 14 10 11 zs o n c (i+1+1) v1 (w-1) (by omega) hn (by omega) (by omega)
 have hz:1+r2≠0:=by omega
 have R:=ro_c 14 (-(k:Int)+(r0:Int)) (1+r2) (by omega) (by omega) (by omega) hz
 exact⟨_,v2,rb_of hr0 hr2 hw hz,fsp_move (os':=[.cells [.slice (some ⟨L,o,none⟩) n c,.int .i64 ((i:Nat):Int),.int .u64 ((u:Nat):Int)] 78 none false,.win o (zs.map (Value.int .i64))]) (ps':=[.cells [.slice (some ⟨L,o,none⟩) n c,.int .i64 ((i+3:Nat):Int),.int .u64 ((v2:Nat):Int)] 78 none false,.win o (zs.map (Value.int .i64))]) (qs':=[]) [b,L] [.cells [.slice (some ⟨11,o,none⟩) n c,.int .i64 ((i:Nat):Int),.int .u64 ((u:Nat):Int)] 78 none false,.win o (zs.map (Value.int .i64))] [.cells [.slice (some ⟨11,o,none⟩) n c,.int .i64 ((i+3:Nat):Int),.int .u64 ((v2:Nat):Int)] 78 none false,.win o (zs.map (Value.int .i64))] [] [] n0 (rt_o zs o n c i u k e hk he.2 v0 r0 hr0 T0 v1 r1 hr1 w ⟨hw.1,by omega⟩ hd T1 v2 r2 hr2 T2 _ R) rfl rfl rfl (by simp[hb.2.2.2.2]) (by simp;omega) (by omega) rfl (by simp[goodO,goodL,good,okI,closedL_good _ _ (ints_closed zs)]) rfl (by simp only[List.map_cons,List.map_nil,mvO,closedL_mv _ _ (ints_closed zs)];rfl) (by simp only[List.map_cons,List.map_nil,mvO,closedL_mv _ _ (ints_closed zs)];rfl) rfl (by simp) (by simp) rfl rfl rfl⟩
end Go.Proofs.YtdgbfelbfhgglaaGreatDoor
