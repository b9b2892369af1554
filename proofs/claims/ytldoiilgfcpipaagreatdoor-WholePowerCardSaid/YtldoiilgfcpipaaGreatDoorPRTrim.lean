import Derived.Test.YtldoiilgfcpipaaGreatDoorPWholeN
import Derived.Test.YtldoiilgfcpipaaGreatDoorLF
set_option linter.unusedVariables false
set_option linter.unusedSimpArgs false
set_option maxRecDepth 100000
namespace Go.Proofs.YtldoiilgfcpipaaGreatDoor
open Go Go.AE Seg
noncomputable section
abbrev Se(xs:List Nat):List (Nat×AObj):=[(5,(cI xs (some 1)))]
abbrev Sf(xs:List Nat):List (Nat×AObj):=[(5,(cI xs none))]
abbrev z_450_2(i a:Nat):List Value:=[(sl 5 i 0),(nI i),bT,bT,(sl 5 i 0),(sl 5 i 0),(nI i),(nI (i-1)),(pp 5 (i-1)),(nI a),bT,bT,(sl 5 i 0),(sl 5 i 0),(nI i),(nI (i-1)),(sl 5 (i-1) 0)]
abbrev z_450_3(i c a:Nat):List Value:=[(sl 5 i c),(nI i),bT,bT,(sl 5 i c),(sl 5 i c),(nI i),(nI (i-1)),(pp 5 (i-1)),(nI a),bT,bT,(sl 5 i c),(sl 5 i c),(nI i),(nI (i-1)),(sl 5 (i-1) c)]
abbrev z_450_4:List Value:=[undef,undef,undef,undef,undef,undef,undef,undef,undef,undef,undef,undef,undef,undef,undef,undef,undef]
end
theorem Qc(k:IntKind)(xs:List Nat)(v:Nat):ns k xs++[.int k ((v:Nat):Int)]=ns k (xs++[v]):=by simp[ns]
theorem Kt{i:Nat}(h:0<i)(hm:i<1099511627776):IntKind.wrap .i64 (((i:Nat):Int)-(1:Int))=(((i-1):Nat):Int):=by
 rw[Bw om om];omega
noncomputable def rt_h_f(xs:List Nat)(n:Nat)(i:Nat)(j:List Value):Frame:=(Fr 133 ([(sl 5 i 0),uu,nS]++(jj j 0 17 [uu])) [.code (cd Tryz.f133 [1,0,0,0]),.inLoop (cd Tryz.f133 [1,0,0,0]),.inBlock 0,.code (cd Tryz.f133 [1,1])])
noncomputable def rt_h_o(xs:List Nat)(n:Nat)(i:Nat):List (Nat×AObj):=(Se xs)
noncomputable def rt_h(xs:List Nat)(n:Nat)(i:Nat)(j:List Value):AS:=⟨rt_h_f xs n i j,[],Ag 6 (rt_h_o xs n i)⟩
theorem rt_in(xs:List Nat)(n:Nat):GT (Cg 133 #[(sl 5 n 0)] 6 (Se xs)) (rt_h xs n n z_450_4):=
 sR (sc:=[(7,.stay)]) kr tt
theorem rt_r(xs:List Nat)(n:Nat)(i a:Nat)(j:List Value)(h0:0<i)(hi:i≤n)(hc:n≤xs.length)(hm:n<1099511627776)(hx:(ns .i64 xs)[i-1]? =some (nI a))(ha:a=0):GT (rt_h xs n i j) (rt_h xs n (i-1) (z_450_2 i a)):=
 sR (sc:=[(5,.op (.rwB true)),(4,.op (.rwI (((i-1):Nat):Int))),(0,.op (.idx (i-1))),(0,.op (.ld (nI a))),(0,.op (.rwB true)),(9,.op (.rwI (((i-1):Nat):Int))),(0,.op (.slo (i-1))),(4,.stay)]) kr (aI (dT (p:=(i:Int)>(0:Int))) (aI (show IntKind.wrap .i64 ((i:Int)-(1:Int))=(((i-1):Nat):Int) from (Kt h0 om)) (aI (ix (((i-1):Nat):Int) (i:Int) 0 1 (i-1)) (aI hx (aI (show ((a:Int)==(0:Int))=true from (by rw[beq_iff_eq];omega)) (aI (show IntKind.wrap .i64 ((i:Int)-(1:Int))=(((i-1):Nat):Int) from (Kt h0 om)) (aI (show 0≤(((i-1):Nat):Int)∧Int.toNat (((i-1):Nat):Int)*1≤((ns .i64 xs):List Value).length∧Int.toNat (((i-1):Nat):Int)=(i-1) from⟨by omega,by rw[Bo];omega,by omega⟩) tt)))))))
theorem rt_o1(xs:List Nat)(n:Nat)(i a:Nat)(j:List Value)(h0:0<i)(hi:i≤n)(hc:n≤xs.length)(hm:n<1099511627776)(hx:(ns .i64 xs)[i-1]? =some (nI a))(ha:a≠0)(hr:GT (Cg 133 #[(sl 5 n 0)] 6 (Se xs)) (rt_h xs n i j)):CT 133 #[(sl 5 n 0)] (Ag 6 (Se xs)) (sl 5 i 0) (Ag 6 (Se xs)):=
 sF (sc:=[(5,.op (.rwB true)),(4,.op (.rwI (((i-1):Nat):Int))),(0,.op (.idx (i-1))),(0,.op (.ld (nI a))),(0,.op (.rwB false)),(10,.stay)]) kr (aI (dT (p:=(i:Int)>(0:Int))) (aI (show IntKind.wrap .i64 ((i:Int)-(1:Int))=(((i-1):Nat):Int) from (Kt h0 om)) (aI (ix (((i-1):Nat):Int) (i:Int) 0 1 (i-1)) (aI hx (aI (show ((a:Int)==(0:Int))=false from (by rw[beq_eq_false_iff_ne];omega)) tt))))) hr
theorem rt_o2(xs:List Nat)(n:Nat)(i:Nat)(j:List Value)(h0:i=0)(hr:GT (Cg 133 #[(sl 5 n 0)] 6 (Se xs)) (rt_h xs n i j)):CT 133 #[(sl 5 n 0)] (Ag 6 (Se xs)) (sl 5 i 0) (Ag 6 (Se xs)):=
 sF (sc:=[(5,.op (.rwB false)),(18,.stay)]) kr (aI (dF (p:=(i:Int)>(0:Int))) tt) hr
theorem rt_loop{n:Nat}{xs:List Nat}(hc:n≤xs.length)(hm:n<1099511627776): ∀(i:Nat) (j:List Value),i≤n→F.top xs i=F.top xs n→
  GT (Cg 133 #[(sl 5 n 0)] 6 [(5,(cI xs (some 1)))]) (rt_h xs n i j)→CT 133 #[(sl 5 n 0)] (Ag 6 [(5,(cI xs (some 1)))]) (sl 5 (F.top xs n) 0) (Ag 6 [(5,(cI xs (some 1)))]):=by
 intro i
 induction i with
 |zero=>
  intro j _ ht hr
  have:=rt_o2 xs n 0 j rfl hr
  rw[←ht]
  exact this
 |succ i ih=>
  intro j hi ht hr
  by_cases ha:xs.getD i 0=0
  ·have r:=rt_r xs n (i+1) (xs.getD i 0) j om hi hc hm (Ar) ha
   exact ih _ om (by rw[←ht,F.top_zero ha]) (hr.trans r)
  ·have:=rt_o1 xs n (i+1) (xs.getD i 0) j om hi hc hm (Ar) ha hr
   rw[←ht,F.top_some ha]
   exact this
theorem rt_c(n0 b:Nat)(xs:List Nat)(n:Nat)(hb:5≤b∧b<n0)(hc:n≤xs.length)(hm:n<1099511627776):
  FT 133 #[sl b n 0] n0 [(b,.cells (ns .i64 xs) 3 (some 1) false)] (sl b (F.top xs n) 0) [(b,some (cI xs (some 1)))] []:=
 ff [b] [.cells (ns .i64 xs) 3 (some 1) false] [.cells (ns .i64 xs) 3 (some 1) false] [] [] n0 (rt_loop hc hm n _ (Nat.le_refl _) rfl (rt_in xs n))
noncomputable def rs_h_f(xs:List Nat)(n c:Nat)(i:Nat)(j:List Value):Frame:=(Fr 133 ([(sl 5 i c),uu,nS]++(jj j 0 17 [uu])) [.code (cd Tryz.f133 [1,0,0,0]),.inLoop (cd Tryz.f133 [1,0,0,0]),.inBlock 0,.code (cd Tryz.f133 [1,1])])
noncomputable def rs_h_o(xs:List Nat)(n c:Nat)(i:Nat):List (Nat×AObj):=(Sf xs)
noncomputable def rs_h(xs:List Nat)(n c:Nat)(i:Nat)(j:List Value):AS:=⟨rs_h_f xs n c i j,[],Ag 6 (rs_h_o xs n c i)⟩
theorem rs_in(xs:List Nat)(n c:Nat):GT (Cg 133 #[(sl 5 n c)] 6 (Sf xs)) (rs_h xs n c n z_450_4):=
 sR (sc:=[(7,.stay)]) kr tt
theorem rs_r(xs:List Nat)(n c:Nat)(i a:Nat)(j:List Value)(h0:0<i)(hi:i≤n)(hc:n≤xs.length)(hm:n<1099511627776)(hx:(ns .i64 xs)[i-1]? =some (nI a))(hnc:n≤c)(ha:a=0):GT (rs_h xs n c i j) (rs_h xs n c (i-1) (z_450_3 i c a)):=
 sR (sc:=[(5,.op (.rwB true)),(4,.op (.rwI (((i-1):Nat):Int))),(0,.op (.idx (i-1))),(0,.op (.ld (nI a))),(0,.op (.rwB true)),(9,.op (.rwI (((i-1):Nat):Int))),(0,.op (.slc 0 (i-1) c)),(4,.stay)]) kr (aI (dT (p:=(i:Int)>(0:Int))) (aI (show IntKind.wrap .i64 ((i:Int)-(1:Int))=(((i-1):Nat):Int) from (Kt h0 om)) (aI (ix (((i-1):Nat):Int) (i:Int) 0 1 (i-1)) (aI hx (aI (show ((a:Int)==(0:Int))=true from (by rw[beq_iff_eq];omega)) (aI (show IntKind.wrap .i64 ((i:Int)-(1:Int))=(((i-1):Nat):Int) from (Kt h0 om)) (aI (show 0≤(0:Int)∧(0:Int)≤(((i-1):Nat):Int)∧(((i-1):Nat):Int)≤(c:Int)∧(if c=Int.toNat (0:Int) then 0 else 0+Int.toNat (0:Int)*1)=0∧Int.toNat ((((i-1):Nat):Int)-(0:Int))=(i-1)∧c-Int.toNat (0:Int)=c from (by repeat (first|omega|(split<;>omega)|constructor))) tt)))))))
theorem rs_o1(xs:List Nat)(n c:Nat)(i a:Nat)(j:List Value)(h0:0<i)(hi:i≤n)(hc:n≤xs.length)(hm:n<1099511627776)(hx:(ns .i64 xs)[i-1]? =some (nI a))(hnc:n≤c)(ha:a≠0)(hr:GT (Cg 133 #[(sl 5 n c)] 6 (Sf xs)) (rs_h xs n c i j)):CT 133 #[(sl 5 n c)] (Ag 6 (Sf xs)) (sl 5 i c) (Ag 6 (Sf xs)):=
 sF (sc:=[(5,.op (.rwB true)),(4,.op (.rwI (((i-1):Nat):Int))),(0,.op (.idx (i-1))),(0,.op (.ld (nI a))),(0,.op (.rwB false)),(10,.stay)]) kr (aI (dT (p:=(i:Int)>(0:Int))) (aI (show IntKind.wrap .i64 ((i:Int)-(1:Int))=(((i-1):Nat):Int) from (Kt h0 om)) (aI (ix (((i-1):Nat):Int) (i:Int) 0 1 (i-1)) (aI hx (aI (show ((a:Int)==(0:Int))=false from (by rw[beq_eq_false_iff_ne];omega)) tt))))) hr
theorem rs_o2(xs:List Nat)(n c:Nat)(i:Nat)(j:List Value)(h0:i=0)(hr:GT (Cg 133 #[(sl 5 n c)] 6 (Sf xs)) (rs_h xs n c i j)):CT 133 #[(sl 5 n c)] (Ag 6 (Sf xs)) (sl 5 i c) (Ag 6 (Sf xs)):=
 sF (sc:=[(5,.op (.rwB false)),(18,.stay)]) kr (aI (dF (p:=(i:Int)>(0:Int))) tt) hr
theorem rs_loop{n c:Nat}{xs:List Nat}(hc:n≤xs.length)(hm:n<1099511627776)(hnc:n≤c): ∀(i:Nat) (j:List Value),i≤n→F.top xs i=F.top xs n→
  GT (Cg 133 #[(sl 5 n c)] 6 [(5,(cI xs none))]) (rs_h xs n c i j)→CT 133 #[(sl 5 n c)] (Ag 6 [(5,(cI xs none))]) (sl 5 (F.top xs n) c) (Ag 6 [(5,(cI xs none))]):=by
 intro i
 induction i with
 |zero=>
  intro j _ ht hr
  have:=rs_o2 xs n c 0 j rfl hr
  rw[←ht]
  exact this
 |succ i ih=>
  intro j hi ht hr
  by_cases ha:xs.getD i 0=0
  ·have r:=rs_r xs n c (i+1) (xs.getD i 0) j om hi hc hm (Ar) hnc ha
   exact ih _ om (by rw[←ht,F.top_zero ha]) (hr.trans r)
  ·have:=rs_o1 xs n c (i+1) (xs.getD i 0) j om hi hc hm (Ar) hnc ha hr
   rw[←ht,F.top_some ha]
   exact this
theorem rs_c(n0 b:Nat)(xs:List Nat)(n c:Nat)(hb:5≤b∧b<n0)(hc:n≤xs.length)(hm:n<1099511627776)(hnc:n≤c):
  FT 133 #[sl b n c] n0 [(b,.cells (ns .i64 xs) 3 none false)] (sl b (F.top xs n) c) [(b,some (cI xs none))] []:=
 ff [b] [.cells (ns .i64 xs) 3 none false] [.cells (ns .i64 xs) 3 none false] [] [] n0 (rs_loop hc hm hnc n _ (Nat.le_refl _) rfl (rs_in xs n c))
noncomputable section
abbrev z_f73_5(xs:List Nat)(i:Nat):Value:=nI (((((xs.getD i 0)/10)/10)/10)/10)
abbrev z_f73_6(xs:List Nat)(i:Nat):Value:=nB (48+(((((xs.getD i 0)/10)/10)/10)%10))
abbrev z_f73_4(xs:List Nat)(i:Nat)(st:ByteArray):Value:=.string ((Aa [((xs.getD i 0)/10/10%10)])++((Aa [((xs.getD i 0)/10%10)])++((Aa [((xs.getD i 0)%10)])++st)))
abbrev z_f73_3(xs:List Nat)(i:Nat)(st:ByteArray):Value:=.string ((Aa [((xs.getD i 0)/10/10/10%10)])++((Aa [((xs.getD i 0)/10/10%10)])++((Aa [((xs.getD i 0)/10%10)])++((Aa [((xs.getD i 0)%10)])++st))))
abbrev z_f73_0(xs:List Nat)(i n:Nat)(st:ByteArray):List Value:=[(z_f73_5 xs i),(lI 4),(nI i),(sl 5 n 0),(nI n),bT,(nI i),(nI (i+1)),(sl 5 n 0),(nI i),(pp 5 i),(nI (xs.getD i 0)),(lI 4),bF,(lI 3),(lI 4),(nI ((((xs.getD i 0)/10)/10)/10)),(nI (((((xs.getD i 0)/10)/10)/10)%10)),(nI (48+(((((xs.getD i 0)/10)/10)/10)%10))),(z_f73_6 xs i),(sl 9 1 1),(.string (Aa [((xs.getD i 0)/10/10/10%10)])),(z_f73_4 xs i st),(z_f73_3 xs i st),(nI ((((xs.getD i 0)/10)/10)/10)),(z_f73_5 xs i)]
abbrev Kp(xs:List Nat):List (Nat×AObj):=[(5,(cI xs (some 1)))]
abbrev z_f73_2:List Value:=[undef,undef,undef,undef,undef,undef,undef,undef,undef,undef,undef,undef,undef,undef,undef,undef,undef,undef,undef,undef,undef,undef,undef,undef,undef,undef]
end
theorem rx_e(xs:List Nat)(n:Nat)(h0:n=0):CT 134 #[(sl 5 n 0)] (Ag 6 (Kp xs)) (.string (bts [48])) (Ag 6 (Kp xs)):=
 sF (sc:=[(9,.op (.rwB true)),(7,.stay)]) kr (aI (eT (a:=(n:Int)) (b:=(0:Int))) tt) (Gets.refl _)
noncomputable def rx_h_f(xs:List Nat)(n:Nat)(st:ByteArray)(i:Nat)(j:List Value):Frame:=(Fr 134 ([(sl 5 n 0),uu,(.string (bts [])),(.string st),(nI i),(J j 0),(J j 1),(sl 5 n 0),(nI n),bF]++(jj j 2 24 (uj 11 []))) [.code (cd Tryz.f134 [1,1,1,0,1,0,0]),.inLoop (cd Tryz.f134 [1,1,1,0,1,0,0]),.inBlock 0,.code (cd Tryz.f134 [1,1,1,1])])
noncomputable def rx_h_o(xs:List Nat)(n:Nat)(st:ByteArray)(i:Nat):List (Nat×AObj):=(Kp xs)
noncomputable def rx_h(xs:List Nat)(n:Nat)(st:ByteArray)(i:Nat)(j:List Value):AS:=⟨rx_h_f xs n st i j,[],Ag 10 (rx_h_o xs n st i)⟩
theorem rx_in{s0:AS}(hs0:s0.h.next=6)(xs:List Nat)(n:Nat)(hn:n≤xs.length)(hm:n<1000000000)(h0:0<n)(hr:GT s0 (Cg 134 #[(sl 5 n 0)] 6 (Kp xs))):GT s0 (rx_h xs n (bts []) 0 z_f73_2):=by
 have h1:=hr.trans (sR (sc:=[(9,.op (.rwB false)),(14,.stay)]) (fr1:=(Fr 134 ([(sl 5 n 0),uu,(.string (bts [])),(.string (bts [])),(lI 0),uu,uu,(sl 5 n 0),(nI n),bF]++(uj 35 [])) [.code (cd Tryz.f134 [1,1,1,0,1,0,0]),.inLoop (cd Tryz.f134 [1,1,1,0,1,0,0]),.inBlock 0,.code (cd Tryz.f134 [1,1,1,1])])) (next:=6) (l:=(Kp xs)) kr (aI (eF (a:=(n:Int)) (b:=(0:Int))) tt))
 exact Ds (b:=6) (k:=0) h1 kr rfl rfl rfl kr (by rw[hs0];decide) (by rw[hs0];decide) de de (by simp[rx_h_o,show ∀c e o r,Bb (.cells c e o r)=Au c from fun _ _ _ _=>rfl,show ∀a b,Bb (.iter a b)=true from fun _ _=>rfl,Ab,Hf]) kr
theorem rx_r{s0:AS}(hs0:s0.h.next=6)(xs:List Nat)(n:Nat)(st:ByteArray)(i:Nat)(j:List Value)(hn:n≤xs.length)(hm:n<1000000000)(hi:i<n)(hs:st.size<4000000000)(hx:xs.getD i 0<10000)(hr:GT s0 (rx_h xs n st i j)):GT s0 (rx_h xs n ((Aa [((xs.getD i 0)/10/10/10%10)])++((Aa [((xs.getD i 0)/10/10%10)])++((Aa [((xs.getD i 0)/10%10)])++((Aa [((xs.getD i 0)%10)])++st)))) (i+1) (z_f73_0 xs i n st)):=by
 have h1:=hr.trans (sR (sc:=[(6,.op (.rwB true)),(9,.op (.idx i)),(0,.op (.ld (nI (xs.getD i 0)))),(21,.op (.rwI ((((xs.getD i 0)%10):Nat):Int))),(0,.op (.rwI (((48+((xs.getD i 0)%10)):Nat):Int))),(0,.op (.rwI (((48+((xs.getD i 0)%10)):Nat):Int))),(1,.op (.b2s (Aa [((xs.getD i 0)%10)]))),(1,.op (.cat ((Aa [((xs.getD i 0)%10)])++st))),(4,.op (.rwI ((((xs.getD i 0)/10):Nat):Int))),(22,.op (.rwI (((((xs.getD i 0)/10)%10):Nat):Int))),(0,.op (.rwI (((48+(((xs.getD i 0)/10)%10)):Nat):Int))),(0,.op (.rwI (((48+(((xs.getD i 0)/10)%10)):Nat):Int))),(1,.op (.b2s (Aa [((xs.getD i 0)/10%10)]))),(1,.op (.cat ((Aa [((xs.getD i 0)/10%10)])++((Aa [((xs.getD i 0)%10)])++st)))),(4,.op (.rwI (((((xs.getD i 0)/10)/10):Nat):Int))),(22,.op (.rwI ((((((xs.getD i 0)/10)/10)%10):Nat):Int))),(0,.op (.rwI (((48+((((xs.getD i 0)/10)/10)%10)):Nat):Int))),(0,.op (.rwI (((48+((((xs.getD i 0)/10)/10)%10)):Nat):Int))),(1,.op (.b2s (Aa [((xs.getD i 0)/10/10%10)]))),(1,.op (.cat ((Aa [((xs.getD i 0)/10/10%10)])++((Aa [((xs.getD i 0)/10%10)])++((Aa [((xs.getD i 0)%10)])++st))))),(4,.op (.rwI ((((((xs.getD i 0)/10)/10)/10):Nat):Int))),(22,.op (.rwI (((((((xs.getD i 0)/10)/10)/10)%10):Nat):Int))),(0,.op (.rwI (((48+(((((xs.getD i 0)/10)/10)/10)%10)):Nat):Int))),(0,.op (.rwI (((48+(((((xs.getD i 0)/10)/10)/10)%10)):Nat):Int))),(1,.op (.b2s (Aa [((xs.getD i 0)/10/10/10%10)]))),(1,.op (.cat ((Aa [((xs.getD i 0)/10/10/10%10)])++((Aa [((xs.getD i 0)/10/10%10)])++((Aa [((xs.getD i 0)/10%10)])++((Aa [((xs.getD i 0)%10)])++st)))))),(4,.op (.rwI (((((((xs.getD i 0)/10)/10)/10)/10):Nat):Int))),(20,.op (.rwI (((i+1):Nat):Int))),(3,.stay)]) (fr1:=(Fr 134 ([(sl 5 n 0),uu,(.string (bts [])),(z_f73_3 xs i st),(nI (i+1)),(z_f73_5 xs i),(lI 4),(sl 5 n 0),(nI n),bF,(nI i),(sl 5 n 0),(nI n),bT,(nI i),(nI (i+1)),(sl 5 n 0),(nI i),(pp 5 i),(nI (xs.getD i 0)),(lI 4),bF,(lI 3),(lI 4),(nI ((((xs.getD i 0)/10)/10)/10)),(nI (((((xs.getD i 0)/10)/10)/10)%10)),(nI (48+(((((xs.getD i 0)/10)/10)/10)%10))),(z_f73_6 xs i),(sl 13 1 1),(.string (Aa [((xs.getD i 0)/10/10/10%10)])),(z_f73_4 xs i st),(z_f73_3 xs i st),(nI ((((xs.getD i 0)/10)/10)/10)),(z_f73_5 xs i)]++(uj 11 [])) [.code (cd Tryz.f134 [1,1,1,0,1,0,0]),.inLoop (cd Tryz.f134 [1,1,1,0,1,0,0]),.inBlock 0,.code (cd Tryz.f134 [1,1,1,1])])) (next:=14) (l:=(Kp xs)) kr (aI (dT (p:=(i:Int)<(n:Int))) (aI (ix (i:Int) (n:Int) 0 1 i) (aI (Ar (k:=.i64) (xs:=xs) (i:=i)) (aI (show (Int.tmod (((xs.getD i 0):Nat):Int) (10:Int))=((((xs.getD i 0)%10):Nat):Int) from (by rw[Int.tmod_eq_emod_of_nonneg om]<;>omega)) (aI (Ao (a:=((48:Int)+((((xs.getD i 0)%10):Nat):Int))) (r:=(((48+((xs.getD i 0)%10)):Nat):Int))) (aI (Zi (a:=(((48+((xs.getD i 0)%10)):Nat):Int)) (r:=(((48+((xs.getD i 0)%10)):Nat):Int))) (aI (show 0+1≤([(nB (48+((xs.getD i 0)%10)))]).length∧(Dm (List.take 1 (List.drop 0 [(nB (48+((xs.getD i 0)%10)))]))).map (fun ns=>(⟨(ns.map fun n=>UInt8.ofNat n.toNat).toArray⟩:ByteArray))=some (Aa [((xs.getD i 0)%10)]) from (Gd om)) (aI (show ((((Aa [((xs.getD i 0)%10)]).size+st.size:Nat)):Int)≤9223372036854775807∧(Aa [((xs.getD i 0)%10)])++st=((Aa [((xs.getD i 0)%10)])++st) from⟨by simp only[ByteArray.size_append,Af,List.length_cons,List.length_nil];omega,rfl⟩) (aI (show IntKind.wrap .i64 (Int.tdiv (((xs.getD i 0):Nat):Int) (10:Int))=((((xs.getD i 0)/10):Nat):Int) from (by rw[Int.tdiv_eq_ediv_of_nonneg om,Bw om om]<;>omega)) (aI (show (Int.tmod ((((xs.getD i 0)/10):Nat):Int) (10:Int))=(((((xs.getD i 0)/10)%10):Nat):Int) from (by rw[Int.tmod_eq_emod_of_nonneg om]<;>omega)) (aI (Ao (a:=((48:Int)+(((((xs.getD i 0)/10)%10):Nat):Int))) (r:=(((48+(((xs.getD i 0)/10)%10)):Nat):Int))) (aI (Zi (a:=(((48+(((xs.getD i 0)/10)%10)):Nat):Int)) (r:=(((48+(((xs.getD i 0)/10)%10)):Nat):Int))) (aI (show 0+1≤([(nB (48+(((xs.getD i 0)/10)%10)))]).length∧(Dm (List.take 1 (List.drop 0 [(nB (48+(((xs.getD i 0)/10)%10)))]))).map (fun ns=>(⟨(ns.map fun n=>UInt8.ofNat n.toNat).toArray⟩:ByteArray))=some (Aa [((xs.getD i 0)/10%10)]) from (Gd om)) (aI (show ((((Aa [((xs.getD i 0)/10%10)]).size+((Aa [((xs.getD i 0)%10)])++st).size:Nat)):Int)≤9223372036854775807∧(Aa [((xs.getD i 0)/10%10)])++((Aa [((xs.getD i 0)%10)])++st)=((Aa [((xs.getD i 0)/10%10)])++((Aa [((xs.getD i 0)%10)])++st)) from⟨by simp only[ByteArray.size_append,Af,List.length_cons,List.length_nil];omega,rfl⟩) (aI (show IntKind.wrap .i64 (Int.tdiv ((((xs.getD i 0)/10):Nat):Int) (10:Int))=(((((xs.getD i 0)/10)/10):Nat):Int) from (by rw[Int.tdiv_eq_ediv_of_nonneg om,Bw om om]<;>omega)) (aI (show (Int.tmod (((((xs.getD i 0)/10)/10):Nat):Int) (10:Int))=((((((xs.getD i 0)/10)/10)%10):Nat):Int) from (by rw[Int.tmod_eq_emod_of_nonneg om]<;>omega)) (aI (Ao (a:=((48:Int)+((((((xs.getD i 0)/10)/10)%10):Nat):Int))) (r:=(((48+((((xs.getD i 0)/10)/10)%10)):Nat):Int))) (aI (Zi (a:=(((48+((((xs.getD i 0)/10)/10)%10)):Nat):Int)) (r:=(((48+((((xs.getD i 0)/10)/10)%10)):Nat):Int))) (aI (show 0+1≤([(nB (48+((((xs.getD i 0)/10)/10)%10)))]).length∧(Dm (List.take 1 (List.drop 0 [(nB (48+((((xs.getD i 0)/10)/10)%10)))]))).map (fun ns=>(⟨(ns.map fun n=>UInt8.ofNat n.toNat).toArray⟩:ByteArray))=some (Aa [((xs.getD i 0)/10/10%10)]) from (Gd om)) (aI (show ((((Aa [((xs.getD i 0)/10/10%10)]).size+((Aa [((xs.getD i 0)/10%10)])++((Aa [((xs.getD i 0)%10)])++st)).size:Nat)):Int)≤9223372036854775807∧(Aa [((xs.getD i 0)/10/10%10)])++((Aa [((xs.getD i 0)/10%10)])++((Aa [((xs.getD i 0)%10)])++st))=((Aa [((xs.getD i 0)/10/10%10)])++((Aa [((xs.getD i 0)/10%10)])++((Aa [((xs.getD i 0)%10)])++st))) from⟨by simp only[ByteArray.size_append,Af,List.length_cons,List.length_nil];omega,rfl⟩) (aI (show IntKind.wrap .i64 (Int.tdiv (((((xs.getD i 0)/10)/10):Nat):Int) (10:Int))=((((((xs.getD i 0)/10)/10)/10):Nat):Int) from (by rw[Int.tdiv_eq_ediv_of_nonneg om,Bw om om]<;>omega)) (aI (show (Int.tmod ((((((xs.getD i 0)/10)/10)/10):Nat):Int) (10:Int))=(((((((xs.getD i 0)/10)/10)/10)%10):Nat):Int) from (by rw[Int.tmod_eq_emod_of_nonneg om]<;>omega)) (aI (Ao (a:=((48:Int)+(((((((xs.getD i 0)/10)/10)/10)%10):Nat):Int))) (r:=(((48+(((((xs.getD i 0)/10)/10)/10)%10)):Nat):Int))) (aI (Zi (a:=(((48+(((((xs.getD i 0)/10)/10)/10)%10)):Nat):Int)) (r:=(((48+(((((xs.getD i 0)/10)/10)/10)%10)):Nat):Int))) (aI (show 0+1≤([(z_f73_6 xs i)]).length∧(Dm (List.take 1 (List.drop 0 [(z_f73_6 xs i)]))).map (fun ns=>(⟨(ns.map fun n=>UInt8.ofNat n.toNat).toArray⟩:ByteArray))=some (Aa [((xs.getD i 0)/10/10/10%10)]) from (Gd om)) (aI (show ((((Aa [((xs.getD i 0)/10/10/10%10)]).size+((Aa [((xs.getD i 0)/10/10%10)])++((Aa [((xs.getD i 0)/10%10)])++((Aa [((xs.getD i 0)%10)])++st))).size:Nat)):Int)≤9223372036854775807∧(Aa [((xs.getD i 0)/10/10/10%10)])++((Aa [((xs.getD i 0)/10/10%10)])++((Aa [((xs.getD i 0)/10%10)])++((Aa [((xs.getD i 0)%10)])++st)))=((Aa [((xs.getD i 0)/10/10/10%10)])++((Aa [((xs.getD i 0)/10/10%10)])++((Aa [((xs.getD i 0)/10%10)])++((Aa [((xs.getD i 0)%10)])++st)))) from⟨by simp only[ByteArray.size_append,Af,List.length_cons,List.length_nil];omega,rfl⟩) (aI (show IntKind.wrap .i64 (Int.tdiv ((((((xs.getD i 0)/10)/10)/10):Nat):Int) (10:Int))=(((((((xs.getD i 0)/10)/10)/10)/10):Nat):Int) from (by rw[Int.tdiv_eq_ediv_of_nonneg om,Bw om om]<;>omega)) (aI (Ao (a:=((i:Int)+(1:Int))) (r:=(((i+1):Nat):Int))) tt)))))))))))))))))))))))))))))
 exact Ds (b:=6) (k:=4) h1 kr rfl rfl rfl kr (by rw[hs0];decide) (by rw[hs0];decide) de de (by simp[rx_h_o,show ∀c e o r,Bb (.cells c e o r)=Au c from fun _ _ _ _=>rfl,show ∀a b,Bb (.iter a b)=true from fun _ _=>rfl,Ab,Hf]) kr
noncomputable def rx_z_f(xs:List Nat)(n:Nat)(st:ByteArray)(j:List Value):Frame:=(Fr 134 ([(sl 5 n 0),uu,(J j 0),(.string st)]++(jj j 1 5 ([bF]++(jj j 6 3 ([bF]++(jj j 9 30 [uu])))))) [.code (cd Tryz.f134 [1,1,1,1,0,0,0]),.inLoop (cd Tryz.f134 [1,1,1,1,0,0,0]),.inBlock 4,.code (cd Tryz.f134 [1,1,1,1,1])])
noncomputable def rx_z_o(xs:List Nat)(n:Nat)(st:ByteArray):List (Nat×AObj):=(Kp xs)
noncomputable def rx_z(xs:List Nat)(n:Nat)(st:ByteArray)(j:List Value):AS:=⟨rx_z_f xs n st j,[],Ag 10 (rx_z_o xs n st)⟩
theorem rx_x(xs:List Nat)(n:Nat)(st:ByteArray)(i:Nat)(j:List Value)(hi:n≤i):GT (rx_h xs n st i j) (rx_z xs n st ([(.string (bts [])),(nI i),(J j 0),(J j 1),(sl 5 n 0),(nI n),(nI i),(sl 5 n 0),(nI n)]++(jj j 6 20 [undef,undef,undef,undef,undef,undef,undef,undef,undef,undef]))):=
 sR (sc:=[(6,.op (.rwB false)),(6,.stay)]) kr (aI (dF (p:=(i:Int)<(n:Int))) tt)
theorem Wf{e:Nat}(h:e<10):(UInt8.ofNat (48+e)).toNat=48+e:=by
 rw[UInt8.toNat_ofNat'];omega
theorem Nm(a:Nat)(ds:List Nat):Aa [a]++Aa ds=Aa (a::ds):=by
 apply ByteArray.ext
 simp[ByteArray.data_append,Aa]
theorem rx_z1(xs:List Nat)(n:Nat)(ds:List Nat)(j:List Value)(h1:1<(Aa ds).size)(hm:(Aa ds).size<1099511627776)(e:Nat)(hq:e<10)(hx:(Aa ds)[0]? =some (UInt8.ofNat (48+e)))(he:e=0):GT (rx_z xs n (Aa ds) j) (rx_z xs n (Aa (ds.drop 1)) (jj j 0 29 [(.string (Aa ds)),(nI ((Aa ds).size)),bT,bT,(.string (Aa ds)),(nB ((UInt8.ofNat (48+e)).toNat)),bT,bT,(.string (Aa ds)),(.string (Aa (ds.drop 1)))])):=
 sR (sc:=[(5,.op (.rwB true)),(2,.op (.sidx (UInt8.ofNat (48+e)))),(0,.op (.rwB true)),(7,.op (.sslc (Aa (ds.drop 1)))),(4,.stay)]) kr (aI (dT (p:=(((Aa ds).size:Nat):Int)>(1:Int))) (aI (show 0≤(0:Int)∧(Aa ds)[Int.toNat (0:Int)]? =some (UInt8.ofNat (48+e)) from⟨by omega,hx⟩) (aI (show ((((UInt8.ofNat (48+e)).toNat:Nat):Int)==(48:Int))=true from (by rw[Wf hq,he];rfl)) (aI (show 0≤(1:Int)∧(1:Int)≤(((Aa ds).size:Nat):Int)∧(((Aa ds).size:Nat):Int)≤(((Aa ds).size:Nat):Int)∧(Aa ds).extract (Int.toNat (1:Int)) (Int.toNat (((Aa ds).size:Nat):Int))=(Aa (ds.drop 1)) from⟨by omega,by omega,by omega,by rw[Kr,List.take_of_length_le (by have:=Af ds;omega)];rfl⟩) tt))))
theorem rx_z2(xs:List Nat)(n:Nat)(ds:List Nat)(j:List Value)(h1:1<(Aa ds).size)(hm:(Aa ds).size<1099511627776)(e:Nat)(hq:e<10)(hx:(Aa ds)[0]? =some (UInt8.ofNat (48+e)))(he:e≠0)(hr:GT (Cg 134 #[(sl 5 n 0)] 6 (Kp xs)) (rx_z xs n (Aa ds) j)):CT 134 #[(sl 5 n 0)] (Ag 6 (Kp xs)) (.string (Aa ds)) (Ag 10 (Kp xs)):=
 sF (sc:=[(5,.op (.rwB true)),(2,.op (.sidx (UInt8.ofNat (48+e)))),(0,.op (.rwB false)),(10,.stay)]) kr (aI (dT (p:=(((Aa ds).size:Nat):Int)>(1:Int))) (aI (show 0≤(0:Int)∧(Aa ds)[Int.toNat (0:Int)]? =some (UInt8.ofNat (48+e)) from⟨by omega,hx⟩) (aI (show ((((UInt8.ofNat (48+e)).toNat:Nat):Int)==(48:Int))=false from (by rw[Wf hq,beq_eq_false_iff_ne];omega)) tt))) hr
theorem rx_z3(xs:List Nat)(n:Nat)(ds:List Nat)(j:List Value)(h1:(Aa ds).size≤1)(hr:GT (Cg 134 #[(sl 5 n 0)] 6 (Kp xs)) (rx_z xs n (Aa ds) j)):CT 134 #[(sl 5 n 0)] (Ag 6 (Kp xs)) (.string (Aa ds)) (Ag 10 (Kp xs)):=
 sF (sc:=[(5,.op (.rwB false)),(14,.stay)]) kr (aI (dF (p:=(((Aa ds).size:Nat):Int)>(1:Int))) tt) hr
theorem rx_strip{xs:List Nat}{n:Nat}: ∀(k:Nat) (ds:List Nat) (j:List Value),ds.length=k→0<k→k<1099511627776→Dig ds→GT (Cg 134 #[(sl 5 n 0)] 6 [(5,(cI xs (some 1)))]) (rx_z xs n (Aa ds) j)→
  ∃hf,CT 134 #[(sl 5 n 0)] (Ag 6 [(5,(cI xs (some 1)))]) (.string (Aa (Ae (Bh ds)))) hf∧hf.get 5=some (cI xs (some 1)):=by
 intro k
 induction k with
 |zero=>intro ds j _ h0 _ _ _;omega
 |succ k ih=>
  intro ds j hl _ hm hd hr
  have hsz:=Af ds
  match ds,hl,hd,hr,hsz with
  |e::t,hl,hd,hr,hsz=>
   have he:e<10:=hd e sm
   have hlt:t.length=k:=by simpa using hl
   by_cases hk:k=0
   ·have:t=[]:=List.length_eq_zero_iff.1 om
    subst this
    have S:=rx_z3 xs n [e] j (by rw[hsz];exact Nat.le_refl _) hr
    rw[show Bh [e]=e by simp[Bh],Ch he]
    exact⟨_,S,rfl⟩
   ·have hx:(Aa (e::t))[0]? =some (UInt8.ofNat (48+e)):=Hb (ds:=e::t) sm
    have h1:1<(Aa (e::t)).size:=by rw[hsz,hl];omega
    have hm2:(Aa (e::t)).size<1099511627776:=by rw[hsz,hl];exact hm
    by_cases h0:e=0
    ·have r:=rx_z1 xs n (e::t) j h1 hm2 e he hx h0
     have:=ih t _ hlt om om (fun x hx=>hd x (by simp[hx])) (hr.trans r)
     rw[show Bh (e::t)=Bh t by rw[show e::t=[e]++t from rfl,Hh,h0];simp[Bh]]
     exact this
    ·have S:=rx_z2 xs n (e::t) j h1 hm2 e he hx h0 hr
     rw[(Xa _ (e::t) hl hd (by simpa using h0)).1]
     exact⟨_,S,rfl⟩
theorem rx_loop{xs:List Nat}{n:Nat}(hn:n≤xs.length)(hm:n<1000000000)(hlx:F.Lim xs): ∀(k i:Nat) (ds:List Nat) (j:List Value),n-i=k→i≤n→ds.length=4*i→Dig ds→Bh ds=F.val (xs.take i)→GT (Cg 134 #[(sl 5 n 0)] 6 [(5,(cI xs (some 1)))]) (rx_h xs n (Aa ds) i j)→
  ∃ds' j',ds'.length=4*n∧Dig ds'∧Bh ds'=F.val (xs.take n)∧GT (Cg 134 #[(sl 5 n 0)] 6 [(5,(cI xs (some 1)))]) (rx_h xs n (Aa ds') n j'):=by
 intro k
 induction k with
 |zero=>
  intro i ds j hk hi hl hd hv hr
  obtain rfl:i=n:=by omega
  exact⟨ds,j,hl,hd,hv,hr⟩
 |succ k ih=>
  intro i ds j hk hi hl hd hv hr
  have hx:=hlx.get i
  have r:=rx_r (s0:=(Cg 134 #[(sl 5 n 0)] 6 [(5,(cI xs (some 1)))])) rfl xs n (Aa ds) i j hn hm om (by rw[Af];omega) hx hr
  rw[Nm,Nm,Nm,Nm]at r
  generalize hg:xs.getD i 0=g at*
  have hv4:Bh [g/10/10/10%10,g/10/10%10,g/10%10,g%10]=g:=by
   simp only[Bh,List.foldl_cons,List.foldl_nil];omega
  refine ih (i+1) _ _ om om (by simp only[List.length_cons];omega) ?_ ?_ r
  ·intro x hx
   simp only[List.mem_cons]at hx
   rcases hx with h|h|h|h|h
   ·omega
   ·omega
   ·omega
   ·omega
   ·exact hd x h
  ·rw[show g/10/10/10%10::g/10/10%10::g/10%10::g%10::ds=[g/10/10/10%10,g/10/10%10,g/10%10,g%10]++ds from rfl,Hh,hv4,hl,Yk,hv,F.val_take_succ,hg,Nat.add_comm]
theorem rx_c(n0 b:Nat)(xs:List Nat)(n:Nat)(hb:5≤b∧b<n0)(hn:n≤xs.length)(hm:n<1000000000)(hlx:F.Lim xs):
  FT 134 #[sl b n 0] n0 [(b,.cells (ns .i64 xs) 3 (some 1) false)] (.string (Aa (Ae (F.val (xs.take n))))) [(b,some (cI xs (some 1)))] []:=by
 have key: ∃hf,CT 134 #[(sl 5 n 0)] (Ag 6 [(5,(cI xs (some 1)))]) (.string (Aa (Ae (F.val (xs.take n))))) hf∧hf.get 5=some (cI xs (some 1)):=by
  rcases Nat.eq_zero_or_pos n with h0|h0
  ·have S:=rx_e xs n h0
   subst h0
   rw[show Ae (F.val (xs.take 0))=[0] from Gi]
   exact⟨_,S,rfl⟩
  ·have a0:=rx_in (s0:=(Cg 134 #[(sl 5 n 0)] 6 [(5,(cI xs (some 1)))])) rfl xs n hn hm h0 (Gets.refl _)
   obtain⟨ds,j,h1,h2,h3,h4⟩:=rx_loop hn hm hlx n 0 [] _ om (Nat.zero_le _) rfl (fun x hx=>by cases hx) rfl a0
   have a1:=h4.trans (rx_x xs n (Aa ds) n j (Nat.le_refl _))
   rw[←h3]
   exact rx_strip _ ds _ h1 om om h2 a1
 obtain⟨hf,S,hg⟩:=key
 exact Dd [b] [.cells (ns .i64 xs) 3 (some 1) false] [.cells (ns .i64 xs) 3 (some 1) false] [] [] n0 S rfl (by simp[hg]) rfl sm (by simp;omega) om (by simp[Bb,Ab]) (by simp[Bb,Ab]) rfl sm sm rfl rfl rfl
noncomputable section
abbrev Qp(xs:List Nat):AObj:=.cells (ns .i64 xs) 3 (some 1) false
end
theorem rsg_n(xs:List Nat)(n:Nat)(hn:n≤xs.length)(hm:n<1000000000)(hlx:F.Lim xs):CT 88 #[bF,(sl 5 n 0)] (Ag 6 [(5,(Qp xs))]) (.string (Aa (Ae (F.val (xs.take n))))) (Ag 6 [(5,(Qp xs))]):=
 sF (sc:=[(19,.call [5] (.string (Aa (Ae (F.val (xs.take n))))) [(5,some (Qp xs))] []),(3,.stay)]) kr (aI (rx_c 6 5 xs n om hn hm hlx) tt) (Gets.refl _)
theorem rsg_m(xs:List Nat)(n:Nat)(hn:n≤xs.length)(hm:n<1000000000)(hlx:F.Lim xs)(h0:0<n)(hsz:(Ae (F.val (xs.take n))).length<1099511627776):CT 88 #[bT,(sl 5 n 0)] (Ag 6 [(5,(Qp xs))]) (.string (By (Ae (F.val (xs.take n))))) (Ag 6 [(5,(Qp xs))]):=
 sF (sc:=[(11,.op (.rwB true)),(6,.call [5] (.string (Aa (Ae (F.val (xs.take n))))) [(5,some (Qp xs))] []),(0,.op (.cat (By (Ae (F.val (xs.take n)))))),(3,.stay)]) kr (aI (dT (p:=(n:Int)>(0:Int))) (aI (rx_c 6 5 xs n om hn hm hlx) (aI (show ((((bts [45]).size+(Aa (Ae (F.val (xs.take n)))).size:Nat)):Int)≤9223372036854775807∧(bts [45])++(Aa (Ae (F.val (xs.take n))))=(By (Ae (F.val (xs.take n)))) from⟨by rw[Af];have:=hsz;rw[show (Seg.bts [45]).size=1 from rfl];omega,Tc _⟩) tt))) (Gets.refl _)
theorem rsg_z(xs:List Nat)(n:Nat)(hn:n≤xs.length)(hm:n<1000000000)(hlx:F.Lim xs)(h0:n=0):CT 88 #[bT,(sl 5 n 0)] (Ag 6 [(5,(Qp xs))]) (.string (Aa (Ae (F.val (xs.take n))))) (Ag 6 [(5,(Qp xs))]):=
 sF (sc:=[(11,.op (.rwB false)),(7,.call [5] (.string (Aa (Ae (F.val (xs.take n))))) [(5,some (Qp xs))] []),(3,.stay)]) kr (aI (dF (p:=(n:Int)>(0:Int))) (aI (rx_c 6 5 xs n om hn hm hlx) tt)) (Gets.refl _)
theorem len_dig{xs:List Nat}{n:Nat}(hlx:F.Lim xs)(hn:n≤xs.length)(hm:n<1000000000):(Ae (F.val (xs.take n))).length<1099511627776:=by
 have h1:=F.val_lt (hlx.take n)
 rw[List.length_take,Nat.min_eq_left hn,←Yk]at h1
 have:=Ej (k:=4*n+1) (Nat.le_trans (Es _ _ h1) (Nat.le_succ _)) om
 omega
theorem rsg_n_c(n0 b:Nat)(xs:List Nat)(n:Nat)(hb:5≤b∧b<n0)(hn:n≤xs.length)(hm:n<1000000000)(hlx:F.Lim xs):FT 88 #[.bool false,sl b n 0] n0 [(b,.cells (ns .i64 xs) 3 (some 1) false)] (.string (Aa (Ae (F.val (xs.take n))))) [(b,some (cI xs (some 1)))] []:=
 ff [b] [.cells (ns .i64 xs) 3 (some 1) false] [.cells (ns .i64 xs) 3 (some 1) false] [] [] n0 (rsg_n xs n hn hm hlx)
theorem rsg_m_c(n0 b:Nat)(xs:List Nat)(n:Nat)(hb:5≤b∧b<n0)(hn:n≤xs.length)(hm:n<1000000000)(hlx:F.Lim xs)(h0:0<n):FT 88 #[.bool true,sl b n 0] n0 [(b,.cells (ns .i64 xs) 3 (some 1) false)] (.string (By (Ae (F.val (xs.take n))))) [(b,some (cI xs (some 1)))] []:=
 ff [b] [.cells (ns .i64 xs) 3 (some 1) false] [.cells (ns .i64 xs) 3 (some 1) false] [] [] n0 (rsg_m xs n hn hm hlx h0 (len_dig hlx hn hm))
theorem rsg_z_c(n0 b:Nat)(xs:List Nat)(n:Nat)(hb:5≤b∧b<n0)(hn:n≤xs.length)(hm:n<1000000000)(hlx:F.Lim xs)(h0:n=0):FT 88 #[.bool true,sl b n 0] n0 [(b,.cells (ns .i64 xs) 3 (some 1) false)] (.string (Aa (Ae (F.val (xs.take n))))) [(b,some (cI xs (some 1)))] []:=
 ff [b] [.cells (ns .i64 xs) 3 (some 1) false] [.cells (ns .i64 xs) 3 (some 1) false] [] [] n0 (rsg_z xs n hn hm hlx h0)
theorem istr_size(z:Int):(Ad z).size=(Ae z.natAbs).length+(if z<0 then 1 else 0):=by
 unfold Ad
 split
 ·simp[By,ByteArray.size]
 ·rename_i h
  rw[Af,show z.toNat=z.natAbs by omega];rfl
theorem Yq(z:Int):(Ad z).size≤(Ae z.natAbs).length+1:=by rw[istr_size];split<;>omega
theorem Gq(z:Int)(n0:Nat)(hG:5≤n0):FT 43 #[.string (Ad z)] n0 [] (.string (Aa (Ae z.natAbs))) [] []:=by
 rcases Gz z with⟨k,rfl,hm⟩|⟨k,h0,rfl,hm⟩
 ·rw[Df,hm]
  exact ab_pc n0 _ hG (Bx _) (Be _)
 ·rw[Hp h0,hm]
  exact ab_mc n0 _ hG
theorem sm_0(x y:Int)(h0:(Ad x).size>10)(hx:(Ae x.natAbs).length<1099511627776)(hy:(Ae y.natAbs).length<1099511627776):CT 86 #[(.string (Ad x)),(.string (Ad y))] (Ag 5 []) (.tuple #[(lI 0),(lI 0),bF]) (Ag 5 []):=
 sF (sc:=[(11,.op (.rwB true)),(26,.stay)]) kr (aI (show decide ((((Ad x).size:Nat):Int)>(10:Int))=true from (by simp only[decide_eq_true_eq,decide_eq_false_iff_not,Af,gt_iff_lt]<;>omega)) tt) (Gets.refl _)
theorem sm_1(x y:Int)(h0:(Ad x).size≤10)(h1:(Ad y).size>10)(hx:(Ae x.natAbs).length<1099511627776)(hy:(Ae y.natAbs).length<1099511627776):CT 86 #[(.string (Ad x)),(.string (Ad y))] (Ag 5 []) (.tuple #[(lI 0),(lI 0),bF]) (Ag 5 []):=
 sF (sc:=[(11,.op (.rwB false)),(3,.op (.rwB true)),(22,.stay)]) kr (aI (show decide ((((Ad x).size:Nat):Int)>(10:Int))=false from (by simp only[decide_eq_true_eq,decide_eq_false_iff_not,Af,gt_iff_lt]<;>omega)) (aI (show decide ((((Ad y).size:Nat):Int)>(10:Int))=true from (by simp only[decide_eq_true_eq,decide_eq_false_iff_not,Af,gt_iff_lt]<;>omega)) tt)) (Gets.refl _)
theorem sm_2(x y:Int)(h0:(Ad x).size≤10)(h1:(Ad y).size≤10)(h2:(Ae x.natAbs).length>9)(hx:(Ae x.natAbs).length<1099511627776)(hy:(Ae y.natAbs).length<1099511627776):CT 86 #[(.string (Ad x)),(.string (Ad y))] (Ag 5 []) (.tuple #[(lI 0),(lI 0),bF]) (Ag 5 []):=
 sF (sc:=[(11,.op (.rwB false)),(3,.op (.rwB false)),(3,.call [] (.string (Aa (Ae x.natAbs))) [] []),(1,.op (.rwB true)),(16,.stay)]) kr (aI (show decide ((((Ad x).size:Nat):Int)>(10:Int))=false from (by simp only[decide_eq_true_eq,decide_eq_false_iff_not,Af,gt_iff_lt]<;>omega)) (aI (show decide ((((Ad y).size:Nat):Int)>(10:Int))=false from (by simp only[decide_eq_true_eq,decide_eq_false_iff_not,Af,gt_iff_lt]<;>omega)) (aI (Gq x 5 om) (aI (show decide ((((Aa (Ae x.natAbs)).size:Nat):Int)>(9:Int))=true from (by simp only[decide_eq_true_eq,decide_eq_false_iff_not,Af,gt_iff_lt]<;>omega)) tt)))) (Gets.refl _)
theorem sm_3(x y:Int)(h0:(Ad x).size≤10)(h1:(Ad y).size≤10)(h2:(Ae x.natAbs).length≤9)(h3:(Ae y.natAbs).length>9)(hx:(Ae x.natAbs).length<1099511627776)(hy:(Ae y.natAbs).length<1099511627776):CT 86 #[(.string (Ad x)),(.string (Ad y))] (Ag 5 []) (.tuple #[(lI 0),(lI 0),bF]) (Ag 5 []):=
 sF (sc:=[(11,.op (.rwB false)),(3,.op (.rwB false)),(3,.call [] (.string (Aa (Ae x.natAbs))) [] []),(1,.op (.rwB false)),(3,.call [] (.string (Aa (Ae y.natAbs))) [] []),(1,.op (.rwB true)),(10,.stay)]) kr (aI (show decide ((((Ad x).size:Nat):Int)>(10:Int))=false from (by simp only[decide_eq_true_eq,decide_eq_false_iff_not,Af,gt_iff_lt]<;>omega)) (aI (show decide ((((Ad y).size:Nat):Int)>(10:Int))=false from (by simp only[decide_eq_true_eq,decide_eq_false_iff_not,Af,gt_iff_lt]<;>omega)) (aI (Gq x 5 om) (aI (show decide ((((Aa (Ae x.natAbs)).size:Nat):Int)>(9:Int))=false from (by simp only[decide_eq_true_eq,decide_eq_false_iff_not,Af,gt_iff_lt]<;>omega)) (aI (Gq y 5 om) (aI (show decide ((((Aa (Ae y.natAbs)).size:Nat):Int)>(9:Int))=true from (by simp only[decide_eq_true_eq,decide_eq_false_iff_not,Af,gt_iff_lt]<;>omega)) tt)))))) (Gets.refl _)
theorem sm_4(x y:Int)(h0:(Ad x).size≤10)(h1:(Ad y).size≤10)(h2:(Ae x.natAbs).length≤9)(h3:(Ae y.natAbs).length≤9)(hx:(Ae x.natAbs).length<1099511627776)(hy:(Ae y.natAbs).length<1099511627776):CT 86 #[(.string (Ad x)),(.string (Ad y))] (Ag 5 []) (.tuple #[(.int .i64 x),(.int .i64 y),bT]) (Ag 5 []):=
 sF (sc:=[(11,.op (.rwB false)),(3,.op (.rwB false)),(3,.call [] (.string (Aa (Ae x.natAbs))) [] []),(1,.op (.rwB false)),(3,.call [] (.string (Aa (Ae y.natAbs))) [] []),(1,.op (.rwB false)),(7,.call [] (.tuple #[(.int .i64 x),bT]) [] []),(9,.call [] (.tuple #[(.int .i64 y),bT]) [] []),(15,.stay)]) kr (aI (show decide ((((Ad x).size:Nat):Int)>(10:Int))=false from (by simp only[decide_eq_true_eq,decide_eq_false_iff_not,Af,gt_iff_lt]<;>omega)) (aI (show decide ((((Ad y).size:Nat):Int)>(10:Int))=false from (by simp only[decide_eq_true_eq,decide_eq_false_iff_not,Af,gt_iff_lt]<;>omega)) (aI (Gq x 5 om) (aI (show decide ((((Aa (Ae x.natAbs)).size:Nat):Int)>(9:Int))=false from (by simp only[decide_eq_true_eq,decide_eq_false_iff_not,Af,gt_iff_lt]<;>omega)) (aI (Gq y 5 om) (aI (show decide ((((Aa (Ae y.natAbs)).size:Nat):Int)>(9:Int))=false from (by simp only[decide_eq_true_eq,decide_eq_false_iff_not,Af,gt_iff_lt]<;>omega)) (aI (ti_i x 5 om om) (aI (ti_i y 5 om om) tt)))))))) (Gets.refl _)
theorem sm_t(x y:Int)(n0:Nat)(hG:5≤n0)(hx:(Ae x.natAbs).length≤9)(hy:(Ae y.natAbs).length≤9):FT 86 #[.string (Ad x),.string (Ad y)] n0 [] (.tuple #[.int .i64 x,.int .i64 y,.bool true]) [] []:=
 have h1:=Yq x
 have h2:=Yq y
 Lv n0 (sm_4 x y om om hx hy om om) hG
theorem sm_f(x y:Int)(n0:Nat)(hG:5≤n0)(h: ¬((Ae x.natAbs).length≤9∧(Ae y.natAbs).length≤9))(hx:(Ae x.natAbs).length<1099511627776)(hy:(Ae y.natAbs).length<1099511627776):FT 86 #[.string (Ad x),.string (Ad y)] n0 [] (.tuple #[.int .i64 0,.int .i64 0,.bool false]) [] []:=by
 by_cases h0:(Ad x).size≤10
 ·by_cases h1:(Ad y).size≤10
  ·by_cases h2:(Ae x.natAbs).length≤9
   ·have h3:(Ae y.natAbs).length>9:=by omega
    exact Lv n0 (sm_3 x y h0 h1 h2 h3 hx hy) hG
   ·exact Lv n0 (sm_2 x y h0 h1 om hx hy) hG
  ·exact Lv n0 (sm_1 x y h0 om hx hy) hG
 ·exact Lv n0 (sm_0 x y om hx hy) hG
end Go.Proofs.YtldoiilgfcpipaaGreatDoor
