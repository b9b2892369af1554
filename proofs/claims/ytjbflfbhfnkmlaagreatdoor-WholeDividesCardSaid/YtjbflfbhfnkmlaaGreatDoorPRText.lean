import Derived.Test.YtjbflfbhfnkmlaaGreatDoorPToInt
import Derived.Test.YtjbflfbhfnkmlaaGreatDoorLF
import Derived.Test.YtjbflfbhfnkmlaaGreatDoorPWhole
set_option linter.unusedVariables false
set_option linter.unusedSimpArgs false
set_option maxRecDepth 100000
namespace Go.Proofs.YtjbflfbhfnkmlaaGreatDoor
open Go Go.AE Seg
noncomputable section
abbrev z_f73_0(xs:List Nat)(i:Nat)(st:ByteArray):Value:=.string ((Aa [((xs.getD i 0)/10/10/10%10)])++((Aa [((xs.getD i 0)/10/10%10)])++((Aa [((xs.getD i 0)/10%10)])++((Aa [((xs.getD i 0)%10)])++st))))
abbrev Kb(xs:List Nat):List (Nat×AObj):=[(5,(cI xs (some 1)))]
abbrev z_f73_2(xs:List Nat)(i:Nat)(st:ByteArray):Value:=.string ((Aa [((xs.getD i 0)/10/10%10)])++((Aa [((xs.getD i 0)/10%10)])++((Aa [((xs.getD i 0)%10)])++st)))
abbrev z_f73_3(xs:List Nat)(i:Nat):Value:=nI (((((xs.getD i 0)/10)/10)/10)/10)
abbrev z_f73_4:List Value:=[undef,undef,undef,undef,undef,undef,undef,undef,undef,undef,undef,undef,undef,undef,undef,undef,undef,undef,undef,undef,undef,undef,undef,undef,undef,undef]
abbrev z_f73_5(xs:List Nat)(i:Nat):Value:=nB (48+(((((xs.getD i 0)/10)/10)/10)%10))
abbrev z_f73_6(xs:List Nat)(i:Nat):Value:=nI ((((xs.getD i 0)/10)/10)/10)
end
theorem rx_e(xs:List Nat)(n:Nat)(h0:n=0):CT 134 #[(sl 5 n 0)] (Ac 6 (Kb xs)) (.string (bts [48])) (Ac 6 (Kb xs)):=
 sF (sc:=[(9,.op (.rwB true)),(7,.stay)]) kr (aI (eT (a:=(n:Int)) (b:=(0:Int))) tt) (Gets.refl _)
noncomputable def rx_h_f(xs:List Nat)(n:Nat)(st:ByteArray)(i:Nat)(j:List Value):Frame:=(Fr 134 ([(sl 5 n 0),uu,(.string (bts [])),(.string st),(nI i),(J j 0),(J j 1),(sl 5 n 0),(nI n),bF]++(jj j 2 24 (uj 11 []))) [.code (cd Tryz.f134 [1,1,1,0,1,0,0]),.inLoop (cd Tryz.f134 [1,1,1,0,1,0,0]),.inBlock 0,.code (cd Tryz.f134 [1,1,1,1])])
noncomputable def rx_h_o(xs:List Nat)(n:Nat)(st:ByteArray)(i:Nat):List (Nat×AObj):=(Kb xs)
noncomputable def rx_h(xs:List Nat)(n:Nat)(st:ByteArray)(i:Nat)(j:List Value):AS:=⟨rx_h_f xs n st i j,[],Ac 10 (rx_h_o xs n st i)⟩
theorem rx_in{s0:AS}(hs0:s0.h.next=6)(xs:List Nat)(n:Nat)(hn:n≤xs.length)(hm:n<1000000000)(h0:0<n)(hr:GT s0 (Ca 134 #[(sl 5 n 0)] 6 (Kb xs))):GT s0 (rx_h xs n (bts []) 0 z_f73_4):=by
 have h1:=hr.trans (sR (sc:=[(9,.op (.rwB false)),(14,.stay)]) (fr1:=(Fr 134 ([(sl 5 n 0),uu,(.string (bts [])),(.string (bts [])),(lI 0),uu,uu,(sl 5 n 0),(nI n),bF]++(uj 35 [])) [.code (cd Tryz.f134 [1,1,1,0,1,0,0]),.inLoop (cd Tryz.f134 [1,1,1,0,1,0,0]),.inBlock 0,.code (cd Tryz.f134 [1,1,1,1])])) (next:=6) (l:=(Kb xs)) kr (aI (eF (a:=(n:Int)) (b:=(0:Int))) tt))
 exact Dd (b:=6) (k:=0) h1 kr rfl rfl rfl kr (by rw[hs0];decide) (by rw[hs0];decide) de de (by simp[rx_h_o,show ∀c e o r,Bj (.cells c e o r)=As c from fun _ _ _ _=>rfl,show ∀a b,Bj (.iter a b)=true from fun _ _=>rfl,Af,Gk]) kr
theorem rx_r{s0:AS}(hs0:s0.h.next=6)(xs:List Nat)(n:Nat)(st:ByteArray)(i:Nat)(j:List Value)(hn:n≤xs.length)(hm:n<1000000000)(hi:i<n)(hs:st.size<4000000000)(hx:xs.getD i 0<10000)(hr:GT s0 (rx_h xs n st i j)):GT s0 (rx_h xs n ((Aa [((xs.getD i 0)/10/10/10%10)])++((Aa [((xs.getD i 0)/10/10%10)])++((Aa [((xs.getD i 0)/10%10)])++((Aa [((xs.getD i 0)%10)])++st)))) (i+1) [(z_f73_3 xs i),(lI 4),(nI i),(sl 5 n 0),(nI n),bT,(nI i),(nI (i+1)),(sl 5 n 0),(nI i),(pp 5 i),(nI (xs.getD i 0)),(lI 4),bF,(lI 3),(lI 4),(z_f73_6 xs i),(nI (((((xs.getD i 0)/10)/10)/10)%10)),(nI (48+(((((xs.getD i 0)/10)/10)/10)%10))),(z_f73_5 xs i),(sl 9 1 1),(.string (Aa [((xs.getD i 0)/10/10/10%10)])),(z_f73_2 xs i st),(z_f73_0 xs i st),(z_f73_6 xs i),(z_f73_3 xs i)]):=by
 have h1:=hr.trans (sR (sc:=[(6,.op (.rwB true)),(9,.op (.idx i)),(0,.op (.ld (nI (xs.getD i 0)))),(21,.op (.rwI ((((xs.getD i 0)%10):Nat):Int))),(0,.op (.rwI (((48+((xs.getD i 0)%10)):Nat):Int))),(0,.op (.rwI (((48+((xs.getD i 0)%10)):Nat):Int))),(1,.op (.b2s (Aa [((xs.getD i 0)%10)]))),(1,.op (.cat ((Aa [((xs.getD i 0)%10)])++st))),(4,.op (.rwI ((((xs.getD i 0)/10):Nat):Int))),(22,.op (.rwI (((((xs.getD i 0)/10)%10):Nat):Int))),(0,.op (.rwI (((48+(((xs.getD i 0)/10)%10)):Nat):Int))),(0,.op (.rwI (((48+(((xs.getD i 0)/10)%10)):Nat):Int))),(1,.op (.b2s (Aa [((xs.getD i 0)/10%10)]))),(1,.op (.cat ((Aa [((xs.getD i 0)/10%10)])++((Aa [((xs.getD i 0)%10)])++st)))),(4,.op (.rwI (((((xs.getD i 0)/10)/10):Nat):Int))),(22,.op (.rwI ((((((xs.getD i 0)/10)/10)%10):Nat):Int))),(0,.op (.rwI (((48+((((xs.getD i 0)/10)/10)%10)):Nat):Int))),(0,.op (.rwI (((48+((((xs.getD i 0)/10)/10)%10)):Nat):Int))),(1,.op (.b2s (Aa [((xs.getD i 0)/10/10%10)]))),(1,.op (.cat ((Aa [((xs.getD i 0)/10/10%10)])++((Aa [((xs.getD i 0)/10%10)])++((Aa [((xs.getD i 0)%10)])++st))))),(4,.op (.rwI ((((((xs.getD i 0)/10)/10)/10):Nat):Int))),(22,.op (.rwI (((((((xs.getD i 0)/10)/10)/10)%10):Nat):Int))),(0,.op (.rwI (((48+(((((xs.getD i 0)/10)/10)/10)%10)):Nat):Int))),(0,.op (.rwI (((48+(((((xs.getD i 0)/10)/10)/10)%10)):Nat):Int))),(1,.op (.b2s (Aa [((xs.getD i 0)/10/10/10%10)]))),(1,.op (.cat ((Aa [((xs.getD i 0)/10/10/10%10)])++((Aa [((xs.getD i 0)/10/10%10)])++((Aa [((xs.getD i 0)/10%10)])++((Aa [((xs.getD i 0)%10)])++st)))))),(4,.op (.rwI (((((((xs.getD i 0)/10)/10)/10)/10):Nat):Int))),(20,.op (.rwI (((i+1):Nat):Int))),(3,.stay)]) (fr1:=(Fr 134 ([(sl 5 n 0),uu,(.string (bts [])),(z_f73_0 xs i st),(nI (i+1)),(z_f73_3 xs i),(lI 4),(sl 5 n 0),(nI n),bF,(nI i),(sl 5 n 0),(nI n),bT,(nI i),(nI (i+1)),(sl 5 n 0),(nI i),(pp 5 i),(nI (xs.getD i 0)),(lI 4),bF,(lI 3),(lI 4),(z_f73_6 xs i),(nI (((((xs.getD i 0)/10)/10)/10)%10)),(nI (48+(((((xs.getD i 0)/10)/10)/10)%10))),(z_f73_5 xs i),(sl 13 1 1),(.string (Aa [((xs.getD i 0)/10/10/10%10)])),(z_f73_2 xs i st),(z_f73_0 xs i st),(z_f73_6 xs i),(z_f73_3 xs i)]++(uj 11 [])) [.code (cd Tryz.f134 [1,1,1,0,1,0,0]),.inLoop (cd Tryz.f134 [1,1,1,0,1,0,0]),.inBlock 0,.code (cd Tryz.f134 [1,1,1,1])])) (next:=14) (l:=(Kb xs)) kr (aI (dT (p:=(i:Int)<(n:Int))) (aI (ix (i:Int) (n:Int) 0 1 i) (aI (Aq (k:=.i64) (xs:=xs) (i:=i)) (aI (show (Int.tmod (((xs.getD i 0):Nat):Int) (10:Int))=((((xs.getD i 0)%10):Nat):Int) from (by rw[Int.tmod_eq_emod_of_nonneg om]<;>omega)) (aI (Am (a:=((48:Int)+((((xs.getD i 0)%10):Nat):Int))) (r:=(((48+((xs.getD i 0)%10)):Nat):Int))) (aI (wU8 (a:=(((48+((xs.getD i 0)%10)):Nat):Int)) (r:=(((48+((xs.getD i 0)%10)):Nat):Int))) (aI (show 0+1≤([(nB (48+((xs.getD i 0)%10)))]).length∧(Dk (List.take 1 (List.drop 0 [(nB (48+((xs.getD i 0)%10)))]))).map (fun ns=>(⟨(ns.map fun n=>UInt8.ofNat n.toNat).toArray⟩:ByteArray))=some (Aa [((xs.getD i 0)%10)]) from (Gg om)) (aI (show ((((Aa [((xs.getD i 0)%10)]).size+st.size:Nat)):Int)≤9223372036854775807∧(Aa [((xs.getD i 0)%10)])++st=((Aa [((xs.getD i 0)%10)])++st) from⟨by simp only[ByteArray.size_append,Ad,List.length_cons,List.length_nil];omega,rfl⟩) (aI (show IntKind.wrap .i64 (Int.tdiv (((xs.getD i 0):Nat):Int) (10:Int))=((((xs.getD i 0)/10):Nat):Int) from (by rw[Int.tdiv_eq_ediv_of_nonneg om,Cc om om]<;>omega)) (aI (show (Int.tmod ((((xs.getD i 0)/10):Nat):Int) (10:Int))=(((((xs.getD i 0)/10)%10):Nat):Int) from (by rw[Int.tmod_eq_emod_of_nonneg om]<;>omega)) (aI (Am (a:=((48:Int)+(((((xs.getD i 0)/10)%10):Nat):Int))) (r:=(((48+(((xs.getD i 0)/10)%10)):Nat):Int))) (aI (wU8 (a:=(((48+(((xs.getD i 0)/10)%10)):Nat):Int)) (r:=(((48+(((xs.getD i 0)/10)%10)):Nat):Int))) (aI (show 0+1≤([(nB (48+(((xs.getD i 0)/10)%10)))]).length∧(Dk (List.take 1 (List.drop 0 [(nB (48+(((xs.getD i 0)/10)%10)))]))).map (fun ns=>(⟨(ns.map fun n=>UInt8.ofNat n.toNat).toArray⟩:ByteArray))=some (Aa [((xs.getD i 0)/10%10)]) from (Gg om)) (aI (show ((((Aa [((xs.getD i 0)/10%10)]).size+((Aa [((xs.getD i 0)%10)])++st).size:Nat)):Int)≤9223372036854775807∧(Aa [((xs.getD i 0)/10%10)])++((Aa [((xs.getD i 0)%10)])++st)=((Aa [((xs.getD i 0)/10%10)])++((Aa [((xs.getD i 0)%10)])++st)) from⟨by simp only[ByteArray.size_append,Ad,List.length_cons,List.length_nil];omega,rfl⟩) (aI (show IntKind.wrap .i64 (Int.tdiv ((((xs.getD i 0)/10):Nat):Int) (10:Int))=(((((xs.getD i 0)/10)/10):Nat):Int) from (by rw[Int.tdiv_eq_ediv_of_nonneg om,Cc om om]<;>omega)) (aI (show (Int.tmod (((((xs.getD i 0)/10)/10):Nat):Int) (10:Int))=((((((xs.getD i 0)/10)/10)%10):Nat):Int) from (by rw[Int.tmod_eq_emod_of_nonneg om]<;>omega)) (aI (Am (a:=((48:Int)+((((((xs.getD i 0)/10)/10)%10):Nat):Int))) (r:=(((48+((((xs.getD i 0)/10)/10)%10)):Nat):Int))) (aI (wU8 (a:=(((48+((((xs.getD i 0)/10)/10)%10)):Nat):Int)) (r:=(((48+((((xs.getD i 0)/10)/10)%10)):Nat):Int))) (aI (show 0+1≤([(nB (48+((((xs.getD i 0)/10)/10)%10)))]).length∧(Dk (List.take 1 (List.drop 0 [(nB (48+((((xs.getD i 0)/10)/10)%10)))]))).map (fun ns=>(⟨(ns.map fun n=>UInt8.ofNat n.toNat).toArray⟩:ByteArray))=some (Aa [((xs.getD i 0)/10/10%10)]) from (Gg om)) (aI (show ((((Aa [((xs.getD i 0)/10/10%10)]).size+((Aa [((xs.getD i 0)/10%10)])++((Aa [((xs.getD i 0)%10)])++st)).size:Nat)):Int)≤9223372036854775807∧(Aa [((xs.getD i 0)/10/10%10)])++((Aa [((xs.getD i 0)/10%10)])++((Aa [((xs.getD i 0)%10)])++st))=((Aa [((xs.getD i 0)/10/10%10)])++((Aa [((xs.getD i 0)/10%10)])++((Aa [((xs.getD i 0)%10)])++st))) from⟨by simp only[ByteArray.size_append,Ad,List.length_cons,List.length_nil];omega,rfl⟩) (aI (show IntKind.wrap .i64 (Int.tdiv (((((xs.getD i 0)/10)/10):Nat):Int) (10:Int))=((((((xs.getD i 0)/10)/10)/10):Nat):Int) from (by rw[Int.tdiv_eq_ediv_of_nonneg om,Cc om om]<;>omega)) (aI (show (Int.tmod ((((((xs.getD i 0)/10)/10)/10):Nat):Int) (10:Int))=(((((((xs.getD i 0)/10)/10)/10)%10):Nat):Int) from (by rw[Int.tmod_eq_emod_of_nonneg om]<;>omega)) (aI (Am (a:=((48:Int)+(((((((xs.getD i 0)/10)/10)/10)%10):Nat):Int))) (r:=(((48+(((((xs.getD i 0)/10)/10)/10)%10)):Nat):Int))) (aI (wU8 (a:=(((48+(((((xs.getD i 0)/10)/10)/10)%10)):Nat):Int)) (r:=(((48+(((((xs.getD i 0)/10)/10)/10)%10)):Nat):Int))) (aI (show 0+1≤([(z_f73_5 xs i)]).length∧(Dk (List.take 1 (List.drop 0 [(z_f73_5 xs i)]))).map (fun ns=>(⟨(ns.map fun n=>UInt8.ofNat n.toNat).toArray⟩:ByteArray))=some (Aa [((xs.getD i 0)/10/10/10%10)]) from (Gg om)) (aI (show ((((Aa [((xs.getD i 0)/10/10/10%10)]).size+((Aa [((xs.getD i 0)/10/10%10)])++((Aa [((xs.getD i 0)/10%10)])++((Aa [((xs.getD i 0)%10)])++st))).size:Nat)):Int)≤9223372036854775807∧(Aa [((xs.getD i 0)/10/10/10%10)])++((Aa [((xs.getD i 0)/10/10%10)])++((Aa [((xs.getD i 0)/10%10)])++((Aa [((xs.getD i 0)%10)])++st)))=((Aa [((xs.getD i 0)/10/10/10%10)])++((Aa [((xs.getD i 0)/10/10%10)])++((Aa [((xs.getD i 0)/10%10)])++((Aa [((xs.getD i 0)%10)])++st)))) from⟨by simp only[ByteArray.size_append,Ad,List.length_cons,List.length_nil];omega,rfl⟩) (aI (show IntKind.wrap .i64 (Int.tdiv ((((((xs.getD i 0)/10)/10)/10):Nat):Int) (10:Int))=(((((((xs.getD i 0)/10)/10)/10)/10):Nat):Int) from (by rw[Int.tdiv_eq_ediv_of_nonneg om,Cc om om]<;>omega)) (aI (Am (a:=((i:Int)+(1:Int))) (r:=(((i+1):Nat):Int))) tt)))))))))))))))))))))))))))))
 exact Dd (b:=6) (k:=4) h1 kr rfl rfl rfl kr (by rw[hs0];decide) (by rw[hs0];decide) de de (by simp[rx_h_o,show ∀c e o r,Bj (.cells c e o r)=As c from fun _ _ _ _=>rfl,show ∀a b,Bj (.iter a b)=true from fun _ _=>rfl,Af,Gk]) kr
noncomputable def rx_z_f(xs:List Nat)(n:Nat)(st:ByteArray)(j:List Value):Frame:=(Fr 134 ([(sl 5 n 0),uu,(J j 0),(.string st)]++(jj j 1 5 ([bF]++(jj j 6 3 ([bF]++(jj j 9 30 [uu])))))) [.code (cd Tryz.f134 [1,1,1,1,0,0,0]),.inLoop (cd Tryz.f134 [1,1,1,1,0,0,0]),.inBlock 4,.code (cd Tryz.f134 [1,1,1,1,1])])
noncomputable def rx_z_o(xs:List Nat)(n:Nat)(st:ByteArray):List (Nat×AObj):=(Kb xs)
noncomputable def rx_z(xs:List Nat)(n:Nat)(st:ByteArray)(j:List Value):AS:=⟨rx_z_f xs n st j,[],Ac 10 (rx_z_o xs n st)⟩
theorem rx_x(xs:List Nat)(n:Nat)(st:ByteArray)(i:Nat)(j:List Value)(hi:n≤i):GT (rx_h xs n st i j) (rx_z xs n st ([(.string (bts [])),(nI i),(J j 0),(J j 1),(sl 5 n 0),(nI n),(nI i),(sl 5 n 0),(nI n)]++(jj j 6 20 [undef,undef,undef,undef,undef,undef,undef,undef,undef,undef]))):=
 sR (sc:=[(6,.op (.rwB false)),(6,.stay)]) kr (aI (dF (p:=(i:Int)<(n:Int))) tt)
theorem We{e:Nat}(h:e<10):(UInt8.ofNat (48+e)).toNat=48+e:=by
 rw[UInt8.toNat_ofNat'];omega
theorem Mo(a:Nat)(ds:List Nat):Aa [a]++Aa ds=Aa (a::ds):=by
 apply ByteArray.ext
 simp[ByteArray.data_append,Aa]
theorem rx_z1(xs:List Nat)(n:Nat)(ds:List Nat)(j:List Value)(h1:1<(Aa ds).size)(hm:(Aa ds).size<1099511627776)(e:Nat)(hq:e<10)(hx:(Aa ds)[0]? =some (UInt8.ofNat (48+e)))(he:e=0):GT (rx_z xs n (Aa ds) j) (rx_z xs n (Aa (ds.drop 1)) (jj j 0 29 [(.string (Aa ds)),(nI ((Aa ds).size)),bT,bT,(.string (Aa ds)),(nB ((UInt8.ofNat (48+e)).toNat)),bT,bT,(.string (Aa ds)),(.string (Aa (ds.drop 1)))])):=
 sR (sc:=[(5,.op (.rwB true)),(2,.op (.sidx (UInt8.ofNat (48+e)))),(0,.op (.rwB true)),(7,.op (.sslc (Aa (ds.drop 1)))),(4,.stay)]) kr (aI (dT (p:=(((Aa ds).size:Nat):Int)>(1:Int))) (aI (show 0≤(0:Int)∧(Aa ds)[Int.toNat (0:Int)]? =some (UInt8.ofNat (48+e)) from⟨by omega,hx⟩) (aI (show ((((UInt8.ofNat (48+e)).toNat:Nat):Int)==(48:Int))=true from (by rw[We hq,he];rfl)) (aI (show 0≤(1:Int)∧(1:Int)≤(((Aa ds).size:Nat):Int)∧(((Aa ds).size:Nat):Int)≤(((Aa ds).size:Nat):Int)∧(Aa ds).extract (Int.toNat (1:Int)) (Int.toNat (((Aa ds).size:Nat):Int))=(Aa (ds.drop 1)) from⟨by omega,by omega,by omega,by rw[Hz,List.take_of_length_le (by have:=Ad ds;omega)];rfl⟩) tt))))
theorem rx_z2(xs:List Nat)(n:Nat)(ds:List Nat)(j:List Value)(h1:1<(Aa ds).size)(hm:(Aa ds).size<1099511627776)(e:Nat)(hq:e<10)(hx:(Aa ds)[0]? =some (UInt8.ofNat (48+e)))(he:e≠0)(hr:GT (Ca 134 #[(sl 5 n 0)] 6 (Kb xs)) (rx_z xs n (Aa ds) j)):CT 134 #[(sl 5 n 0)] (Ac 6 (Kb xs)) (.string (Aa ds)) (Ac 10 (Kb xs)):=
 sF (sc:=[(5,.op (.rwB true)),(2,.op (.sidx (UInt8.ofNat (48+e)))),(0,.op (.rwB false)),(10,.stay)]) kr (aI (dT (p:=(((Aa ds).size:Nat):Int)>(1:Int))) (aI (show 0≤(0:Int)∧(Aa ds)[Int.toNat (0:Int)]? =some (UInt8.ofNat (48+e)) from⟨by omega,hx⟩) (aI (show ((((UInt8.ofNat (48+e)).toNat:Nat):Int)==(48:Int))=false from (by rw[We hq,beq_eq_false_iff_ne];omega)) tt))) hr
theorem rx_z3(xs:List Nat)(n:Nat)(ds:List Nat)(j:List Value)(h1:(Aa ds).size≤1)(hr:GT (Ca 134 #[(sl 5 n 0)] 6 (Kb xs)) (rx_z xs n (Aa ds) j)):CT 134 #[(sl 5 n 0)] (Ac 6 (Kb xs)) (.string (Aa ds)) (Ac 10 (Kb xs)):=
 sF (sc:=[(5,.op (.rwB false)),(14,.stay)]) kr (aI (dF (p:=(((Aa ds).size:Nat):Int)>(1:Int))) tt) hr
theorem rx_strip{xs:List Nat}{n:Nat}: ∀(k:Nat) (ds:List Nat) (j:List Value),ds.length=k→0<k→k<1099511627776→Dig ds→GT (Ca 134 #[(sl 5 n 0)] 6 [(5,(cI xs (some 1)))]) (rx_z xs n (Aa ds) j)→
  ∃hf,CT 134 #[(sl 5 n 0)] (Ac 6 [(5,(cI xs (some 1)))]) (.string (Aa (Ae (Az ds)))) hf∧hf.get 5=some (cI xs (some 1)):=by
 intro k
 induction k with
 |zero=>intro ds j _ h0 _ _ _;omega
 |succ k ih=>
  intro ds j hl _ hm hd hr
  have hsz:=Ad ds
  match ds,hl,hd,hr,hsz with
  |e::t,hl,hd,hr,hsz=>
   have he:e<10:=hd e sm
   have hlt:t.length=k:=by simpa using hl
   by_cases hk:k=0
   ·have:t=[]:=List.length_eq_zero_iff.1 om
    subst this
    have S:=rx_z3 xs n [e] j (by rw[hsz];exact Nat.le_refl _) hr
    rw[show Az [e]=e by simp[Az],Cf he]
    exact⟨_,S,rfl⟩
   ·have hx:(Aa (e::t))[0]? =some (UInt8.ofNat (48+e)):=Gi (ds:=e::t) sm
    have h1:1<(Aa (e::t)).size:=by rw[hsz,hl];omega
    have hm2:(Aa (e::t)).size<1099511627776:=by rw[hsz,hl];exact hm
    by_cases h0:e=0
    ·have r:=rx_z1 xs n (e::t) j h1 hm2 e he hx h0
     have:=ih t _ hlt om om (fun x hx=>hd x (by simp[hx])) (hr.trans r)
     rw[show Az (e::t)=Az t by rw[show e::t=[e]++t from rfl,Gr,h0];simp[Az]]
     exact this
    ·have S:=rx_z2 xs n (e::t) j h1 hm2 e he hx h0 hr
     rw[(Nw _ (e::t) hl hd (by simpa using h0)).1]
     exact⟨_,S,rfl⟩
theorem rx_loop{xs:List Nat}{n:Nat}(hn:n≤xs.length)(hm:n<1000000000)(hlx:F.Lim xs): ∀(k i:Nat) (ds:List Nat) (j:List Value),n-i=k→i≤n→ds.length=4*i→Dig ds→Az ds=F.val (xs.take i)→GT (Ca 134 #[(sl 5 n 0)] 6 [(5,(cI xs (some 1)))]) (rx_h xs n (Aa ds) i j)→
  ∃ds' j',ds'.length=4*n∧Dig ds'∧Az ds'=F.val (xs.take n)∧GT (Ca 134 #[(sl 5 n 0)] 6 [(5,(cI xs (some 1)))]) (rx_h xs n (Aa ds') n j'):=by
 intro k
 induction k with
 |zero=>
  intro i ds j hk hi hl hd hv hr
  obtain rfl:i=n:=by omega
  exact⟨ds,j,hl,hd,hv,hr⟩
 |succ k ih=>
  intro i ds j hk hi hl hd hv hr
  have hx:=hlx.get i
  have r:=rx_r (s0:=(Ca 134 #[(sl 5 n 0)] 6 [(5,(cI xs (some 1)))])) rfl xs n (Aa ds) i j hn hm om (by rw[Ad];omega) hx hr
  rw[Mo,Mo,Mo,Mo]at r
  generalize hg:xs.getD i 0=g at*
  have hv4:Az [g/10/10/10%10,g/10/10%10,g/10%10,g%10]=g:=by
   simp only[Az,List.foldl_cons,List.foldl_nil];omega
  refine ih (i+1) _ _ om om (by simp only[List.length_cons];omega) ?_ ?_ r
  ·intro x hx
   simp only[List.mem_cons]at hx
   rcases hx with h|h|h|h|h
   ·omega
   ·omega
   ·omega
   ·omega
   ·exact hd x h
  ·rw[show g/10/10/10%10::g/10/10%10::g/10%10::g%10::ds=[g/10/10/10%10,g/10/10%10,g/10%10,g%10]++ds from rfl,Gr,hv4,hl,Yk,hv,F.val_take_succ,hg,Nat.add_comm]
theorem rx_c(n0 b:Nat)(xs:List Nat)(n:Nat)(hb:5≤b∧b<n0)(hn:n≤xs.length)(hm:n<1000000000)(hlx:F.Lim xs):
  FT 134 #[sl b n 0] n0 [(b,.cells (ns .i64 xs) 3 (some 1) false)] (.string (Aa (Ae (F.val (xs.take n))))) [(b,some (cI xs (some 1)))] []:=by
 have key: ∃hf,CT 134 #[(sl 5 n 0)] (Ac 6 [(5,(cI xs (some 1)))]) (.string (Aa (Ae (F.val (xs.take n))))) hf∧hf.get 5=some (cI xs (some 1)):=by
  rcases Nat.eq_zero_or_pos n with h0|h0
  ·have S:=rx_e xs n h0
   subst h0
   rw[show Ae (F.val (xs.take 0))=[0] from Ea]
   exact⟨_,S,rfl⟩
  ·have a0:=rx_in (s0:=(Ca 134 #[(sl 5 n 0)] 6 [(5,(cI xs (some 1)))])) rfl xs n hn hm h0 (Gets.refl _)
   obtain⟨ds,j,h1,h2,h3,h4⟩:=rx_loop hn hm hlx n 0 [] _ om (Nat.zero_le _) rfl (fun x hx=>by cases hx) rfl a0
   have a1:=h4.trans (rx_x xs n (Aa ds) n j (Nat.le_refl _))
   rw[←h3]
   exact rx_strip _ ds _ h1 om om h2 a1
 obtain⟨hf,S,hg⟩:=key
 exact Yf [b] [.cells (ns .i64 xs) 3 (some 1) false] [.cells (ns .i64 xs) 3 (some 1) false] [] [] n0 S rfl (by simp[hg]) rfl sm (by simp;omega) om (by simp[Bj,Af]) (by simp[Bj,Af]) rfl sm sm rfl rfl rfl
noncomputable section
abbrev Nh(xs:List Nat):AObj:=.cells (ns .i64 xs) 3 (some 1) false
end
theorem rsg_n(xs:List Nat)(n:Nat)(hn:n≤xs.length)(hm:n<1000000000)(hlx:F.Lim xs):CT 88 #[bF,(sl 5 n 0)] (Ac 6 [(5,(Nh xs))]) (.string (Aa (Ae (F.val (xs.take n))))) (Ac 6 [(5,(Nh xs))]):=
 sF (sc:=[(19,.call [5] (.string (Aa (Ae (F.val (xs.take n))))) [(5,some (Nh xs))] []),(3,.stay)]) kr (aI (rx_c 6 5 xs n om hn hm hlx) tt) (Gets.refl _)
theorem rsg_m(xs:List Nat)(n:Nat)(hn:n≤xs.length)(hm:n<1000000000)(hlx:F.Lim xs)(h0:0<n)(hsz:(Ae (F.val (xs.take n))).length<1099511627776):CT 88 #[bT,(sl 5 n 0)] (Ac 6 [(5,(Nh xs))]) (.string (Bg (Ae (F.val (xs.take n))))) (Ac 6 [(5,(Nh xs))]):=
 sF (sc:=[(11,.op (.rwB true)),(6,.call [5] (.string (Aa (Ae (F.val (xs.take n))))) [(5,some (Nh xs))] []),(0,.op (.cat (Bg (Ae (F.val (xs.take n)))))),(3,.stay)]) kr (aI (dT (p:=(n:Int)>(0:Int))) (aI (rx_c 6 5 xs n om hn hm hlx) (aI (show ((((bts [45]).size+(Aa (Ae (F.val (xs.take n)))).size:Nat)):Int)≤9223372036854775807∧(bts [45])++(Aa (Ae (F.val (xs.take n))))=(Bg (Ae (F.val (xs.take n)))) from⟨by rw[Ad];have:=hsz;rw[show (Seg.bts [45]).size=1 from rfl];omega,Sc _⟩) tt))) (Gets.refl _)
theorem rsg_z(xs:List Nat)(n:Nat)(hn:n≤xs.length)(hm:n<1000000000)(hlx:F.Lim xs)(h0:n=0):CT 88 #[bT,(sl 5 n 0)] (Ac 6 [(5,(Nh xs))]) (.string (Aa (Ae (F.val (xs.take n))))) (Ac 6 [(5,(Nh xs))]):=
 sF (sc:=[(11,.op (.rwB false)),(7,.call [5] (.string (Aa (Ae (F.val (xs.take n))))) [(5,some (Nh xs))] []),(3,.stay)]) kr (aI (dF (p:=(n:Int)>(0:Int))) (aI (rx_c 6 5 xs n om hn hm hlx) tt)) (Gets.refl _)
theorem len_dig{xs:List Nat}{n:Nat}(hlx:F.Lim xs)(hn:n≤xs.length)(hm:n<1000000000):(Ae (F.val (xs.take n))).length<1099511627776:=by
 have h1:=F.val_lt (hlx.take n)
 rw[List.length_take,Nat.min_eq_left hn,←Yk]at h1
 have:=Ew (k:=4*n+1) (Nat.le_trans (Tx _ _ h1) (Nat.le_succ _)) om
 omega
theorem rsg_n_c(n0 b:Nat)(xs:List Nat)(n:Nat)(hb:5≤b∧b<n0)(hn:n≤xs.length)(hm:n<1000000000)(hlx:F.Lim xs):FT 88 #[.bool false,sl b n 0] n0 [(b,.cells (ns .i64 xs) 3 (some 1) false)] (.string (Aa (Ae (F.val (xs.take n))))) [(b,some (cI xs (some 1)))] []:=
 ff [b] [.cells (ns .i64 xs) 3 (some 1) false] [.cells (ns .i64 xs) 3 (some 1) false] [] [] n0 (rsg_n xs n hn hm hlx)
theorem rsg_m_c(n0 b:Nat)(xs:List Nat)(n:Nat)(hb:5≤b∧b<n0)(hn:n≤xs.length)(hm:n<1000000000)(hlx:F.Lim xs)(h0:0<n):FT 88 #[.bool true,sl b n 0] n0 [(b,.cells (ns .i64 xs) 3 (some 1) false)] (.string (Bg (Ae (F.val (xs.take n))))) [(b,some (cI xs (some 1)))] []:=
 ff [b] [.cells (ns .i64 xs) 3 (some 1) false] [.cells (ns .i64 xs) 3 (some 1) false] [] [] n0 (rsg_m xs n hn hm hlx h0 (len_dig hlx hn hm))
theorem rsg_z_c(n0 b:Nat)(xs:List Nat)(n:Nat)(hb:5≤b∧b<n0)(hn:n≤xs.length)(hm:n<1000000000)(hlx:F.Lim xs)(h0:n=0):FT 88 #[.bool true,sl b n 0] n0 [(b,.cells (ns .i64 xs) 3 (some 1) false)] (.string (Aa (Ae (F.val (xs.take n))))) [(b,some (cI xs (some 1)))] []:=
 ff [b] [.cells (ns .i64 xs) 3 (some 1) false] [.cells (ns .i64 xs) 3 (some 1) false] [] [] n0 (rsg_z xs n hn hm hlx h0)
theorem istr_size(z:Int):(Ab z).size=(Ae z.natAbs).length+(if z<0 then 1 else 0):=by
 unfold Ab
 split
 ·simp[Bg,ByteArray.size]
 ·rename_i h
  rw[Ad,show z.toNat=z.natAbs by omega];rfl
theorem Xx(z:Int):(Ab z).size≤(Ae z.natAbs).length+1:=by rw[istr_size];split<;>omega
theorem Hd(z:Int)(n0:Nat)(hG:5≤n0):FT 43 #[.string (Ab z)] n0 [] (.string (Aa (Ae z.natAbs))) [] []:=by
 rcases Dh z with⟨k,rfl,hm⟩|⟨k,h0,rfl,hm⟩
 ·rw[Cj,hm]
  exact ab_pc n0 _ hG (Bs _) (Ax _)
 ·rw[Dm h0,hm]
  exact ab_mc n0 _ hG
theorem sm_0(x y:Int)(h0:(Ab x).size>10)(hx:(Ae x.natAbs).length<1099511627776)(hy:(Ae y.natAbs).length<1099511627776):CT 86 #[(.string (Ab x)),(.string (Ab y))] (Ac 5 []) (.tuple #[(lI 0),(lI 0),bF]) (Ac 5 []):=
 sF (sc:=[(11,.op (.rwB true)),(26,.stay)]) kr (aI (show decide ((((Ab x).size:Nat):Int)>(10:Int))=true from (by simp only[decide_eq_true_eq,decide_eq_false_iff_not,Ad,gt_iff_lt]<;>omega)) tt) (Gets.refl _)
theorem sm_1(x y:Int)(h0:(Ab x).size≤10)(h1:(Ab y).size>10)(hx:(Ae x.natAbs).length<1099511627776)(hy:(Ae y.natAbs).length<1099511627776):CT 86 #[(.string (Ab x)),(.string (Ab y))] (Ac 5 []) (.tuple #[(lI 0),(lI 0),bF]) (Ac 5 []):=
 sF (sc:=[(11,.op (.rwB false)),(3,.op (.rwB true)),(22,.stay)]) kr (aI (show decide ((((Ab x).size:Nat):Int)>(10:Int))=false from (by simp only[decide_eq_true_eq,decide_eq_false_iff_not,Ad,gt_iff_lt]<;>omega)) (aI (show decide ((((Ab y).size:Nat):Int)>(10:Int))=true from (by simp only[decide_eq_true_eq,decide_eq_false_iff_not,Ad,gt_iff_lt]<;>omega)) tt)) (Gets.refl _)
theorem sm_2(x y:Int)(h0:(Ab x).size≤10)(h1:(Ab y).size≤10)(h2:(Ae x.natAbs).length>9)(hx:(Ae x.natAbs).length<1099511627776)(hy:(Ae y.natAbs).length<1099511627776):CT 86 #[(.string (Ab x)),(.string (Ab y))] (Ac 5 []) (.tuple #[(lI 0),(lI 0),bF]) (Ac 5 []):=
 sF (sc:=[(11,.op (.rwB false)),(3,.op (.rwB false)),(3,.call [] (.string (Aa (Ae x.natAbs))) [] []),(1,.op (.rwB true)),(16,.stay)]) kr (aI (show decide ((((Ab x).size:Nat):Int)>(10:Int))=false from (by simp only[decide_eq_true_eq,decide_eq_false_iff_not,Ad,gt_iff_lt]<;>omega)) (aI (show decide ((((Ab y).size:Nat):Int)>(10:Int))=false from (by simp only[decide_eq_true_eq,decide_eq_false_iff_not,Ad,gt_iff_lt]<;>omega)) (aI (Hd x 5 om) (aI (show decide ((((Aa (Ae x.natAbs)).size:Nat):Int)>(9:Int))=true from (by simp only[decide_eq_true_eq,decide_eq_false_iff_not,Ad,gt_iff_lt]<;>omega)) tt)))) (Gets.refl _)
theorem sm_3(x y:Int)(h0:(Ab x).size≤10)(h1:(Ab y).size≤10)(h2:(Ae x.natAbs).length≤9)(h3:(Ae y.natAbs).length>9)(hx:(Ae x.natAbs).length<1099511627776)(hy:(Ae y.natAbs).length<1099511627776):CT 86 #[(.string (Ab x)),(.string (Ab y))] (Ac 5 []) (.tuple #[(lI 0),(lI 0),bF]) (Ac 5 []):=
 sF (sc:=[(11,.op (.rwB false)),(3,.op (.rwB false)),(3,.call [] (.string (Aa (Ae x.natAbs))) [] []),(1,.op (.rwB false)),(3,.call [] (.string (Aa (Ae y.natAbs))) [] []),(1,.op (.rwB true)),(10,.stay)]) kr (aI (show decide ((((Ab x).size:Nat):Int)>(10:Int))=false from (by simp only[decide_eq_true_eq,decide_eq_false_iff_not,Ad,gt_iff_lt]<;>omega)) (aI (show decide ((((Ab y).size:Nat):Int)>(10:Int))=false from (by simp only[decide_eq_true_eq,decide_eq_false_iff_not,Ad,gt_iff_lt]<;>omega)) (aI (Hd x 5 om) (aI (show decide ((((Aa (Ae x.natAbs)).size:Nat):Int)>(9:Int))=false from (by simp only[decide_eq_true_eq,decide_eq_false_iff_not,Ad,gt_iff_lt]<;>omega)) (aI (Hd y 5 om) (aI (show decide ((((Aa (Ae y.natAbs)).size:Nat):Int)>(9:Int))=true from (by simp only[decide_eq_true_eq,decide_eq_false_iff_not,Ad,gt_iff_lt]<;>omega)) tt)))))) (Gets.refl _)
theorem sm_4(x y:Int)(h0:(Ab x).size≤10)(h1:(Ab y).size≤10)(h2:(Ae x.natAbs).length≤9)(h3:(Ae y.natAbs).length≤9)(hx:(Ae x.natAbs).length<1099511627776)(hy:(Ae y.natAbs).length<1099511627776):CT 86 #[(.string (Ab x)),(.string (Ab y))] (Ac 5 []) (.tuple #[(.int .i64 x),(.int .i64 y),bT]) (Ac 5 []):=
 sF (sc:=[(11,.op (.rwB false)),(3,.op (.rwB false)),(3,.call [] (.string (Aa (Ae x.natAbs))) [] []),(1,.op (.rwB false)),(3,.call [] (.string (Aa (Ae y.natAbs))) [] []),(1,.op (.rwB false)),(7,.call [] (.tuple #[(.int .i64 x),bT]) [] []),(9,.call [] (.tuple #[(.int .i64 y),bT]) [] []),(15,.stay)]) kr (aI (show decide ((((Ab x).size:Nat):Int)>(10:Int))=false from (by simp only[decide_eq_true_eq,decide_eq_false_iff_not,Ad,gt_iff_lt]<;>omega)) (aI (show decide ((((Ab y).size:Nat):Int)>(10:Int))=false from (by simp only[decide_eq_true_eq,decide_eq_false_iff_not,Ad,gt_iff_lt]<;>omega)) (aI (Hd x 5 om) (aI (show decide ((((Aa (Ae x.natAbs)).size:Nat):Int)>(9:Int))=false from (by simp only[decide_eq_true_eq,decide_eq_false_iff_not,Ad,gt_iff_lt]<;>omega)) (aI (Hd y 5 om) (aI (show decide ((((Aa (Ae y.natAbs)).size:Nat):Int)>(9:Int))=false from (by simp only[decide_eq_true_eq,decide_eq_false_iff_not,Ad,gt_iff_lt]<;>omega)) (aI (ti_i x 5 om om) (aI (ti_i y 5 om om) tt)))))))) (Gets.refl _)
theorem sm_t(x y:Int)(n0:Nat)(hG:5≤n0)(hx:(Ae x.natAbs).length≤9)(hy:(Ae y.natAbs).length≤9):FT 86 #[.string (Ab x),.string (Ab y)] n0 [] (.tuple #[.int .i64 x,.int .i64 y,.bool true]) [] []:=
 have h1:=Xx x
 have h2:=Xx y
 Dy n0 (sm_4 x y om om hx hy om om) hG
theorem sm_f(x y:Int)(n0:Nat)(hG:5≤n0)(h: ¬((Ae x.natAbs).length≤9∧(Ae y.natAbs).length≤9))(hx:(Ae x.natAbs).length<1099511627776)(hy:(Ae y.natAbs).length<1099511627776):FT 86 #[.string (Ab x),.string (Ab y)] n0 [] (.tuple #[.int .i64 0,.int .i64 0,.bool false]) [] []:=by
 by_cases h0:(Ab x).size≤10
 ·by_cases h1:(Ab y).size≤10
  ·by_cases h2:(Ae x.natAbs).length≤9
   ·have h3:(Ae y.natAbs).length>9:=by omega
    exact Dy n0 (sm_3 x y h0 h1 h2 h3 hx hy) hG
   ·exact Dy n0 (sm_2 x y h0 h1 om hx hy) hG
  ·exact Dy n0 (sm_1 x y h0 om hx hy) hG
 ·exact Dy n0 (sm_0 x y om hx hy) hG
theorem fo_i(z:Int)(n0:Nat)(hG:5≤n0)(hz:(Ae z.natAbs).length<1099511627776):FT 104 #[.string (Ab z)] n0 [] bT [] []:=by
 rcases Dh z with⟨k,rfl,hm⟩|⟨k,h0,rfl,hm⟩
 ·rw[Cj]
  rw[hm]at hz
  exact fo_pc n0 _ hG (Bs _) (Ax _) hz (fun h=>Et k (by
   rcases Nat.eq_zero_or_pos k with q|q
   ·rw[q,Ea]at h
    exact absurd h de
   ·exact q))
 ·rw[Dm h0]
  rw[hm]at hz
  exact fo_mc n0 _ hG (Bs _) (Ax _) hz (fun _=>Et k h0) (Et k h0)
theorem ck_o(z:Int)(hz:(Ae z.natAbs).length≤400):CT 74 #[(.string (Ab z))] (Ac 5 []) (lI 0) (Ac 5 []):=
 sF (sc:=[(8,.call [] bT [] []),(8,.call [] (.string (Aa (Ae z.natAbs))) [] []),(1,.op (.rwB false)),(8,.stay)]) kr (aI (fo_i z 5 om om) (aI (Hd z 5 om) (aI (show decide ((((Aa (Ae z.natAbs)).size:Nat):Int)>(400:Int))=false from (by simp only[decide_eq_true_eq,decide_eq_false_iff_not,Ad,gt_iff_lt]<;>omega)) tt))) (Gets.refl _)
theorem ck_i(z:Int)(n0:Nat)(hG:5≤n0)(hz:(Ae z.natAbs).length≤400):FT 74 #[.string (Ab z)] n0 [] (lI 0) [] []:=
 Dy n0 (ck_o z hz) hG
noncomputable def rtm_h_f(o1 o2:Option Nat)(e1 e2:Nat)(xs ys zs:List Nat)(n k i:Nat)(j:List Value):Frame:=(Fr 92 ([(sl 5 n e1),(sl 6 k e2),uu,uu,nS,(sl 7 (n+k) (n+k)),(nI i)]++(jj j 0 3 ([(sl 5 n e1),(nI n),(sl 6 k e2),(nI k),(nI (n+k)),(sl 7 (n+k) (n+k))]++(jj j 3 54 [uu,uu])))) [.code (cd Tryz.f92 [1,1,0,1,0,0]),.inLoop (cd Tryz.f92 [1,1,0,1,0,0]),.inBlock 0,.code (cd Tryz.f92 [1,1,1])])
noncomputable def rtm_h_o(o1 o2:Option Nat)(e1 e2:Nat)(xs ys zs:List Nat)(n k i:Nat):List (Nat×AObj):=[(5,(cI xs o1)),(6,(cI ys o2)),(7,(cI zs none))]
noncomputable def rtm_h(o1 o2:Option Nat)(e1 e2:Nat)(xs ys zs:List Nat)(n k i:Nat)(j:List Value):AS:=⟨rtm_h_f o1 o2 e1 e2 xs ys zs n k i j,[],Ac 8 (rtm_h_o o1 o2 e1 e2 xs ys zs n k i)⟩
theorem rtm_in(o1 o2:Option Nat)(e1 e2:Nat)(xs ys:List Nat)(n k:Nat)(hn:n<70368744177)(hkm:k<70368744177):GT (Ca 92 #[(sl 5 n e1),(sl 6 k e2)] 7 [(5,(cI xs o1)),(6,(cI ys o2))]) (rtm_h o1 o2 e1 e2 xs ys (List.replicate (n+k) 0) n k 0 [undef,undef,undef,undef,undef,undef,undef,undef,undef,undef,undef,undef,undef,undef,undef,undef,undef,undef,undef,undef,undef,undef,undef,undef,undef,undef,undef,undef,undef,undef,undef,undef,undef,undef,undef,undef,undef,undef,undef,undef,undef,undef,undef,undef,undef,undef,undef,undef,undef,undef,undef,undef,undef,undef,undef,undef,undef]):=
 sR (sc:=[(10,.op (.rwI (((n+k):Nat):Int))),(0,.op (.mks (n+k) (n+k) (ns .i64 (List.replicate (n+k) 0)))),(9,.stay)]) kr (aI (Am (a:=((n:Int)+(k:Int))) (r:=(((n+k):Nat):Int))) (aI (show (0≤(((n+k):Nat):Int)∧(((n+k):Nat):Int)≤(((n+k):Nat):Int)∧((8:Nat):Int)*(((n+k):Nat):Int)≤281474976710656∧(((n+k):Nat):Int)≤9223372036854775807)∧As (ns .i64 (List.replicate (n+k) 0))=true∧(madeCells (Value.cells (lI 0)) (Int.toNat (((n+k):Nat):Int)*1)).toList=(ns .i64 (List.replicate (n+k) 0))∧Int.toNat (((n+k):Nat):Int)=(n+k)∧Int.toNat (((n+k):Nat):Int)=(n+k) from (by refine⟨⟨?_,?_,?_,?_⟩,Af _ _,Tt _ _ _,?_,?_⟩<;>omega)) tt))
noncomputable def rtm_g_f(o1 o2:Option Nat)(e1 e2:Nat)(xs ys zs:List Nat)(n k i q j0:Nat)(j:List Value):Frame:=(Fr 92 ([(sl 5 n e1),(sl 6 k e2),uu,uu,nS,(sl 7 (n+k) (n+k)),(nI i),(nI q),(nI j0),(J j 0),(sl 5 n e1),(nI n),(sl 6 k e2),(nI k),(nI (n+k)),(sl 7 (n+k) (n+k))]++(jj j 1 3 ([bT]++(jj j 4 50 [uu,uu])))) [.code (cd Tryz.f92 [1,1,0,1,0,0,1,0,0,1,0,1,0,0]),.inLoop (cd Tryz.f92 [1,1,0,1,0,0,1,0,0,1,0,1,0,0]),.inBlock 2,.code (cd Tryz.f92 [1,1,0,1,0,0,1,0,0,1,1]),.inBlock 1,.code (cd Tryz.f92 [1,1,0,1,0,0,1,1]),.inLoop (cd Tryz.f92 [1,1,0,1,0,0]),.inBlock 0,.code (cd Tryz.f92 [1,1,1])])
noncomputable def rtm_g_o(o1 o2:Option Nat)(e1 e2:Nat)(xs ys zs:List Nat)(n k i q j0:Nat):List (Nat×AObj):=[(5,(cI xs o1)),(6,(cI ys o2)),(7,(cI zs none))]
noncomputable def rtm_g(o1 o2:Option Nat)(e1 e2:Nat)(xs ys zs:List Nat)(n k i q j0:Nat)(j:List Value):AS:=⟨rtm_g_f o1 o2 e1 e2 xs ys zs n k i q j0 j,[],Ac 8 (rtm_g_o o1 o2 e1 e2 xs ys zs n k i q j0)⟩
theorem rtm_1(o1 o2:Option Nat)(e1 e2:Nat)(xs ys zs:List Nat)(n k i:Nat)(j:List Value)(hi:i<n)(hn:n<70368744177)(hkm:k<70368744177):GT (rtm_h o1 o2 e1 e2 xs ys zs n k i j) (rtm_g o1 o2 e1 e2 xs ys zs n k i 0 0 ([(J j 2),(nI i),(sl 5 n e1),(nI n)]++(jj j 7 50 []))):=
 sR (sc:=[(6,.op (.rwB true)),(16,.stay)]) kr (aI (dT (p:=(i:Int)<(n:Int))) tt)
theorem rtm_2(o1 o2:Option Nat)(e1 e2:Nat)(xs ys zs:List Nat)(n k i q j0 a b r p w:Nat)(j:List Value)(hi:i<n)(hj:j0<k)(hn:n<70368744177)(hkm:k<70368744177)(hnx:n≤xs.length)(hky:k≤ys.length)(hzl:zs.length=n+k)(ha:a<10000)(hb:b<10000)(hr:r<10000)(hq:q<10000)(hp:p=a*b)(hp2:p≤99980001)(hw:w=p+r+q)(hx:(ns .i64 xs)[i]? =some (nI a))(hy:(ns .i64 ys)[j0]? =some (nI b))(hz:(ns .i64 zs)[i+j0]? =some (nI r)):GT (rtm_g o1 o2 e1 e2 xs ys zs n k i q j0 j) (rtm_g o1 o2 e1 e2 xs ys (zs.set (i+j0) (w%10000)) n k i (w/10000) (j0+1) ([(nI w)]++(jj j 1 5 ([(nI j0),(sl 6 k e2),(nI k),bT,(nI j0),(nI (j0+1)),(sl 7 (n+k) (n+k)),(nI i),(nI j0),(nI (i+j0)),(pp 7 (i+j0)),(nI r),(sl 5 n e1),(nI i),(pp 5 i),(nI a),(sl 6 k e2),(nI j0),(pp 6 j0),(nI b),(nI p),(nI (r+p)),(nI q),(nI w),(sl 7 (n+k) (n+k)),(nI i),(nI j0),(nI (i+j0)),(nI w),(nI (w%10000)),(nI w),(nI (w/10000)),(pp 7 (i+j0))]++(jj j 39 15 []))))):=
 sR (sc:=[(6,.op (.rwB true)),(6,.drw [(3,.rwI (((i+j0):Nat):Int)),(4,.idx (i+j0)),(5,.ld (nI r)),(8,.idx i),(9,.ld (nI a)),(12,.idx j0),(13,.ld (nI b)),(14,.rwI (p:Int)),(15,.rwI (((r+p):Nat):Int)),(17,.rwI (w:Int))]),(4,.op (.rwI (((i+j0):Nat):Int))),(1,.op (.rwI (((w%10000):Nat):Int))),(1,.op (.rwI (((w/10000):Nat):Int))),(0,.op (.idx (i+j0))),(0,.op (.st (ns .i64 (zs.set (i+j0) (w%10000))))),(5,.op (.rwI (((j0+1):Nat):Int))),(3,.stay)]) kr (aI (dT (p:=(j0:Int)<(k:Int))) (aI (aI tt (aI tt (aI tt (aI (Am (a:=((i:Int)+(j0:Int))) (r:=(((i+j0):Nat):Int))) (aI (ix (((i+j0):Nat):Int) (((n+k):Nat):Int) 0 1 (i+j0)) (aI hz (aI tt (aI tt (aI (ix (i:Int) (n:Int) 0 1 i) (aI hx (aI tt (aI tt (aI (ix (j0:Int) (k:Int) 0 1 j0) (aI hy (aI (show IntKind.wrap .i64 ((a:Int)*(b:Int))=(p:Int) from (by subst hp;rw[Cc om om]<;>omega)) (aI (Am (a:=((r:Int)+(p:Int))) (r:=(((r+p):Nat):Int))) (aI tt (aI (Am (a:=((((r+p):Nat):Int)+(q:Int))) (r:=(w:Int))) (aI tt tt))))))))))))))))))) (aI (Am (a:=((i:Int)+(j0:Int))) (r:=(((i+j0):Nat):Int))) (aI (show (Int.tmod (w:Int) (10000:Int))=(((w%10000):Nat):Int) from (by rw[Int.tmod_eq_emod_of_nonneg om]<;>omega)) (aI (show IntKind.wrap .i64 (Int.tdiv (w:Int) (10000:Int))=(((w/10000):Nat):Int) from (by rw[Int.tdiv_eq_ediv_of_nonneg om,Cc om om]<;>omega)) (aI (ix (((i+j0):Nat):Int) (((n+k):Nat):Int) 0 1 (i+j0)) (aI (show (i+j0)+1≤(ns .i64 zs).length∧Bq (ns .i64 zs) (i+j0) [(nI (w%10000))]=(ns .i64 (zs.set (i+j0) (w%10000))) from (Dw)) (aI (Am (a:=((j0:Int)+(1:Int))) (r:=(((j0+1):Nat):Int))) tt))))))))
theorem rtm_3(o1 o2:Option Nat)(e1 e2:Nat)(xs ys zs:List Nat)(n k i q j0 z:Nat)(j:List Value)(hi:i<n)(hj:k≤j0)(hn:n<70368744177)(hkm:k<70368744177)(hzl:zs.length=n+k)(hq:q<10000)(hz:(ns .i64 zs)[i+k]? =some (nI z))(hz0:z=0):GT (rtm_g o1 o2 e1 e2 xs ys zs n k i q j0 j) (rtm_h o1 o2 e1 e2 xs ys (zs.set (i+k) q) n k (i+1) ([(nI q),(nI j0)]++(jj j 0 4 ([bT,(nI i),(nI (i+1)),(nI j0),(sl 6 k e2),(nI k),bF]++(jj j 10 29 [(sl 7 (n+k) (n+k)),(nI i),(sl 6 k e2),(nI k),(nI (i+k)),(sl 7 (n+k) (n+k)),(nI i),(sl 6 k e2),(nI k),(nI (i+k)),(pp 7 (i+k)),(nI z),(nI q),(nI q),(pp 7 (i+k))]))))):=
 sR (sc:=[(6,.op (.rwB false)),(8,.op (.rwI (((i+k):Nat):Int))),(4,.op (.rwI (((i+k):Nat):Int))),(0,.op (.idx (i+k))),(0,.op (.ld (nI z))),(1,.op (.rwI (q:Int))),(0,.op (.idx (i+k))),(0,.op (.st (ns .i64 (zs.set (i+k) q)))),(4,.op (.rwI (((i+1):Nat):Int))),(3,.stay)]) kr (aI (dF (p:=(j0:Int)<(k:Int))) (aI (Am (a:=((i:Int)+(k:Int))) (r:=(((i+k):Nat):Int))) (aI (Am (a:=((i:Int)+(k:Int))) (r:=(((i+k):Nat):Int))) (aI (ix (((i+k):Nat):Int) (((n+k):Nat):Int) 0 1 (i+k)) (aI hz (aI (Am (a:=((z:Int)+(q:Int))) (r:=(q:Int))) (aI (ix (((i+k):Nat):Int) (((n+k):Nat):Int) 0 1 (i+k)) (aI (show (i+k)+1≤(ns .i64 zs).length∧Bq (ns .i64 zs) (i+k) [(nI q)]=(ns .i64 (zs.set (i+k) q)) from (Dw)) (aI (Am (a:=((i:Int)+(1:Int))) (r:=(((i+1):Nat):Int))) tt)))))))))
theorem rtm_o(o1 o2:Option Nat)(e1 e2:Nat)(xs ys zs:List Nat)(n k i:Nat)(j:List Value)(hi:n≤i)(hn:n<70368744177)(hkm:k<70368744177)(hzl:zs.length=n+k)(hr:GT (Ca 92 #[(sl 5 n e1),(sl 6 k e2)] 7 [(5,(cI xs o1)),(6,(cI ys o2))]) (rtm_h o1 o2 e1 e2 xs ys zs n k i j)):CT 92 #[(sl 5 n e1),(sl 6 k e2)] (Ac 7 [(5,(cI xs o1)),(6,(cI ys o2))]) (sl 7 (F.top zs (n+k)) (n+k)) (Ac 8 [(5,(cI xs o1)),(6,(cI ys o2)),(7,(cI zs none))]):=
 sF (sc:=[(6,.op (.rwB false)),(6,.call [7] (sl 7 (F.top zs (n+k)) (n+k)) [(7,some (cI zs none))] []),(3,.stay)]) kr (aI (dF (p:=(i:Int)<(n:Int))) (aI (rs_c 8 7 zs (n+k) (n+k) om om om om) tt)) hr
theorem rtm_row{s0:AS}{o1 o2:Option Nat}{e1 e2:Nat}{xs ys:List Nat}{n k i a T:Nat}(hlx:F.Lim xs)(hly:F.Lim ys)(hnx:n≤xs.length)(hky:k≤ys.length)(hn:n<70368744177)(hkm:k<70368744177)(hi:i<n)(ha:a=xs.getD i 0):
  ∀(m:Nat) (zs:List Nat) (q j0:Nat) (j:List Value),m=k-j0→j0≤k→zs.length=n+k→F.Lim zs→q<10000→(∀l,i+k≤l→zs.getD l 0=0)→
   F.val zs+q*10000^(i+j0)+a*(10000^(i+j0)*F.val ((ys.take k).drop j0))=T→GT s0 (rtm_g o1 o2 e1 e2 xs ys zs n k i q j0 j)→
   ∃zs' j',zs'.length=n+k∧F.Lim zs'∧(∀l,i+1+k≤l→zs'.getD l 0=0)∧F.val zs'=T∧GT s0 (rtm_h o1 o2 e1 e2 xs ys zs' n k (i+1) j'):=by
 intro m
 induction m with
 |zero=>
  intro zs q j0 j hm hj hz hl hq h0 hv hr
  have hjk:j0=k:=by omega
  subst hjk
  have r:=rtm_3 o1 o2 e1 e2 xs ys zs n j0 i q j0 (zs.getD (i+j0) 0) j hi (Nat.le_refl _) hn hkm hz hq (Aq) (h0 _ (Nat.le_refl _))
  refine⟨_,_,?_,hl.set hq,?_,?_,hr.trans r⟩
  ·rw[List.length_set];exact hz
  ·intro l hl'
   rw[F.getD_set om,if_neg om]
   exact h0 l om
  ·have h1:=F.val_set zs (i+j0) q om
   rw[h0 _ (Nat.le_refl _),Nat.zero_mul,Nat.add_zero]at h1
   rw[h1]
   rw[List.drop_eq_nil_of_le (by rw[List.length_take];omega)]at hv
   exact F.nil_mul hv
 |succ m ih=>
  intro zs q j0 j hm hj hz hl hq h0 hv hr
  have hjk:j0<k:=by omega
  have ha':=hlx.get i
  rw[←ha]at ha'
  have hb:=hly.get j0
  have hr0:=hl.get (i+j0)
  have hp2:=F.mul_fit ha' hb
  have r:=rtm_2 o1 o2 e1 e2 xs ys zs n k i q j0 a (ys.getD j0 0) (zs.getD (i+j0) 0) _ _ j hi hjk hn hkm hnx hky hz ha' hb hr0 hq rfl hp2 rfl (by rw[ha];exact Aq om) (Aq) (Aq)
  refine ih _ _ _ _ om om (by rw[List.length_set];exact hz) (hl.set (Nat.mod_lt _ de)) ?_ ?_ ?_ (hr.trans r)
  ·generalize a*ys.getD j0 0=p at*
   omega
  ·intro l hl'
   rw[F.getD_set om,if_neg om]
   exact h0 l hl'
  ·have h2:F.val ((ys.take k).drop j0)=ys.getD j0 0+10000*F.val ((ys.take k).drop (j0+1)):=by
    rw[F.val_drop (by rw[List.length_take];omega),F.getD_take hjk]
   rw[h2]at hv
   have h1:=F.val_set zs (i+j0) ((a*ys.getD j0 0+zs.getD (i+j0) 0+q)%10000) om
   rw[show i+(j0+1)=i+j0+1 from rfl,Nat.pow_succ]
   exact F.row_step h1 hv
theorem rtm_all{s0:AS}{o1 o2:Option Nat}{e1 e2:Nat}{xs ys:List Nat}{n k:Nat}(hlx:F.Lim xs)(hly:F.Lim ys)(hnx:n≤xs.length)(hky:k≤ys.length)(hn:n<70368744177)(hkm:k<70368744177):
  ∀(m i:Nat) (zs:List Nat) (j:List Value),m=n-i→i≤n→zs.length=n+k→F.Lim zs→(∀l,i+k≤l→zs.getD l 0=0)→F.val zs=F.val (xs.take i)*F.val (ys.take k)→GT s0 (rtm_h o1 o2 e1 e2 xs ys zs n k i j)→
   ∃zs' j',zs'.length=n+k∧F.Lim zs'∧F.val zs'=F.val (xs.take n)*F.val (ys.take k)∧GT s0 (rtm_h o1 o2 e1 e2 xs ys zs' n k n j'):=by
 intro m
 induction m with
 |zero=>
  intro i zs j hm hi hz hl h0 hv hr
  have:i=n:=by omega
  subst this
  exact⟨zs,j,hz,hl,hv,hr⟩
 |succ m ih=>
  intro i zs j hm hi hz hl h0 hv hr
  have r:=rtm_1 o1 o2 e1 e2 xs ys zs n k i j om hn hkm
  obtain⟨zs',j',h1,h2,h3,h4,h5⟩:=rtm_row hlx hly hnx hky hn hkm om rfl _ zs 0 0 _ rfl (Nat.zero_le _) hz hl de h0 rfl (hr.trans r)
  refine ih (i+1) zs' j' om om h1 h2 h3 ?_ h5
  rw[h4,hv,F.val_take_succ,List.drop_zero,Nat.add_zero]
  exact row_sum
theorem F_inj: ∀{l m:List Nat},F.Lim l→F.Lim m→l.length=m.length→F.val l=F.val m→l=m
 |[],[],_,_,_,_=>rfl
 |[],_::_,_,_,h,_=>by simp at h
 |_::_,[],_,_,h,_=>by simp at h
 |x::l,y::m,hl,hm,h,hv=>by
  rw[show F.val (x::l)=x+10000*F.val l from rfl,show F.val (y::m)=y+10000*F.val m from rfl]at hv
  have h1:=hl x sm
  have h2:=hm y sm
  have h3:=F_inj (l:=l) (m:=m) (fun z hz=>hl z (by simp[hz])) (fun z hz=>hm z (by simp[hz])) (by simpa using h) om
  rw[h3,show x=y by rw[h3]at hv;omega]
theorem rtg_c(o1 o2:Option Nat)(e1 e2:Nat)(n0 bx byy:Nat)(xs ys:List Nat)(n k:Nat)(hb:5≤bx∧bx<n0∧5≤byy∧byy<n0∧bx≠byy)(hlx:F.Lim xs)(hly:F.Lim ys)(hnx:n≤xs.length)(hky:k≤ys.length)(hn:n<70368744177)(hkm:k<70368744177):
  ∃zs,F.Lim zs∧zs.length=n+k∧F.val (zs.take (F.top zs (n+k)))=F.val (xs.take n)*F.val (ys.take k)∧
   FT 92 #[sl bx n e1,sl byy k e2] n0 [(bx,.cells (ns .i64 xs) 3 o1 false),(byy,.cells (ns .i64 ys) 3 o2 false)] (sl n0 (F.top zs (n+k)) (n+k)) [(bx,some (cI xs o1)),(byy,some (cI ys o2))] [.cells (ns .i64 zs) 3 none false]:=by
 obtain⟨zs,j',h1,h2,h3,h4⟩:=rtm_all hlx hly hnx hky hn hkm n 0 (List.replicate (n+k) 0) _ rfl (Nat.zero_le _) (by rw[List.length_replicate]) (F.Lim.replicate _) (fun l _=>Va _ _) (by rw[F.val_replicate];simp[F.val]) (rtm_in o1 o2 e1 e2 xs ys n k hn hkm)
 have S:=rtm_o o1 o2 e1 e2 xs ys zs n k n j' (Nat.le_refl _) hn hkm h1 h4
 refine⟨zs,h2,h1,?_,ff [bx,byy] [.cells (ns .i64 xs) 3 o1 false,.cells (ns .i64 ys) 3 o2 false] [.cells (ns .i64 xs) 3 o1 false,.cells (ns .i64 ys) 3 o2 false] [7] [.cells (ns .i64 zs) 3 none false] n0 S (hnd:=by simp[hb.2.2.2.2])⟩
 rw[F.top_val,List.take_of_length_le (by rw[h1];exact Nat.le_refl _),h3]
theorem rtgz_c(o1 o2:Option Nat)(e1 e2:Nat)(n0 bx byy:Nat)(xs ys zs:List Nat)(n k:Nat)(hb:5≤bx∧bx<n0∧5≤byy∧byy<n0∧bx≠byy)(hlz:F.Lim zs)(hzl:zs.length=n+k)(hv:F.val (zs.take (F.top zs (n+k)))=F.val (xs.take n)*F.val (ys.take k))(hlx:F.Lim xs)(hly:F.Lim ys)(hnx:n≤xs.length)(hky:k≤ys.length)(hn:n<70368744177)(hkm:k<70368744177):
   FT 92 #[sl bx n e1,sl byy k e2] n0 [(bx,.cells (ns .i64 xs) 3 o1 false),(byy,.cells (ns .i64 ys) 3 o2 false)] (sl n0 (F.top zs (n+k)) (n+k)) [(bx,some (cI xs o1)),(byy,some (cI ys o2))] [.cells (ns .i64 zs) 3 none false]:=by
 obtain⟨zs',h1,h2,h3,h4⟩:=rtg_c o1 o2 e1 e2 n0 bx byy xs ys n k hb hlx hly hnx hky hn hkm
 have:zs=zs':=by
  refine F_inj hlz h1 (by rw[hzl,h2]) ?_
  rw[F.top_val,List.take_of_length_le om]at hv h3
  rw[hv,h3]
 rw[this]
 exact h4
end Go.Proofs.YtjbflfbhfnkmlaaGreatDoor
