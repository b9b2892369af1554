import Derived.Test.YtjbflfbhfnkmlaaGreatDoorPRText
set_option linter.unusedVariables false
set_option linter.unusedSimpArgs false
set_option maxRecDepth 100000
namespace Go.Proofs.YtjbflfbhfnkmlaaGreatDoor
open Go Go.AE Seg
noncomputable section
abbrev z_814_0(xs:List Nat)(i:Nat)(st:ByteArray):Value:=.string ((Aa [((xs.getD i 0)/10/10/10%10)])++((Aa [((xs.getD i 0)/10/10%10)])++((Aa [((xs.getD i 0)/10%10)])++((Aa [((xs.getD i 0)%10)])++st))))
abbrev Hx(xs:List Nat):List (Nat×AObj):=[(5,(cI xs none))]
abbrev z_814_2(xs:List Nat)(i:Nat)(st:ByteArray):Value:=.string ((Aa [((xs.getD i 0)/10/10%10)])++((Aa [((xs.getD i 0)/10%10)])++((Aa [((xs.getD i 0)%10)])++st)))
abbrev z_814_3(xs:List Nat)(i:Nat):Value:=nI (((((xs.getD i 0)/10)/10)/10)/10)
abbrev z_814_4:List Value:=[undef,undef,undef,undef,undef,undef,undef,undef,undef,undef,undef,undef,undef,undef,undef,undef,undef,undef,undef,undef,undef,undef,undef,undef,undef,undef]
abbrev z_814_5(xs:List Nat)(i:Nat):Value:=nB (48+(((((xs.getD i 0)/10)/10)/10)%10))
abbrev z_814_6(xs:List Nat)(i:Nat):Value:=nI ((((xs.getD i 0)/10)/10)/10)
end
theorem ry_e(xs:List Nat)(n c:Nat)(h0:n=0):CT 134 #[(sl 5 n c)] (Ac 6 (Hx xs)) (.string (bts [48])) (Ac 6 (Hx xs)):=
 sF (sc:=[(9,.op (.rwB true)),(7,.stay)]) kr (aI (eT (a:=(n:Int)) (b:=(0:Int))) tt) (Gets.refl _)
noncomputable def ry_h_f(xs:List Nat)(n c:Nat)(st:ByteArray)(i:Nat)(j:List Value):Frame:=(Fr 134 ([(sl 5 n c),uu,(.string (bts [])),(.string st),(nI i),(J j 0),(J j 1),(sl 5 n c),(nI n),bF]++(jj j 2 24 (uj 11 []))) [.code (cd Tryz.f134 [1,1,1,0,1,0,0]),.inLoop (cd Tryz.f134 [1,1,1,0,1,0,0]),.inBlock 0,.code (cd Tryz.f134 [1,1,1,1])])
noncomputable def ry_h_o(xs:List Nat)(n c:Nat)(st:ByteArray)(i:Nat):List (Nat×AObj):=(Hx xs)
noncomputable def ry_h(xs:List Nat)(n c:Nat)(st:ByteArray)(i:Nat)(j:List Value):AS:=⟨ry_h_f xs n c st i j,[],Ac 10 (ry_h_o xs n c st i)⟩
theorem ry_in{s0:AS}(hs0:s0.h.next=6)(xs:List Nat)(n c:Nat)(hn:n≤xs.length)(hm:n<1000000000)(h0:0<n)(hr:GT s0 (Ca 134 #[(sl 5 n c)] 6 (Hx xs))):GT s0 (ry_h xs n c (bts []) 0 z_814_4):=by
 have h1:=hr.trans (sR (sc:=[(9,.op (.rwB false)),(14,.stay)]) (fr1:=(Fr 134 ([(sl 5 n c),uu,(.string (bts [])),(.string (bts [])),(lI 0),uu,uu,(sl 5 n c),(nI n),bF]++(uj 35 [])) [.code (cd Tryz.f134 [1,1,1,0,1,0,0]),.inLoop (cd Tryz.f134 [1,1,1,0,1,0,0]),.inBlock 0,.code (cd Tryz.f134 [1,1,1,1])])) (next:=6) (l:=(Hx xs)) kr (aI (eF (a:=(n:Int)) (b:=(0:Int))) tt))
 exact Dd (b:=6) (k:=0) h1 kr rfl rfl rfl kr (by rw[hs0];decide) (by rw[hs0];decide) de de (by simp[ry_h_o,show ∀c e o r,Bj (.cells c e o r)=As c from fun _ _ _ _=>rfl,show ∀a b,Bj (.iter a b)=true from fun _ _=>rfl,Af,Gk]) kr
theorem ry_r{s0:AS}(hs0:s0.h.next=6)(xs:List Nat)(n c:Nat)(st:ByteArray)(i:Nat)(j:List Value)(hn:n≤xs.length)(hm:n<1000000000)(hi:i<n)(hs:st.size<4000000000)(hx:xs.getD i 0<10000)(hr:GT s0 (ry_h xs n c st i j)):GT s0 (ry_h xs n c ((Aa [((xs.getD i 0)/10/10/10%10)])++((Aa [((xs.getD i 0)/10/10%10)])++((Aa [((xs.getD i 0)/10%10)])++((Aa [((xs.getD i 0)%10)])++st)))) (i+1) [(z_814_3 xs i),(lI 4),(nI i),(sl 5 n c),(nI n),bT,(nI i),(nI (i+1)),(sl 5 n c),(nI i),(pp 5 i),(nI (xs.getD i 0)),(lI 4),bF,(lI 3),(lI 4),(z_814_6 xs i),(nI (((((xs.getD i 0)/10)/10)/10)%10)),(nI (48+(((((xs.getD i 0)/10)/10)/10)%10))),(z_814_5 xs i),(sl 9 1 1),(.string (Aa [((xs.getD i 0)/10/10/10%10)])),(z_814_2 xs i st),(z_814_0 xs i st),(z_814_6 xs i),(z_814_3 xs i)]):=by
 have h1:=hr.trans (sR (sc:=[(6,.op (.rwB true)),(9,.op (.idx i)),(0,.op (.ld (nI (xs.getD i 0)))),(21,.op (.rwI ((((xs.getD i 0)%10):Nat):Int))),(0,.op (.rwI (((48+((xs.getD i 0)%10)):Nat):Int))),(0,.op (.rwI (((48+((xs.getD i 0)%10)):Nat):Int))),(1,.op (.b2s (Aa [((xs.getD i 0)%10)]))),(1,.op (.cat ((Aa [((xs.getD i 0)%10)])++st))),(4,.op (.rwI ((((xs.getD i 0)/10):Nat):Int))),(22,.op (.rwI (((((xs.getD i 0)/10)%10):Nat):Int))),(0,.op (.rwI (((48+(((xs.getD i 0)/10)%10)):Nat):Int))),(0,.op (.rwI (((48+(((xs.getD i 0)/10)%10)):Nat):Int))),(1,.op (.b2s (Aa [((xs.getD i 0)/10%10)]))),(1,.op (.cat ((Aa [((xs.getD i 0)/10%10)])++((Aa [((xs.getD i 0)%10)])++st)))),(4,.op (.rwI (((((xs.getD i 0)/10)/10):Nat):Int))),(22,.op (.rwI ((((((xs.getD i 0)/10)/10)%10):Nat):Int))),(0,.op (.rwI (((48+((((xs.getD i 0)/10)/10)%10)):Nat):Int))),(0,.op (.rwI (((48+((((xs.getD i 0)/10)/10)%10)):Nat):Int))),(1,.op (.b2s (Aa [((xs.getD i 0)/10/10%10)]))),(1,.op (.cat ((Aa [((xs.getD i 0)/10/10%10)])++((Aa [((xs.getD i 0)/10%10)])++((Aa [((xs.getD i 0)%10)])++st))))),(4,.op (.rwI ((((((xs.getD i 0)/10)/10)/10):Nat):Int))),(22,.op (.rwI (((((((xs.getD i 0)/10)/10)/10)%10):Nat):Int))),(0,.op (.rwI (((48+(((((xs.getD i 0)/10)/10)/10)%10)):Nat):Int))),(0,.op (.rwI (((48+(((((xs.getD i 0)/10)/10)/10)%10)):Nat):Int))),(1,.op (.b2s (Aa [((xs.getD i 0)/10/10/10%10)]))),(1,.op (.cat ((Aa [((xs.getD i 0)/10/10/10%10)])++((Aa [((xs.getD i 0)/10/10%10)])++((Aa [((xs.getD i 0)/10%10)])++((Aa [((xs.getD i 0)%10)])++st)))))),(4,.op (.rwI (((((((xs.getD i 0)/10)/10)/10)/10):Nat):Int))),(20,.op (.rwI (((i+1):Nat):Int))),(3,.stay)]) (fr1:=(Fr 134 ([(sl 5 n c),uu,(.string (bts [])),(z_814_0 xs i st),(nI (i+1)),(z_814_3 xs i),(lI 4),(sl 5 n c),(nI n),bF,(nI i),(sl 5 n c),(nI n),bT,(nI i),(nI (i+1)),(sl 5 n c),(nI i),(pp 5 i),(nI (xs.getD i 0)),(lI 4),bF,(lI 3),(lI 4),(z_814_6 xs i),(nI (((((xs.getD i 0)/10)/10)/10)%10)),(nI (48+(((((xs.getD i 0)/10)/10)/10)%10))),(z_814_5 xs i),(sl 13 1 1),(.string (Aa [((xs.getD i 0)/10/10/10%10)])),(z_814_2 xs i st),(z_814_0 xs i st),(z_814_6 xs i),(z_814_3 xs i)]++(uj 11 [])) [.code (cd Tryz.f134 [1,1,1,0,1,0,0]),.inLoop (cd Tryz.f134 [1,1,1,0,1,0,0]),.inBlock 0,.code (cd Tryz.f134 [1,1,1,1])])) (next:=14) (l:=(Hx xs)) kr (aI (dT (p:=(i:Int)<(n:Int))) (aI (ix (i:Int) (n:Int) 0 1 i) (aI (Aq (k:=.i64) (xs:=xs) (i:=i)) (aI (show (Int.tmod (((xs.getD i 0):Nat):Int) (10:Int))=((((xs.getD i 0)%10):Nat):Int) from (by rw[Int.tmod_eq_emod_of_nonneg om]<;>omega)) (aI (Am (a:=((48:Int)+((((xs.getD i 0)%10):Nat):Int))) (r:=(((48+((xs.getD i 0)%10)):Nat):Int))) (aI (wU8 (a:=(((48+((xs.getD i 0)%10)):Nat):Int)) (r:=(((48+((xs.getD i 0)%10)):Nat):Int))) (aI (show 0+1≤([(nB (48+((xs.getD i 0)%10)))]).length∧(Dk (List.take 1 (List.drop 0 [(nB (48+((xs.getD i 0)%10)))]))).map (fun ns=>(⟨(ns.map fun n=>UInt8.ofNat n.toNat).toArray⟩:ByteArray))=some (Aa [((xs.getD i 0)%10)]) from (Gg om)) (aI (show ((((Aa [((xs.getD i 0)%10)]).size+st.size:Nat)):Int)≤9223372036854775807∧(Aa [((xs.getD i 0)%10)])++st=((Aa [((xs.getD i 0)%10)])++st) from⟨by simp only[ByteArray.size_append,Ad,List.length_cons,List.length_nil];omega,rfl⟩) (aI (show IntKind.wrap .i64 (Int.tdiv (((xs.getD i 0):Nat):Int) (10:Int))=((((xs.getD i 0)/10):Nat):Int) from (by rw[Int.tdiv_eq_ediv_of_nonneg om,Cc om om]<;>omega)) (aI (show (Int.tmod ((((xs.getD i 0)/10):Nat):Int) (10:Int))=(((((xs.getD i 0)/10)%10):Nat):Int) from (by rw[Int.tmod_eq_emod_of_nonneg om]<;>omega)) (aI (Am (a:=((48:Int)+(((((xs.getD i 0)/10)%10):Nat):Int))) (r:=(((48+(((xs.getD i 0)/10)%10)):Nat):Int))) (aI (wU8 (a:=(((48+(((xs.getD i 0)/10)%10)):Nat):Int)) (r:=(((48+(((xs.getD i 0)/10)%10)):Nat):Int))) (aI (show 0+1≤([(nB (48+(((xs.getD i 0)/10)%10)))]).length∧(Dk (List.take 1 (List.drop 0 [(nB (48+(((xs.getD i 0)/10)%10)))]))).map (fun ns=>(⟨(ns.map fun n=>UInt8.ofNat n.toNat).toArray⟩:ByteArray))=some (Aa [((xs.getD i 0)/10%10)]) from (Gg om)) (aI (show ((((Aa [((xs.getD i 0)/10%10)]).size+((Aa [((xs.getD i 0)%10)])++st).size:Nat)):Int)≤9223372036854775807∧(Aa [((xs.getD i 0)/10%10)])++((Aa [((xs.getD i 0)%10)])++st)=((Aa [((xs.getD i 0)/10%10)])++((Aa [((xs.getD i 0)%10)])++st)) from⟨by simp only[ByteArray.size_append,Ad,List.length_cons,List.length_nil];omega,rfl⟩) (aI (show IntKind.wrap .i64 (Int.tdiv ((((xs.getD i 0)/10):Nat):Int) (10:Int))=(((((xs.getD i 0)/10)/10):Nat):Int) from (by rw[Int.tdiv_eq_ediv_of_nonneg om,Cc om om]<;>omega)) (aI (show (Int.tmod (((((xs.getD i 0)/10)/10):Nat):Int) (10:Int))=((((((xs.getD i 0)/10)/10)%10):Nat):Int) from (by rw[Int.tmod_eq_emod_of_nonneg om]<;>omega)) (aI (Am (a:=((48:Int)+((((((xs.getD i 0)/10)/10)%10):Nat):Int))) (r:=(((48+((((xs.getD i 0)/10)/10)%10)):Nat):Int))) (aI (wU8 (a:=(((48+((((xs.getD i 0)/10)/10)%10)):Nat):Int)) (r:=(((48+((((xs.getD i 0)/10)/10)%10)):Nat):Int))) (aI (show 0+1≤([(nB (48+((((xs.getD i 0)/10)/10)%10)))]).length∧(Dk (List.take 1 (List.drop 0 [(nB (48+((((xs.getD i 0)/10)/10)%10)))]))).map (fun ns=>(⟨(ns.map fun n=>UInt8.ofNat n.toNat).toArray⟩:ByteArray))=some (Aa [((xs.getD i 0)/10/10%10)]) from (Gg om)) (aI (show ((((Aa [((xs.getD i 0)/10/10%10)]).size+((Aa [((xs.getD i 0)/10%10)])++((Aa [((xs.getD i 0)%10)])++st)).size:Nat)):Int)≤9223372036854775807∧(Aa [((xs.getD i 0)/10/10%10)])++((Aa [((xs.getD i 0)/10%10)])++((Aa [((xs.getD i 0)%10)])++st))=((Aa [((xs.getD i 0)/10/10%10)])++((Aa [((xs.getD i 0)/10%10)])++((Aa [((xs.getD i 0)%10)])++st))) from⟨by simp only[ByteArray.size_append,Ad,List.length_cons,List.length_nil];omega,rfl⟩) (aI (show IntKind.wrap .i64 (Int.tdiv (((((xs.getD i 0)/10)/10):Nat):Int) (10:Int))=((((((xs.getD i 0)/10)/10)/10):Nat):Int) from (by rw[Int.tdiv_eq_ediv_of_nonneg om,Cc om om]<;>omega)) (aI (show (Int.tmod ((((((xs.getD i 0)/10)/10)/10):Nat):Int) (10:Int))=(((((((xs.getD i 0)/10)/10)/10)%10):Nat):Int) from (by rw[Int.tmod_eq_emod_of_nonneg om]<;>omega)) (aI (Am (a:=((48:Int)+(((((((xs.getD i 0)/10)/10)/10)%10):Nat):Int))) (r:=(((48+(((((xs.getD i 0)/10)/10)/10)%10)):Nat):Int))) (aI (wU8 (a:=(((48+(((((xs.getD i 0)/10)/10)/10)%10)):Nat):Int)) (r:=(((48+(((((xs.getD i 0)/10)/10)/10)%10)):Nat):Int))) (aI (show 0+1≤([(z_814_5 xs i)]).length∧(Dk (List.take 1 (List.drop 0 [(z_814_5 xs i)]))).map (fun ns=>(⟨(ns.map fun n=>UInt8.ofNat n.toNat).toArray⟩:ByteArray))=some (Aa [((xs.getD i 0)/10/10/10%10)]) from (Gg om)) (aI (show ((((Aa [((xs.getD i 0)/10/10/10%10)]).size+((Aa [((xs.getD i 0)/10/10%10)])++((Aa [((xs.getD i 0)/10%10)])++((Aa [((xs.getD i 0)%10)])++st))).size:Nat)):Int)≤9223372036854775807∧(Aa [((xs.getD i 0)/10/10/10%10)])++((Aa [((xs.getD i 0)/10/10%10)])++((Aa [((xs.getD i 0)/10%10)])++((Aa [((xs.getD i 0)%10)])++st)))=((Aa [((xs.getD i 0)/10/10/10%10)])++((Aa [((xs.getD i 0)/10/10%10)])++((Aa [((xs.getD i 0)/10%10)])++((Aa [((xs.getD i 0)%10)])++st)))) from⟨by simp only[ByteArray.size_append,Ad,List.length_cons,List.length_nil];omega,rfl⟩) (aI (show IntKind.wrap .i64 (Int.tdiv ((((((xs.getD i 0)/10)/10)/10):Nat):Int) (10:Int))=(((((((xs.getD i 0)/10)/10)/10)/10):Nat):Int) from (by rw[Int.tdiv_eq_ediv_of_nonneg om,Cc om om]<;>omega)) (aI (Am (a:=((i:Int)+(1:Int))) (r:=(((i+1):Nat):Int))) tt)))))))))))))))))))))))))))))
 exact Dd (b:=6) (k:=4) h1 kr rfl rfl rfl kr (by rw[hs0];decide) (by rw[hs0];decide) de de (by simp[ry_h_o,show ∀c e o r,Bj (.cells c e o r)=As c from fun _ _ _ _=>rfl,show ∀a b,Bj (.iter a b)=true from fun _ _=>rfl,Af,Gk]) kr
noncomputable def ry_z_f(xs:List Nat)(n c:Nat)(st:ByteArray)(j:List Value):Frame:=(Fr 134 ([(sl 5 n c),uu,(J j 0),(.string st)]++(jj j 1 5 ([bF]++(jj j 6 3 ([bF]++(jj j 9 30 [uu])))))) [.code (cd Tryz.f134 [1,1,1,1,0,0,0]),.inLoop (cd Tryz.f134 [1,1,1,1,0,0,0]),.inBlock 4,.code (cd Tryz.f134 [1,1,1,1,1])])
noncomputable def ry_z_o(xs:List Nat)(n c:Nat)(st:ByteArray):List (Nat×AObj):=(Hx xs)
noncomputable def ry_z(xs:List Nat)(n c:Nat)(st:ByteArray)(j:List Value):AS:=⟨ry_z_f xs n c st j,[],Ac 10 (ry_z_o xs n c st)⟩
theorem ry_x(xs:List Nat)(n c:Nat)(st:ByteArray)(i:Nat)(j:List Value)(hi:n≤i):GT (ry_h xs n c st i j) (ry_z xs n c st ([(.string (bts [])),(nI i),(J j 0),(J j 1),(sl 5 n c),(nI n),(nI i),(sl 5 n c),(nI n)]++(jj j 6 20 [undef,undef,undef,undef,undef,undef,undef,undef,undef,undef]))):=
 sR (sc:=[(6,.op (.rwB false)),(6,.stay)]) kr (aI (dF (p:=(i:Int)<(n:Int))) tt)
theorem ry_z1(xs:List Nat)(n c:Nat)(ds:List Nat)(j:List Value)(h1:1<(Aa ds).size)(hm:(Aa ds).size<1099511627776)(e:Nat)(hq:e<10)(hx:(Aa ds)[0]? =some (UInt8.ofNat (48+e)))(he:e=0):GT (ry_z xs n c (Aa ds) j) (ry_z xs n c (Aa (ds.drop 1)) (jj j 0 29 [(.string (Aa ds)),(nI ((Aa ds).size)),bT,bT,(.string (Aa ds)),(nB ((UInt8.ofNat (48+e)).toNat)),bT,bT,(.string (Aa ds)),(.string (Aa (ds.drop 1)))])):=
 sR (sc:=[(5,.op (.rwB true)),(2,.op (.sidx (UInt8.ofNat (48+e)))),(0,.op (.rwB true)),(7,.op (.sslc (Aa (ds.drop 1)))),(4,.stay)]) kr (aI (dT (p:=(((Aa ds).size:Nat):Int)>(1:Int))) (aI (show 0≤(0:Int)∧(Aa ds)[Int.toNat (0:Int)]? =some (UInt8.ofNat (48+e)) from⟨by omega,hx⟩) (aI (show ((((UInt8.ofNat (48+e)).toNat:Nat):Int)==(48:Int))=true from (by rw[We hq,he];rfl)) (aI (show 0≤(1:Int)∧(1:Int)≤(((Aa ds).size:Nat):Int)∧(((Aa ds).size:Nat):Int)≤(((Aa ds).size:Nat):Int)∧(Aa ds).extract (Int.toNat (1:Int)) (Int.toNat (((Aa ds).size:Nat):Int))=(Aa (ds.drop 1)) from⟨by omega,by omega,by omega,by rw[Hz,List.take_of_length_le (by have:=Ad ds;omega)];rfl⟩) tt))))
theorem ry_z2(xs:List Nat)(n c:Nat)(ds:List Nat)(j:List Value)(h1:1<(Aa ds).size)(hm:(Aa ds).size<1099511627776)(e:Nat)(hq:e<10)(hx:(Aa ds)[0]? =some (UInt8.ofNat (48+e)))(he:e≠0)(hr:GT (Ca 134 #[(sl 5 n c)] 6 (Hx xs)) (ry_z xs n c (Aa ds) j)):CT 134 #[(sl 5 n c)] (Ac 6 (Hx xs)) (.string (Aa ds)) (Ac 10 (Hx xs)):=
 sF (sc:=[(5,.op (.rwB true)),(2,.op (.sidx (UInt8.ofNat (48+e)))),(0,.op (.rwB false)),(10,.stay)]) kr (aI (dT (p:=(((Aa ds).size:Nat):Int)>(1:Int))) (aI (show 0≤(0:Int)∧(Aa ds)[Int.toNat (0:Int)]? =some (UInt8.ofNat (48+e)) from⟨by omega,hx⟩) (aI (show ((((UInt8.ofNat (48+e)).toNat:Nat):Int)==(48:Int))=false from (by rw[We hq,beq_eq_false_iff_ne];omega)) tt))) hr
theorem ry_z3(xs:List Nat)(n c:Nat)(ds:List Nat)(j:List Value)(h1:(Aa ds).size≤1)(hr:GT (Ca 134 #[(sl 5 n c)] 6 (Hx xs)) (ry_z xs n c (Aa ds) j)):CT 134 #[(sl 5 n c)] (Ac 6 (Hx xs)) (.string (Aa ds)) (Ac 10 (Hx xs)):=
 sF (sc:=[(5,.op (.rwB false)),(14,.stay)]) kr (aI (dF (p:=(((Aa ds).size:Nat):Int)>(1:Int))) tt) hr
theorem ry_strip{xs:List Nat}{n c:Nat}: ∀(k:Nat) (ds:List Nat) (j:List Value),ds.length=k→0<k→k<1099511627776→Dig ds→GT (Ca 134 #[(sl 5 n c)] 6 [(5,(cI xs none))]) (ry_z xs n c (Aa ds) j)→
  ∃hf,CT 134 #[(sl 5 n c)] (Ac 6 [(5,(cI xs none))]) (.string (Aa (Ae (Az ds)))) hf∧hf.get 5=some (cI xs none):=by
 intro k
 induction k with
 |zero=>intro ds j _ h0 _ _ _;omega
 |succ k ih=>
  intro ds j hl _ hm hd hr
  have hsz:=Ad ds
  match ds,hl,hd,hr,hsz with
  |e::t,hl,hd,hr,hsz=>
   have he:e<10:=hd e sm
   have hlt:t.length=k:=by simpa using hl
   by_cases hk:k=0
   ·have:t=[]:=List.length_eq_zero_iff.1 om
    subst this
    have S:=ry_z3 xs n c [e] j (by rw[hsz];exact Nat.le_refl _) hr
    rw[show Az [e]=e by simp[Az],Cf he]
    exact⟨_,S,rfl⟩
   ·have hx:(Aa (e::t))[0]? =some (UInt8.ofNat (48+e)):=Gi (ds:=e::t) sm
    have h1:1<(Aa (e::t)).size:=by rw[hsz,hl];omega
    have hm2:(Aa (e::t)).size<1099511627776:=by rw[hsz,hl];exact hm
    by_cases h0:e=0
    ·have r:=ry_z1 xs n c (e::t) j h1 hm2 e he hx h0
     have:=ih t _ hlt om om (fun x hx=>hd x (by simp[hx])) (hr.trans r)
     rw[show Az (e::t)=Az t by rw[show e::t=[e]++t from rfl,Gr,h0];simp[Az]]
     exact this
    ·have S:=ry_z2 xs n c (e::t) j h1 hm2 e he hx h0 hr
     rw[(Nw _ (e::t) hl hd (by simpa using h0)).1]
     exact⟨_,S,rfl⟩
theorem ry_loop{xs:List Nat}{n c:Nat}(hn:n≤xs.length)(hm:n<1000000000)(hlx:F.Lim xs): ∀(k i:Nat) (ds:List Nat) (j:List Value),n-i=k→i≤n→ds.length=4*i→Dig ds→Az ds=F.val (xs.take i)→GT (Ca 134 #[(sl 5 n c)] 6 [(5,(cI xs none))]) (ry_h xs n c (Aa ds) i j)→
  ∃ds' j',ds'.length=4*n∧Dig ds'∧Az ds'=F.val (xs.take n)∧GT (Ca 134 #[(sl 5 n c)] 6 [(5,(cI xs none))]) (ry_h xs n c (Aa ds') n j'):=by
 intro k
 induction k with
 |zero=>
  intro i ds j hk hi hl hd hv hr
  obtain rfl:i=n:=by omega
  exact⟨ds,j,hl,hd,hv,hr⟩
 |succ k ih=>
  intro i ds j hk hi hl hd hv hr
  have hx:=hlx.get i
  have r:=ry_r (s0:=(Ca 134 #[(sl 5 n c)] 6 [(5,(cI xs none))])) rfl xs n c (Aa ds) i j hn hm om (by rw[Ad];omega) hx hr
  rw[Mo,Mo,Mo,Mo]at r
  generalize hg:xs.getD i 0=g at*
  have hv4:Az [g/10/10/10%10,g/10/10%10,g/10%10,g%10]=g:=by
   simp only[Az,List.foldl_cons,List.foldl_nil];omega
  refine ih (i+1) _ _ om om (by simp only[List.length_cons];omega) ?_ ?_ r
  ·intro x hx
   simp only[List.mem_cons]at hx
   rcases hx with h|h|h|h|h
   ·omega
   ·omega
   ·omega
   ·omega
   ·exact hd x h
  ·rw[show g/10/10/10%10::g/10/10%10::g/10%10::g%10::ds=[g/10/10/10%10,g/10/10%10,g/10%10,g%10]++ds from rfl,Gr,hv4,hl,Yk,hv,F.val_take_succ,hg,Nat.add_comm]
theorem ry_c(n0 b:Nat)(xs:List Nat)(n c:Nat)(hb:5≤b∧b<n0)(hn:n≤xs.length)(hm:n<1000000000)(hlx:F.Lim xs):
  FT 134 #[sl b n c] n0 [(b,.cells (ns .i64 xs) 3 none false)] (.string (Aa (Ae (F.val (xs.take n))))) [(b,some (cI xs none))] []:=by
 have key: ∃hf,CT 134 #[(sl 5 n c)] (Ac 6 [(5,(cI xs none))]) (.string (Aa (Ae (F.val (xs.take n))))) hf∧hf.get 5=some (cI xs none):=by
  rcases Nat.eq_zero_or_pos n with h0|h0
  ·have S:=ry_e xs n c h0
   subst h0
   rw[show Ae (F.val (xs.take 0))=[0] from Ea]
   exact⟨_,S,rfl⟩
  ·have a0:=ry_in (s0:=(Ca 134 #[(sl 5 n c)] 6 [(5,(cI xs none))])) rfl xs n c hn hm h0 (Gets.refl _)
   obtain⟨ds,j,h1,h2,h3,h4⟩:=ry_loop hn hm hlx n 0 [] _ om (Nat.zero_le _) rfl (fun x hx=>by cases hx) rfl a0
   have a1:=h4.trans (ry_x xs n c (Aa ds) n j (Nat.le_refl _))
   rw[←h3]
   exact ry_strip _ ds _ h1 om om h2 a1
 obtain⟨hf,S,hg⟩:=key
 exact Yf [b] [.cells (ns .i64 xs) 3 none false] [.cells (ns .i64 xs) 3 none false] [] [] n0 S rfl (by simp[hg]) rfl sm (by simp;omega) om (by simp[Bj,Af]) (by simp[Bj,Af]) rfl sm sm rfl rfl rfl
noncomputable section
abbrev Ni(xs:List Nat):AObj:=.cells (ns .i64 xs) 3 none false
end
theorem rsh_n(xs:List Nat)(n c:Nat)(hn:n≤xs.length)(hm:n<1000000000)(hlx:F.Lim xs):CT 88 #[bF,(sl 5 n c)] (Ac 6 [(5,(Ni xs))]) (.string (Aa (Ae (F.val (xs.take n))))) (Ac 6 [(5,(Ni xs))]):=
 sF (sc:=[(19,.call [5] (.string (Aa (Ae (F.val (xs.take n))))) [(5,some (Ni xs))] []),(3,.stay)]) kr (aI (ry_c 6 5 xs n c om hn hm hlx) tt) (Gets.refl _)
theorem rsh_m(xs:List Nat)(n c:Nat)(hn:n≤xs.length)(hm:n<1000000000)(hlx:F.Lim xs)(h0:0<n)(hsz:(Ae (F.val (xs.take n))).length<1099511627776):CT 88 #[bT,(sl 5 n c)] (Ac 6 [(5,(Ni xs))]) (.string (Bg (Ae (F.val (xs.take n))))) (Ac 6 [(5,(Ni xs))]):=
 sF (sc:=[(11,.op (.rwB true)),(6,.call [5] (.string (Aa (Ae (F.val (xs.take n))))) [(5,some (Ni xs))] []),(0,.op (.cat (Bg (Ae (F.val (xs.take n)))))),(3,.stay)]) kr (aI (dT (p:=(n:Int)>(0:Int))) (aI (ry_c 6 5 xs n c om hn hm hlx) (aI (show ((((bts [45]).size+(Aa (Ae (F.val (xs.take n)))).size:Nat)):Int)≤9223372036854775807∧(bts [45])++(Aa (Ae (F.val (xs.take n))))=(Bg (Ae (F.val (xs.take n)))) from⟨by rw[Ad];have:=hsz;rw[show (Seg.bts [45]).size=1 from rfl];omega,Sc _⟩) tt))) (Gets.refl _)
theorem rsh_z(xs:List Nat)(n c:Nat)(hn:n≤xs.length)(hm:n<1000000000)(hlx:F.Lim xs)(h0:n=0):CT 88 #[bT,(sl 5 n c)] (Ac 6 [(5,(Ni xs))]) (.string (Aa (Ae (F.val (xs.take n))))) (Ac 6 [(5,(Ni xs))]):=
 sF (sc:=[(11,.op (.rwB false)),(7,.call [5] (.string (Aa (Ae (F.val (xs.take n))))) [(5,some (Ni xs))] []),(3,.stay)]) kr (aI (dF (p:=(n:Int)>(0:Int))) (aI (ry_c 6 5 xs n c om hn hm hlx) tt)) (Gets.refl _)
theorem rsh_n_c(n0 b:Nat)(xs:List Nat)(n c:Nat)(hb:5≤b∧b<n0)(hn:n≤xs.length)(hm:n<1000000000)(hlx:F.Lim xs):FT 88 #[.bool false,sl b n c] n0 [(b,.cells (ns .i64 xs) 3 none false)] (.string (Aa (Ae (F.val (xs.take n))))) [(b,some (cI xs none))] []:=
 ff [b] [.cells (ns .i64 xs) 3 none false] [.cells (ns .i64 xs) 3 none false] [] [] n0 (rsh_n xs n c hn hm hlx)
theorem rsh_m_c(n0 b:Nat)(xs:List Nat)(n c:Nat)(hb:5≤b∧b<n0)(hn:n≤xs.length)(hm:n<1000000000)(hlx:F.Lim xs)(h0:0<n):FT 88 #[.bool true,sl b n c] n0 [(b,.cells (ns .i64 xs) 3 none false)] (.string (Bg (Ae (F.val (xs.take n))))) [(b,some (cI xs none))] []:=
 ff [b] [.cells (ns .i64 xs) 3 none false] [.cells (ns .i64 xs) 3 none false] [] [] n0 (rsh_m xs n c hn hm hlx h0 (len_dig hlx hn hm))
theorem rsh_z_c(n0 b:Nat)(xs:List Nat)(n c:Nat)(hb:5≤b∧b<n0)(hn:n≤xs.length)(hm:n<1000000000)(hlx:F.Lim xs)(h0:n=0):FT 88 #[.bool true,sl b n c] n0 [(b,.cells (ns .i64 xs) 3 none false)] (.string (Aa (Ae (F.val (xs.take n))))) [(b,some (cI xs none))] []:=
 ff [b] [.cells (ns .i64 xs) 3 none false] [.cells (ns .i64 xs) 3 none false] [] [] n0 (rsh_z xs n c hn hm hlx h0)
end Go.Proofs.YtjbflfbhfnkmlaaGreatDoor
