import Derived.Test.YtldoiilgfcpipaaGreatDoorPDec
import Derived.Test.YtldoiilgfcpipaaGreatDoorLF
set_option linter.unusedVariables false
set_option linter.unusedSimpArgs false
set_option maxRecDepth 100000
namespace Go.Proofs.YtldoiilgfcpipaaGreatDoor
open Go Go.AE Seg
noncomputable section
abbrev z_f73_5(xs:List Nat)(i:Nat):Value:=nI (((((xs.getD i 0)/10)/10)/10)/10)
abbrev z_f73_6(xs:List Nat)(i:Nat):Value:=nB (48+(((((xs.getD i 0)/10)/10)/10)%10))
abbrev z_f73_4(xs:List Nat)(i:Nat)(st:ByteArray):Value:=.string ((dstr [((xs.getD i 0)/10/10%10)])++((dstr [((xs.getD i 0)/10%10)])++((dstr [((xs.getD i 0)%10)])++st)))
abbrev z_f73_3(xs:List Nat)(i:Nat)(st:ByteArray):Value:=.string ((dstr [((xs.getD i 0)/10/10/10%10)])++((dstr [((xs.getD i 0)/10/10%10)])++((dstr [((xs.getD i 0)/10%10)])++((dstr [((xs.getD i 0)%10)])++st))))
abbrev z_f73_0(xs:List Nat)(i n:Nat)(st:ByteArray):List Value:=[(z_f73_5 xs i),(lI 4),(nI i),(sl 5 n 0),(nI n),bT,(nI i),(nI (i+1)),(sl 5 n 0),(nI i),(.pointer (some ⟨5,i,none⟩)),(nI (xs.getD i 0)),(lI 4),bF,(lI 3),(lI 4),(nI ((((xs.getD i 0)/10)/10)/10)),(nI (((((xs.getD i 0)/10)/10)/10)%10)),(nI (48+(((((xs.getD i 0)/10)/10)/10)%10))),(z_f73_6 xs i),(sl 9 1 1),(.string (dstr [((xs.getD i 0)/10/10/10%10)])),(z_f73_4 xs i st),(z_f73_3 xs i st),(nI ((((xs.getD i 0)/10)/10)/10)),(z_f73_5 xs i)]
abbrev z_f73_1(xs:List Nat):List (Nat×AObj):=[(5,(.cells (ns .i64 xs) 3 (some 1) false))]
abbrev z_f73_2:List Value:=[undef,undef,undef,undef,undef,undef,undef,undef,undef,undef,undef,undef,undef,undef,undef,undef,undef,undef,undef,undef,undef,undef,undef,undef,undef,undef]
end
theorem rx_e(xs:List Nat)(n:Nat)(h0:n=0):CT 134 #[(sl 5 n 0)] (mkH 6 (z_f73_1 xs)) (.string (bts [48])) (mkH 6 (z_f73_1 xs)):=
 sF (sc:=[(9,.op (.rwB true)),(7,.stay)]) (by kernel_rfl) (aI (eT (a:=(n:Int)) (b:=(0:Int))) tt) (Gets.refl _)
noncomputable def rx_h_f(xs:List Nat)(n:Nat)(st:ByteArray)(i:Nat)(j:List Value):Frame:=⟨134,List.toArray [(sl 5 n 0),uu,(.string (bts [])),(.string st),(nI i),(J j 0),(J j 1),(sl 5 n 0),(nI n),bF,(J j 2),(J j 3),(J j 4),(J j 5),(J j 6),(J j 7),(J j 8),(J j 9),(J j 10),(J j 11),(J j 12),(J j 13),(J j 14),(J j 15),(J j 16),(J j 17),(J j 18),(J j 19),(J j 20),(J j 21),(J j 22),(J j 23),(J j 24),(J j 25),uu,uu,uu,uu,uu,uu,uu,uu,uu,uu,uu],[.code (cd Tryz.f134 [1,1,1,0,1,0,0]),.inLoop (cd Tryz.f134 [1,1,1,0,1,0,0]),.inBlock 0,.code (cd Tryz.f134 [1,1,1,1])],[],.run,.normal,none⟩
noncomputable def rx_h_o(xs:List Nat)(n:Nat)(st:ByteArray)(i:Nat):List (Nat×AObj):=(z_f73_1 xs)
noncomputable def rx_h(xs:List Nat)(n:Nat)(st:ByteArray)(i:Nat)(j:List Value):AS:=⟨rx_h_f xs n st i j,[],mkH 10 (rx_h_o xs n st i)⟩
theorem rx_in{s0:AS}(hs0:s0.h.next=6)(xs:List Nat)(n:Nat)(hn:n≤xs.length)(hm:n<1000000000)(h0:0<n)(hr:GT s0 ⟨Frame.enter Tryz.prog 134 #[(sl 5 n 0)] .normal,[],mkH 6 (z_f73_1 xs)⟩):GT s0 (rx_h xs n (bts []) 0 z_f73_2):=by
 have h1:=hr.trans (sR (sc:=[(9,.op (.rwB false)),(14,.stay)]) (fr1:=⟨134,List.toArray [(sl 5 n 0),uu,(.string (bts [])),(.string (bts [])),(lI 0),uu,uu,(sl 5 n 0),(nI n),bF,uu,uu,uu,uu,uu,uu,uu,uu,uu,uu,uu,uu,uu,uu,uu,uu,uu,uu,uu,uu,uu,uu,uu,uu,uu,uu,uu,uu,uu,uu,uu,uu,uu,uu,uu],[.code (cd Tryz.f134 [1,1,1,0,1,0,0]),.inLoop (cd Tryz.f134 [1,1,1,0,1,0,0]),.inBlock 0,.code (cd Tryz.f134 [1,1,1,1])],[],.run,.normal,none⟩) (next:=6) (l:=(z_f73_1 xs)) (by kernel_rfl) (aI (eF (a:=(n:Int)) (b:=(0:Int))) tt))
 exact gets_slide (fr:=rx_h_f xs n (bts []) 0 z_f73_2) (fr1:=⟨134,List.toArray [(sl 5 n 0),undef,(.string (bts [])),(.string (bts [])),(lI 0),undef,undef,(sl 5 n 0),(nI n),bF,undef,undef,undef,undef,undef,undef,undef,undef,undef,undef,undef,undef,undef,undef,undef,undef,undef,undef,undef,undef,undef,undef,undef,undef,undef,undef,undef,undef,undef,undef,undef,undef,undef,undef,undef],[.code (cd Tryz.f134 [1,1,1,0,1,0,0]),.inLoop (cd Tryz.f134 [1,1,1,0,1,0,0]),.inBlock 0,.code (cd Tryz.f134 [1,1,1,1])],[],.run,.normal,none⟩) (nx1:=6) (b:=6) (k:=0) (l1:=(z_f73_1 xs)) (l2:=rx_h_o xs n (bts []) 0) h1 (by kernel_rfl) rfl rfl rfl (by kernel_rfl) (by rw[hs0];decide) (by rw[hs0];decide) (by decide) (by decide) (by simp[rx_h_o,show ∀c e o r,flat (.cells c e o r)=closedL c from fun _ _ _ _=>rfl,show ∀a b,flat (.iter a b)=true from fun _ _=>rfl,ns_closed,gob1_flat]) (by kernel_rfl)
theorem rx_r{s0:AS}(hs0:s0.h.next=6)(xs:List Nat)(n:Nat)(st:ByteArray)(i:Nat)(j:List Value)(hn:n≤xs.length)(hm:n<1000000000)(hi:i<n)(hs:st.size<4000000000)(hx:xs.getD i 0<10000)(hr:GT s0 (rx_h xs n st i j)):GT s0 (rx_h xs n ((dstr [((xs.getD i 0)/10/10/10%10)])++((dstr [((xs.getD i 0)/10/10%10)])++((dstr [((xs.getD i 0)/10%10)])++((dstr [((xs.getD i 0)%10)])++st)))) (i+1) (z_f73_0 xs i n st)):=by
 have h1:=hr.trans (sR (sc:=[(6,.op (.rwB true)),(9,.op (.idx i)),(0,.op (.ld (nI (xs.getD i 0)))),(21,.op (.rwI ((((xs.getD i 0)%10):Nat):Int))),(0,.op (.rwI (((48+((xs.getD i 0)%10)):Nat):Int))),(0,.op (.rwI (((48+((xs.getD i 0)%10)):Nat):Int))),(1,.op (.b2s (dstr [((xs.getD i 0)%10)]))),(1,.op (.cat ((dstr [((xs.getD i 0)%10)])++st))),(4,.op (.rwI ((((xs.getD i 0)/10):Nat):Int))),(22,.op (.rwI (((((xs.getD i 0)/10)%10):Nat):Int))),(0,.op (.rwI (((48+(((xs.getD i 0)/10)%10)):Nat):Int))),(0,.op (.rwI (((48+(((xs.getD i 0)/10)%10)):Nat):Int))),(1,.op (.b2s (dstr [((xs.getD i 0)/10%10)]))),(1,.op (.cat ((dstr [((xs.getD i 0)/10%10)])++((dstr [((xs.getD i 0)%10)])++st)))),(4,.op (.rwI (((((xs.getD i 0)/10)/10):Nat):Int))),(22,.op (.rwI ((((((xs.getD i 0)/10)/10)%10):Nat):Int))),(0,.op (.rwI (((48+((((xs.getD i 0)/10)/10)%10)):Nat):Int))),(0,.op (.rwI (((48+((((xs.getD i 0)/10)/10)%10)):Nat):Int))),(1,.op (.b2s (dstr [((xs.getD i 0)/10/10%10)]))),(1,.op (.cat ((dstr [((xs.getD i 0)/10/10%10)])++((dstr [((xs.getD i 0)/10%10)])++((dstr [((xs.getD i 0)%10)])++st))))),(4,.op (.rwI ((((((xs.getD i 0)/10)/10)/10):Nat):Int))),(22,.op (.rwI (((((((xs.getD i 0)/10)/10)/10)%10):Nat):Int))),(0,.op (.rwI (((48+(((((xs.getD i 0)/10)/10)/10)%10)):Nat):Int))),(0,.op (.rwI (((48+(((((xs.getD i 0)/10)/10)/10)%10)):Nat):Int))),(1,.op (.b2s (dstr [((xs.getD i 0)/10/10/10%10)]))),(1,.op (.cat ((dstr [((xs.getD i 0)/10/10/10%10)])++((dstr [((xs.getD i 0)/10/10%10)])++((dstr [((xs.getD i 0)/10%10)])++((dstr [((xs.getD i 0)%10)])++st)))))),(4,.op (.rwI (((((((xs.getD i 0)/10)/10)/10)/10):Nat):Int))),(20,.op (.rwI (((i+1):Nat):Int))),(3,.stay)]) (fr1:=⟨134,List.toArray [(sl 5 n 0),uu,(.string (bts [])),(z_f73_3 xs i st),(nI (i+1)),(z_f73_5 xs i),(lI 4),(sl 5 n 0),(nI n),bF,(nI i),(sl 5 n 0),(nI n),bT,(nI i),(nI (i+1)),(sl 5 n 0),(nI i),(.pointer (some ⟨5,i,none⟩)),(nI (xs.getD i 0)),(lI 4),bF,(lI 3),(lI 4),(nI ((((xs.getD i 0)/10)/10)/10)),(nI (((((xs.getD i 0)/10)/10)/10)%10)),(nI (48+(((((xs.getD i 0)/10)/10)/10)%10))),(z_f73_6 xs i),(sl 13 1 1),(.string (dstr [((xs.getD i 0)/10/10/10%10)])),(z_f73_4 xs i st),(z_f73_3 xs i st),(nI ((((xs.getD i 0)/10)/10)/10)),(z_f73_5 xs i),uu,uu,uu,uu,uu,uu,uu,uu,uu,uu,uu],[.code (cd Tryz.f134 [1,1,1,0,1,0,0]),.inLoop (cd Tryz.f134 [1,1,1,0,1,0,0]),.inBlock 0,.code (cd Tryz.f134 [1,1,1,1])],[],.run,.normal,none⟩) (next:=14) (l:=(z_f73_1 xs)) (by kernel_rfl) (aI (dT (p:=(i:Int)<(n:Int))) (aI (ix (i:Int) (n:Int) 0 1 i) (aI (ns_get (k:=.i64) (xs:=xs) (i:=i)) (aI (show (Int.tmod (((xs.getD i 0):Nat):Int) (10:Int))=((((xs.getD i 0)%10):Nat):Int) from (by rw[Int.tmod_eq_emod_of_nonneg (by omega)]<;>omega)) (aI (wI64 (a:=((48:Int)+((((xs.getD i 0)%10):Nat):Int))) (r:=(((48+((xs.getD i 0)%10)):Nat):Int))) (aI (wU8 (a:=(((48+((xs.getD i 0)%10)):Nat):Int)) (r:=(((48+((xs.getD i 0)%10)):Nat):Int))) (aI (show 0+1≤([(nB (48+((xs.getD i 0)%10)))]).length∧(intsOf (List.take 1 (List.drop 0 [(nB (48+((xs.getD i 0)%10)))]))).map (fun ns=>(⟨(ns.map fun n=>UInt8.ofNat n.toNat).toArray⟩:ByteArray))=some (dstr [((xs.getD i 0)%10)]) from (b2s_one (by omega))) (aI (show ((((dstr [((xs.getD i 0)%10)]).size+st.size:Nat)):Int)≤9223372036854775807∧(dstr [((xs.getD i 0)%10)])++st=((dstr [((xs.getD i 0)%10)])++st) from⟨by simp only[ByteArray.size_append,dstr_size,List.length_cons,List.length_nil];omega,rfl⟩) (aI (show IntKind.wrap .i64 (Int.tdiv (((xs.getD i 0):Nat):Int) (10:Int))=((((xs.getD i 0)/10):Nat):Int) from (by rw[Int.tdiv_eq_ediv_of_nonneg (by omega),wrap_i64 (by omega) (by omega)]<;>omega)) (aI (show (Int.tmod ((((xs.getD i 0)/10):Nat):Int) (10:Int))=(((((xs.getD i 0)/10)%10):Nat):Int) from (by rw[Int.tmod_eq_emod_of_nonneg (by omega)]<;>omega)) (aI (wI64 (a:=((48:Int)+(((((xs.getD i 0)/10)%10):Nat):Int))) (r:=(((48+(((xs.getD i 0)/10)%10)):Nat):Int))) (aI (wU8 (a:=(((48+(((xs.getD i 0)/10)%10)):Nat):Int)) (r:=(((48+(((xs.getD i 0)/10)%10)):Nat):Int))) (aI (show 0+1≤([(nB (48+(((xs.getD i 0)/10)%10)))]).length∧(intsOf (List.take 1 (List.drop 0 [(nB (48+(((xs.getD i 0)/10)%10)))]))).map (fun ns=>(⟨(ns.map fun n=>UInt8.ofNat n.toNat).toArray⟩:ByteArray))=some (dstr [((xs.getD i 0)/10%10)]) from (b2s_one (by omega))) (aI (show ((((dstr [((xs.getD i 0)/10%10)]).size+((dstr [((xs.getD i 0)%10)])++st).size:Nat)):Int)≤9223372036854775807∧(dstr [((xs.getD i 0)/10%10)])++((dstr [((xs.getD i 0)%10)])++st)=((dstr [((xs.getD i 0)/10%10)])++((dstr [((xs.getD i 0)%10)])++st)) from⟨by simp only[ByteArray.size_append,dstr_size,List.length_cons,List.length_nil];omega,rfl⟩) (aI (show IntKind.wrap .i64 (Int.tdiv ((((xs.getD i 0)/10):Nat):Int) (10:Int))=(((((xs.getD i 0)/10)/10):Nat):Int) from (by rw[Int.tdiv_eq_ediv_of_nonneg (by omega),wrap_i64 (by omega) (by omega)]<;>omega)) (aI (show (Int.tmod (((((xs.getD i 0)/10)/10):Nat):Int) (10:Int))=((((((xs.getD i 0)/10)/10)%10):Nat):Int) from (by rw[Int.tmod_eq_emod_of_nonneg (by omega)]<;>omega)) (aI (wI64 (a:=((48:Int)+((((((xs.getD i 0)/10)/10)%10):Nat):Int))) (r:=(((48+((((xs.getD i 0)/10)/10)%10)):Nat):Int))) (aI (wU8 (a:=(((48+((((xs.getD i 0)/10)/10)%10)):Nat):Int)) (r:=(((48+((((xs.getD i 0)/10)/10)%10)):Nat):Int))) (aI (show 0+1≤([(nB (48+((((xs.getD i 0)/10)/10)%10)))]).length∧(intsOf (List.take 1 (List.drop 0 [(nB (48+((((xs.getD i 0)/10)/10)%10)))]))).map (fun ns=>(⟨(ns.map fun n=>UInt8.ofNat n.toNat).toArray⟩:ByteArray))=some (dstr [((xs.getD i 0)/10/10%10)]) from (b2s_one (by omega))) (aI (show ((((dstr [((xs.getD i 0)/10/10%10)]).size+((dstr [((xs.getD i 0)/10%10)])++((dstr [((xs.getD i 0)%10)])++st)).size:Nat)):Int)≤9223372036854775807∧(dstr [((xs.getD i 0)/10/10%10)])++((dstr [((xs.getD i 0)/10%10)])++((dstr [((xs.getD i 0)%10)])++st))=((dstr [((xs.getD i 0)/10/10%10)])++((dstr [((xs.getD i 0)/10%10)])++((dstr [((xs.getD i 0)%10)])++st))) from⟨by simp only[ByteArray.size_append,dstr_size,List.length_cons,List.length_nil];omega,rfl⟩) (aI (show IntKind.wrap .i64 (Int.tdiv (((((xs.getD i 0)/10)/10):Nat):Int) (10:Int))=((((((xs.getD i 0)/10)/10)/10):Nat):Int) from (by rw[Int.tdiv_eq_ediv_of_nonneg (by omega),wrap_i64 (by omega) (by omega)]<;>omega)) (aI (show (Int.tmod ((((((xs.getD i 0)/10)/10)/10):Nat):Int) (10:Int))=(((((((xs.getD i 0)/10)/10)/10)%10):Nat):Int) from (by rw[Int.tmod_eq_emod_of_nonneg (by omega)]<;>omega)) (aI (wI64 (a:=((48:Int)+(((((((xs.getD i 0)/10)/10)/10)%10):Nat):Int))) (r:=(((48+(((((xs.getD i 0)/10)/10)/10)%10)):Nat):Int))) (aI (wU8 (a:=(((48+(((((xs.getD i 0)/10)/10)/10)%10)):Nat):Int)) (r:=(((48+(((((xs.getD i 0)/10)/10)/10)%10)):Nat):Int))) (aI (show 0+1≤([(z_f73_6 xs i)]).length∧(intsOf (List.take 1 (List.drop 0 [(z_f73_6 xs i)]))).map (fun ns=>(⟨(ns.map fun n=>UInt8.ofNat n.toNat).toArray⟩:ByteArray))=some (dstr [((xs.getD i 0)/10/10/10%10)]) from (b2s_one (by omega))) (aI (show ((((dstr [((xs.getD i 0)/10/10/10%10)]).size+((dstr [((xs.getD i 0)/10/10%10)])++((dstr [((xs.getD i 0)/10%10)])++((dstr [((xs.getD i 0)%10)])++st))).size:Nat)):Int)≤9223372036854775807∧(dstr [((xs.getD i 0)/10/10/10%10)])++((dstr [((xs.getD i 0)/10/10%10)])++((dstr [((xs.getD i 0)/10%10)])++((dstr [((xs.getD i 0)%10)])++st)))=((dstr [((xs.getD i 0)/10/10/10%10)])++((dstr [((xs.getD i 0)/10/10%10)])++((dstr [((xs.getD i 0)/10%10)])++((dstr [((xs.getD i 0)%10)])++st)))) from⟨by simp only[ByteArray.size_append,dstr_size,List.length_cons,List.length_nil];omega,rfl⟩) (aI (show IntKind.wrap .i64 (Int.tdiv ((((((xs.getD i 0)/10)/10)/10):Nat):Int) (10:Int))=(((((((xs.getD i 0)/10)/10)/10)/10):Nat):Int) from (by rw[Int.tdiv_eq_ediv_of_nonneg (by omega),wrap_i64 (by omega) (by omega)]<;>omega)) (aI (wI64 (a:=((i:Int)+(1:Int))) (r:=(((i+1):Nat):Int))) tt)))))))))))))))))))))))))))))
 exact gets_slide (fr:=rx_h_f xs n ((dstr [((xs.getD i 0)/10/10/10%10)])++((dstr [((xs.getD i 0)/10/10%10)])++((dstr [((xs.getD i 0)/10%10)])++((dstr [((xs.getD i 0)%10)])++st)))) (i+1) (z_f73_0 xs i n st)) (fr1:=⟨134,List.toArray [(sl 5 n 0),undef,(.string (bts [])),(z_f73_3 xs i st),(nI (i+1)),(z_f73_5 xs i),(lI 4),(sl 5 n 0),(nI n),bF,(nI i),(sl 5 n 0),(nI n),bT,(nI i),(nI (i+1)),(sl 5 n 0),(nI i),(.pointer (some ⟨5,i,none⟩)),(nI (xs.getD i 0)),(lI 4),bF,(lI 3),(lI 4),(nI ((((xs.getD i 0)/10)/10)/10)),(nI (((((xs.getD i 0)/10)/10)/10)%10)),(nI (48+(((((xs.getD i 0)/10)/10)/10)%10))),(z_f73_6 xs i),(sl 13 1 1),(.string (dstr [((xs.getD i 0)/10/10/10%10)])),(z_f73_4 xs i st),(z_f73_3 xs i st),(nI ((((xs.getD i 0)/10)/10)/10)),(z_f73_5 xs i),undef,undef,undef,undef,undef,undef,undef,undef,undef,undef,undef],[.code (cd Tryz.f134 [1,1,1,0,1,0,0]),.inLoop (cd Tryz.f134 [1,1,1,0,1,0,0]),.inBlock 0,.code (cd Tryz.f134 [1,1,1,1])],[],.run,.normal,none⟩) (nx1:=14) (b:=6) (k:=4) (l1:=(z_f73_1 xs)) (l2:=rx_h_o xs n ((dstr [((xs.getD i 0)/10/10/10%10)])++((dstr [((xs.getD i 0)/10/10%10)])++((dstr [((xs.getD i 0)/10%10)])++((dstr [((xs.getD i 0)%10)])++st)))) (i+1)) h1 (by kernel_rfl) rfl rfl rfl (by kernel_rfl) (by rw[hs0];decide) (by rw[hs0];decide) (by decide) (by decide) (by simp[rx_h_o,show ∀c e o r,flat (.cells c e o r)=closedL c from fun _ _ _ _=>rfl,show ∀a b,flat (.iter a b)=true from fun _ _=>rfl,ns_closed,gob1_flat]) (by kernel_rfl)
noncomputable def rx_z_f(xs:List Nat)(n:Nat)(st:ByteArray)(j:List Value):Frame:=⟨134,List.toArray [(sl 5 n 0),uu,(J j 0),(.string st),(J j 1),(J j 2),(J j 3),(J j 4),(J j 5),bF,(J j 6),(J j 7),(J j 8),bF,(J j 9),(J j 10),(J j 11),(J j 12),(J j 13),(J j 14),(J j 15),(J j 16),(J j 17),(J j 18),(J j 19),(J j 20),(J j 21),(J j 22),(J j 23),(J j 24),(J j 25),(J j 26),(J j 27),(J j 28),(J j 29),(J j 30),(J j 31),(J j 32),(J j 33),(J j 34),(J j 35),(J j 36),(J j 37),(J j 38),uu],[.code (cd Tryz.f134 [1,1,1,1,0,0,0]),.inLoop (cd Tryz.f134 [1,1,1,1,0,0,0]),.inBlock 4,.code (cd Tryz.f134 [1,1,1,1,1])],[],.run,.normal,none⟩
noncomputable def rx_z_o(xs:List Nat)(n:Nat)(st:ByteArray):List (Nat×AObj):=(z_f73_1 xs)
noncomputable def rx_z(xs:List Nat)(n:Nat)(st:ByteArray)(j:List Value):AS:=⟨rx_z_f xs n st j,[],mkH 10 (rx_z_o xs n st)⟩
theorem rx_x(xs:List Nat)(n:Nat)(st:ByteArray)(i:Nat)(j:List Value)(hi:n≤i):GT (rx_h xs n st i j) (rx_z xs n st [(.string (bts [])),(nI i),(J j 0),(J j 1),(sl 5 n 0),(nI n),(nI i),(sl 5 n 0),(nI n),(J j 6),(J j 7),(J j 8),(J j 9),(J j 10),(J j 11),(J j 12),(J j 13),(J j 14),(J j 15),(J j 16),(J j 17),(J j 18),(J j 19),(J j 20),(J j 21),(J j 22),(J j 23),(J j 24),(J j 25),undef,undef,undef,undef,undef,undef,undef,undef,undef,undef]):=
 sR (sc:=[(6,.op (.rwB false)),(6,.stay)]) (by kernel_rfl) (aI (dF (p:=(i:Int)<(n:Int))) tt)
theorem toNat_dig{e:Nat}(h:e<10):(UInt8.ofNat (48+e)).toNat=48+e:=by
 rw[UInt8.toNat_ofNat'];omega
theorem dstr_one(a:Nat)(ds:List Nat):dstr [a]++dstr ds=dstr (a::ds):=by
 apply ByteArray.ext
 simp[ByteArray.data_append,dstr]
theorem rx_z1(xs:List Nat)(n:Nat)(ds:List Nat)(j:List Value)(h1:1<(dstr ds).size)(hm:(dstr ds).size<1099511627776)(e:Nat)(hq:e<10)(hx:(dstr ds)[0]? =some (UInt8.ofNat (48+e)))(he:e=0):GT (rx_z xs n (dstr ds) j) (rx_z xs n (dstr (ds.drop 1)) [(J j 0),(J j 1),(J j 2),(J j 3),(J j 4),(J j 5),(J j 6),(J j 7),(J j 8),(J j 9),(J j 10),(J j 11),(J j 12),(J j 13),(J j 14),(J j 15),(J j 16),(J j 17),(J j 18),(J j 19),(J j 20),(J j 21),(J j 22),(J j 23),(J j 24),(J j 25),(J j 26),(J j 27),(J j 28),(.string (dstr ds)),(nI ((dstr ds).size)),bT,bT,(.string (dstr ds)),(nB ((UInt8.ofNat (48+e)).toNat)),bT,bT,(.string (dstr ds)),(.string (dstr (ds.drop 1)))]):=
 sR (sc:=[(5,.op (.rwB true)),(2,.op (.sidx (UInt8.ofNat (48+e)))),(0,.op (.rwB true)),(7,.op (.sslc (dstr (ds.drop 1)))),(4,.stay)]) (by kernel_rfl) (aI (dT (p:=(((dstr ds).size:Nat):Int)>(1:Int))) (aI (show 0≤(0:Int)∧(dstr ds)[Int.toNat (0:Int)]? =some (UInt8.ofNat (48+e)) from⟨by omega,hx⟩) (aI (show ((((UInt8.ofNat (48+e)).toNat:Nat):Int)==(48:Int))=true from (by rw[toNat_dig hq,he];rfl)) (aI (show 0≤(1:Int)∧(1:Int)≤(((dstr ds).size:Nat):Int)∧(((dstr ds).size:Nat):Int)≤(((dstr ds).size:Nat):Int)∧(dstr ds).extract (Int.toNat (1:Int)) (Int.toNat (((dstr ds).size:Nat):Int))=(dstr (ds.drop 1)) from⟨by omega,by omega,by omega,by rw[dstr_extract,List.take_of_length_le (by have:=dstr_size ds;omega)];rfl⟩) tt))))
theorem rx_z2(xs:List Nat)(n:Nat)(ds:List Nat)(j:List Value)(h1:1<(dstr ds).size)(hm:(dstr ds).size<1099511627776)(e:Nat)(hq:e<10)(hx:(dstr ds)[0]? =some (UInt8.ofNat (48+e)))(he:e≠0)(hr:GT ⟨Frame.enter Tryz.prog 134 #[(sl 5 n 0)] .normal,[],mkH 6 (z_f73_1 xs)⟩ (rx_z xs n (dstr ds) j)):CT 134 #[(sl 5 n 0)] (mkH 6 (z_f73_1 xs)) (.string (dstr ds)) (mkH 10 (z_f73_1 xs)):=
 sF (sc:=[(5,.op (.rwB true)),(2,.op (.sidx (UInt8.ofNat (48+e)))),(0,.op (.rwB false)),(10,.stay)]) (by kernel_rfl) (aI (dT (p:=(((dstr ds).size:Nat):Int)>(1:Int))) (aI (show 0≤(0:Int)∧(dstr ds)[Int.toNat (0:Int)]? =some (UInt8.ofNat (48+e)) from⟨by omega,hx⟩) (aI (show ((((UInt8.ofNat (48+e)).toNat:Nat):Int)==(48:Int))=false from (by rw[toNat_dig hq,beq_eq_false_iff_ne];omega)) tt))) hr
theorem rx_z3(xs:List Nat)(n:Nat)(ds:List Nat)(j:List Value)(h1:(dstr ds).size≤1)(hr:GT ⟨Frame.enter Tryz.prog 134 #[(sl 5 n 0)] .normal,[],mkH 6 (z_f73_1 xs)⟩ (rx_z xs n (dstr ds) j)):CT 134 #[(sl 5 n 0)] (mkH 6 (z_f73_1 xs)) (.string (dstr ds)) (mkH 10 (z_f73_1 xs)):=
 sF (sc:=[(5,.op (.rwB false)),(14,.stay)]) (by kernel_rfl) (aI (dF (p:=(((dstr ds).size:Nat):Int)>(1:Int))) tt) hr
theorem rx_strip{xs:List Nat}{n:Nat}: ∀(k:Nat) (ds:List Nat) (j:List Value),ds.length=k→0<k→k<1099511627776→Dig ds→GT ⟨Frame.enter Tryz.prog 134 #[(sl 5 n 0)] .normal,[],mkH 6 [(5,(.cells (ns .i64 xs) 3 (some 1) false))]⟩ (rx_z xs n (dstr ds) j)→
  ∃hf,CT 134 #[(sl 5 n 0)] (mkH 6 [(5,(.cells (ns .i64 xs) 3 (some 1) false))]) (.string (dstr (digs (dval ds)))) hf∧hf.get 5=some (.cells (ns .i64 xs) 3 (some 1) false):=by
 intro k
 induction k with
 |zero=>intro ds j _ h0 _ _ _;omega
 |succ k ih=>
  intro ds j hl _ hm hd hr
  have hsz:=dstr_size ds
  match ds,hl,hd,hr,hsz with
  |e::t,hl,hd,hr,hsz=>
   have he:e<10:=hd e (by simp)
   have hlt:t.length=k:=by simpa using hl
   by_cases hk:k=0
   ·have:t=[]:=List.length_eq_zero_iff.1 (by omega)
    subst this
    have S:=rx_z3 xs n [e] j (by rw[hsz];exact Nat.le_refl _) hr
    rw[show dval [e]=e by simp[dval],digs_small he]
    exact⟨_,S,rfl⟩
   ·have hx:(dstr (e::t))[0]? =some (UInt8.ofNat (48+e)):=dstr_get (ds:=e::t) (by simp)
    have h1:1<(dstr (e::t)).size:=by rw[hsz,hl];omega
    have hm2:(dstr (e::t)).size<1099511627776:=by rw[hsz,hl];exact hm
    by_cases h0:e=0
    ·have r:=rx_z1 xs n (e::t) j h1 hm2 e he hx h0
     have:=ih t _ hlt (by omega) (by omega) (fun x hx=>hd x (by simp[hx])) (hr.trans r)
     rw[show dval (e::t)=dval t by rw[show e::t=[e]++t from rfl,dval_append,h0];simp[dval]]
     exact this
    ·have S:=rx_z2 xs n (e::t) j h1 hm2 e he hx h0 hr
     rw[(digs_dval _ (e::t) hl hd (by simpa using h0)).1]
     exact⟨_,S,rfl⟩
theorem rx_loop{xs:List Nat}{n:Nat}(hn:n≤xs.length)(hm:n<1000000000)(hlx:F.Lim xs): ∀(k i:Nat) (ds:List Nat) (j:List Value),n-i=k→i≤n→ds.length=4*i→Dig ds→dval ds=F.val (xs.take i)→GT ⟨Frame.enter Tryz.prog 134 #[(sl 5 n 0)] .normal,[],mkH 6 [(5,(.cells (ns .i64 xs) 3 (some 1) false))]⟩ (rx_h xs n (dstr ds) i j)→
  ∃ds' j',ds'.length=4*n∧Dig ds'∧dval ds'=F.val (xs.take n)∧GT ⟨Frame.enter Tryz.prog 134 #[(sl 5 n 0)] .normal,[],mkH 6 [(5,(.cells (ns .i64 xs) 3 (some 1) false))]⟩ (rx_h xs n (dstr ds') n j'):=by
 intro k
 induction k with
 |zero=>
  intro i ds j hk hi hl hd hv hr
  obtain rfl:i=n:=by omega
  exact⟨ds,j,hl,hd,hv,hr⟩
 |succ k ih=>
  intro i ds j hk hi hl hd hv hr
  have hx:=hlx.get i
  have r:=rx_r (s0:=⟨Frame.enter Tryz.prog 134 #[(sl 5 n 0)] .normal,[],mkH 6 [(5,(.cells (ns .i64 xs) 3 (some 1) false))]⟩) rfl xs n (dstr ds) i j hn hm (by omega) (by rw[dstr_size];omega) hx hr
  rw[dstr_one,dstr_one,dstr_one,dstr_one]at r
  generalize hg:xs.getD i 0=g at*
  have hv4:dval [g/10/10/10%10,g/10/10%10,g/10%10,g%10]=g:=by
   simp only[dval,List.foldl_cons,List.foldl_nil];omega
  refine ih (i+1) _ _ (by omega) (by omega) (by simp only[List.length_cons];omega) ?_ ?_ r
  ·intro x hx
   simp only[List.mem_cons]at hx
   rcases hx with h|h|h|h|h
   ·omega
   ·omega
   ·omega
   ·omega
   ·exact hd x h
  ·rw[show g/10/10/10%10::g/10/10%10::g/10%10::g%10::ds=[g/10/10/10%10,g/10/10%10,g/10%10,g%10]++ds from rfl,dval_append,hv4,hl,pow_four,hv,F.val_take_succ,hg,Nat.add_comm]
theorem rx_c(n0 b:Nat)(xs:List Nat)(n:Nat)(hb:5≤b∧b<n0)(hn:n≤xs.length)(hm:n<1000000000)(hlx:F.Lim xs):
  FT 134 #[sl b n 0] n0 [(b,.cells (ns .i64 xs) 3 (some 1) false)] (.string (dstr (digs (F.val (xs.take n))))) [(b,some (.cells (ns .i64 xs) 3 (some 1) false))] []:=by
 have key: ∃hf,CT 134 #[(sl 5 n 0)] (mkH 6 [(5,(.cells (ns .i64 xs) 3 (some 1) false))]) (.string (dstr (digs (F.val (xs.take n))))) hf∧hf.get 5=some (.cells (ns .i64 xs) 3 (some 1) false):=by
  rcases Nat.eq_zero_or_pos n with h0|h0
  ·have S:=rx_e xs n h0
   subst h0
   rw[show digs (F.val (xs.take 0))=[0] from digs_zero]
   exact⟨_,S,rfl⟩
  ·have a0:=rx_in (s0:=⟨Frame.enter Tryz.prog 134 #[(sl 5 n 0)] .normal,[],mkH 6 [(5,(.cells (ns .i64 xs) 3 (some 1) false))]⟩) rfl xs n hn hm h0 (Gets.refl _)
   obtain⟨ds,j,h1,h2,h3,h4⟩:=rx_loop hn hm hlx n 0 [] _ (by omega) (Nat.zero_le _) rfl (fun x hx=>by cases hx) rfl a0
   have a1:=h4.trans (rx_x xs n (dstr ds) n j (Nat.le_refl _))
   rw[←h3]
   exact rx_strip _ ds _ h1 (by omega) (by omega) h2 a1
 obtain⟨hf,S,hg⟩:=key
 exact fsp_flat [b] [.cells (ns .i64 xs) 3 (some 1) false] [.cells (ns .i64 xs) 3 (some 1) false] [] [] n0 S rfl (by simp[hg]) rfl (by simp) (by simp;omega) (by omega) (by simp[flat,ns_closed]) (by simp[flat,ns_closed]) rfl (by simp) (by simp) rfl rfl rfl
noncomputable section
abbrev z_de9_0(xs:List Nat):AObj:=.cells (ns .i64 xs) 3 (some 1) false
end
theorem rsg_n(xs:List Nat)(n:Nat)(hn:n≤xs.length)(hm:n<1000000000)(hlx:F.Lim xs):CT 88 #[bF,(sl 5 n 0)] (mkH 6 [(5,(z_de9_0 xs))]) (.string (dstr (digs (F.val (xs.take n))))) (mkH 6 [(5,(z_de9_0 xs))]):=
 sF (sc:=[(19,.call [5] (.string (dstr (digs (F.val (xs.take n))))) [(5,some (z_de9_0 xs))] []),(3,.stay)]) (by kernel_rfl) (aI (rx_c 6 5 xs n (by omega) hn hm hlx) tt) (Gets.refl _)
theorem rsg_m(xs:List Nat)(n:Nat)(hn:n≤xs.length)(hm:n<1000000000)(hlx:F.Lim xs)(h0:0<n)(hsz:(digs (F.val (xs.take n))).length<1099511627776):CT 88 #[bT,(sl 5 n 0)] (mkH 6 [(5,(z_de9_0 xs))]) (.string (mstr (digs (F.val (xs.take n))))) (mkH 6 [(5,(z_de9_0 xs))]):=
 sF (sc:=[(11,.op (.rwB true)),(6,.call [5] (.string (dstr (digs (F.val (xs.take n))))) [(5,some (z_de9_0 xs))] []),(0,.op (.cat (mstr (digs (F.val (xs.take n)))))),(3,.stay)]) (by kernel_rfl) (aI (dT (p:=(n:Int)>(0:Int))) (aI (rx_c 6 5 xs n (by omega) hn hm hlx) (aI (show ((((bts [45]).size+(dstr (digs (F.val (xs.take n)))).size:Nat)):Int)≤9223372036854775807∧(bts [45])++(dstr (digs (F.val (xs.take n))))=(mstr (digs (F.val (xs.take n)))) from⟨by rw[dstr_size];have:=hsz;rw[show (Seg.bts [45]).size=1 from rfl];omega,mstr_catw _⟩) tt))) (Gets.refl _)
theorem rsg_z(xs:List Nat)(n:Nat)(hn:n≤xs.length)(hm:n<1000000000)(hlx:F.Lim xs)(h0:n=0):CT 88 #[bT,(sl 5 n 0)] (mkH 6 [(5,(z_de9_0 xs))]) (.string (dstr (digs (F.val (xs.take n))))) (mkH 6 [(5,(z_de9_0 xs))]):=
 sF (sc:=[(11,.op (.rwB false)),(7,.call [5] (.string (dstr (digs (F.val (xs.take n))))) [(5,some (z_de9_0 xs))] []),(3,.stay)]) (by kernel_rfl) (aI (dF (p:=(n:Int)>(0:Int))) (aI (rx_c 6 5 xs n (by omega) hn hm hlx) tt)) (Gets.refl _)
theorem len_dig{xs:List Nat}{n:Nat}(hlx:F.Lim xs)(hn:n≤xs.length)(hm:n<1000000000):(digs (F.val (xs.take n))).length<1099511627776:=by
 have h1:=F.val_lt (hlx.take n)
 rw[List.length_take,Nat.min_eq_left hn,←pow_four]at h1
 have:=digs_len_le (k:=4*n+1) (Nat.le_trans (ndig_lt _ _ h1) (Nat.le_succ _)) (by omega)
 omega
theorem rsg_n_c(n0 b:Nat)(xs:List Nat)(n:Nat)(hb:5≤b∧b<n0)(hn:n≤xs.length)(hm:n<1000000000)(hlx:F.Lim xs):FT 88 #[.bool false,sl b n 0] n0 [(b,.cells (ns .i64 xs) 3 (some 1) false)] (.string (dstr (digs (F.val (xs.take n))))) [(b,some (.cells (ns .i64 xs) 3 (some 1) false))] []:=
 fsp_flat [b] [.cells (ns .i64 xs) 3 (some 1) false] [.cells (ns .i64 xs) 3 (some 1) false] [] [] n0 (rsg_n xs n hn hm hlx) rfl rfl rfl (by simp) (by simp;omega) (by omega) (by simp[flat,ns_closed]) (by simp[flat,ns_closed]) rfl (by simp) (by simp) rfl rfl rfl
theorem rsg_m_c(n0 b:Nat)(xs:List Nat)(n:Nat)(hb:5≤b∧b<n0)(hn:n≤xs.length)(hm:n<1000000000)(hlx:F.Lim xs)(h0:0<n):FT 88 #[.bool true,sl b n 0] n0 [(b,.cells (ns .i64 xs) 3 (some 1) false)] (.string (mstr (digs (F.val (xs.take n))))) [(b,some (.cells (ns .i64 xs) 3 (some 1) false))] []:=
 fsp_flat [b] [.cells (ns .i64 xs) 3 (some 1) false] [.cells (ns .i64 xs) 3 (some 1) false] [] [] n0 (rsg_m xs n hn hm hlx h0 (len_dig hlx hn hm)) rfl rfl rfl (by simp) (by simp;omega) (by omega) (by simp[flat,ns_closed]) (by simp[flat,ns_closed]) rfl (by simp) (by simp) rfl rfl rfl
theorem rsg_z_c(n0 b:Nat)(xs:List Nat)(n:Nat)(hb:5≤b∧b<n0)(hn:n≤xs.length)(hm:n<1000000000)(hlx:F.Lim xs)(h0:n=0):FT 88 #[.bool true,sl b n 0] n0 [(b,.cells (ns .i64 xs) 3 (some 1) false)] (.string (dstr (digs (F.val (xs.take n))))) [(b,some (.cells (ns .i64 xs) 3 (some 1) false))] []:=
 fsp_flat [b] [.cells (ns .i64 xs) 3 (some 1) false] [.cells (ns .i64 xs) 3 (some 1) false] [] [] n0 (rsg_z xs n hn hm hlx h0) rfl rfl rfl (by simp) (by simp;omega) (by omega) (by simp[flat,ns_closed]) (by simp[flat,ns_closed]) rfl (by simp) (by simp) rfl rfl rfl
theorem istr_size(z:Int):(istr z).size=(digs z.natAbs).length+(if z<0 then 1 else 0):=by
 unfold istr
 split
 ·simp[mstr,ByteArray.size]
 ·rename_i h
  rw[dstr_size,show z.toNat=z.natAbs by omega];rfl
theorem istr_size_le(z:Int):(istr z).size≤(digs z.natAbs).length+1:=by rw[istr_size];split<;>omega
theorem ab_i(z:Int)(n0:Nat)(hG:5≤n0):FT 43 #[.string (istr z)] n0 [] (.string (dstr (digs z.natAbs))) [] []:=by
 rcases int_cases z with⟨k,rfl,hm⟩|⟨k,h0,rfl,hm⟩
 ·rw[istr_nn,hm]
  exact ab_pc n0 _ hG (digs_dig _) (digs_len_pos _)
 ·rw[istr_neg h0,hm]
  exact ab_mc n0 _ hG
theorem sm_0(x y:Int)(h0:(istr x).size>10)(hx:(digs x.natAbs).length<1099511627776)(hy:(digs y.natAbs).length<1099511627776):CT 86 #[(.string (istr x)),(.string (istr y))] (mkH 5 []) (.tuple #[(lI 0),(lI 0),bF]) (mkH 5 []):=
 sF (sc:=[(11,.op (.rwB true)),(26,.stay)]) (by kernel_rfl) (aI (show decide ((((istr x).size:Nat):Int)>(10:Int))=true from (by simp only[decide_eq_true_eq,decide_eq_false_iff_not,dstr_size,gt_iff_lt]<;>omega)) tt) (Gets.refl _)
theorem sm_1(x y:Int)(h0:(istr x).size≤10)(h1:(istr y).size>10)(hx:(digs x.natAbs).length<1099511627776)(hy:(digs y.natAbs).length<1099511627776):CT 86 #[(.string (istr x)),(.string (istr y))] (mkH 5 []) (.tuple #[(lI 0),(lI 0),bF]) (mkH 5 []):=
 sF (sc:=[(11,.op (.rwB false)),(3,.op (.rwB true)),(22,.stay)]) (by kernel_rfl) (aI (show decide ((((istr x).size:Nat):Int)>(10:Int))=false from (by simp only[decide_eq_true_eq,decide_eq_false_iff_not,dstr_size,gt_iff_lt]<;>omega)) (aI (show decide ((((istr y).size:Nat):Int)>(10:Int))=true from (by simp only[decide_eq_true_eq,decide_eq_false_iff_not,dstr_size,gt_iff_lt]<;>omega)) tt)) (Gets.refl _)
theorem sm_2(x y:Int)(h0:(istr x).size≤10)(h1:(istr y).size≤10)(h2:(digs x.natAbs).length>9)(hx:(digs x.natAbs).length<1099511627776)(hy:(digs y.natAbs).length<1099511627776):CT 86 #[(.string (istr x)),(.string (istr y))] (mkH 5 []) (.tuple #[(lI 0),(lI 0),bF]) (mkH 5 []):=
 sF (sc:=[(11,.op (.rwB false)),(3,.op (.rwB false)),(3,.call [] (.string (dstr (digs x.natAbs))) [] []),(1,.op (.rwB true)),(16,.stay)]) (by kernel_rfl) (aI (show decide ((((istr x).size:Nat):Int)>(10:Int))=false from (by simp only[decide_eq_true_eq,decide_eq_false_iff_not,dstr_size,gt_iff_lt]<;>omega)) (aI (show decide ((((istr y).size:Nat):Int)>(10:Int))=false from (by simp only[decide_eq_true_eq,decide_eq_false_iff_not,dstr_size,gt_iff_lt]<;>omega)) (aI (ab_i x 5 (by omega)) (aI (show decide ((((dstr (digs x.natAbs)).size:Nat):Int)>(9:Int))=true from (by simp only[decide_eq_true_eq,decide_eq_false_iff_not,dstr_size,gt_iff_lt]<;>omega)) tt)))) (Gets.refl _)
theorem sm_3(x y:Int)(h0:(istr x).size≤10)(h1:(istr y).size≤10)(h2:(digs x.natAbs).length≤9)(h3:(digs y.natAbs).length>9)(hx:(digs x.natAbs).length<1099511627776)(hy:(digs y.natAbs).length<1099511627776):CT 86 #[(.string (istr x)),(.string (istr y))] (mkH 5 []) (.tuple #[(lI 0),(lI 0),bF]) (mkH 5 []):=
 sF (sc:=[(11,.op (.rwB false)),(3,.op (.rwB false)),(3,.call [] (.string (dstr (digs x.natAbs))) [] []),(1,.op (.rwB false)),(3,.call [] (.string (dstr (digs y.natAbs))) [] []),(1,.op (.rwB true)),(10,.stay)]) (by kernel_rfl) (aI (show decide ((((istr x).size:Nat):Int)>(10:Int))=false from (by simp only[decide_eq_true_eq,decide_eq_false_iff_not,dstr_size,gt_iff_lt]<;>omega)) (aI (show decide ((((istr y).size:Nat):Int)>(10:Int))=false from (by simp only[decide_eq_true_eq,decide_eq_false_iff_not,dstr_size,gt_iff_lt]<;>omega)) (aI (ab_i x 5 (by omega)) (aI (show decide ((((dstr (digs x.natAbs)).size:Nat):Int)>(9:Int))=false from (by simp only[decide_eq_true_eq,decide_eq_false_iff_not,dstr_size,gt_iff_lt]<;>omega)) (aI (ab_i y 5 (by omega)) (aI (show decide ((((dstr (digs y.natAbs)).size:Nat):Int)>(9:Int))=true from (by simp only[decide_eq_true_eq,decide_eq_false_iff_not,dstr_size,gt_iff_lt]<;>omega)) tt)))))) (Gets.refl _)
theorem sm_4(x y:Int)(h0:(istr x).size≤10)(h1:(istr y).size≤10)(h2:(digs x.natAbs).length≤9)(h3:(digs y.natAbs).length≤9)(hx:(digs x.natAbs).length<1099511627776)(hy:(digs y.natAbs).length<1099511627776):CT 86 #[(.string (istr x)),(.string (istr y))] (mkH 5 []) (.tuple #[(.int .i64 x),(.int .i64 y),bT]) (mkH 5 []):=
 sF (sc:=[(11,.op (.rwB false)),(3,.op (.rwB false)),(3,.call [] (.string (dstr (digs x.natAbs))) [] []),(1,.op (.rwB false)),(3,.call [] (.string (dstr (digs y.natAbs))) [] []),(1,.op (.rwB false)),(7,.call [] (.tuple #[(.int .i64 x),bT]) [] []),(9,.call [] (.tuple #[(.int .i64 y),bT]) [] []),(15,.stay)]) (by kernel_rfl) (aI (show decide ((((istr x).size:Nat):Int)>(10:Int))=false from (by simp only[decide_eq_true_eq,decide_eq_false_iff_not,dstr_size,gt_iff_lt]<;>omega)) (aI (show decide ((((istr y).size:Nat):Int)>(10:Int))=false from (by simp only[decide_eq_true_eq,decide_eq_false_iff_not,dstr_size,gt_iff_lt]<;>omega)) (aI (ab_i x 5 (by omega)) (aI (show decide ((((dstr (digs x.natAbs)).size:Nat):Int)>(9:Int))=false from (by simp only[decide_eq_true_eq,decide_eq_false_iff_not,dstr_size,gt_iff_lt]<;>omega)) (aI (ab_i y 5 (by omega)) (aI (show decide ((((dstr (digs y.natAbs)).size:Nat):Int)>(9:Int))=false from (by simp only[decide_eq_true_eq,decide_eq_false_iff_not,dstr_size,gt_iff_lt]<;>omega)) (aI (ti_i x 5 (by omega) (by omega)) (aI (ti_i y 5 (by omega) (by omega)) tt)))))))) (Gets.refl _)
theorem sm_t(x y:Int)(n0:Nat)(hG:5≤n0)(hx:(digs x.natAbs).length≤9)(hy:(digs y.natAbs).length≤9):FT 86 #[.string (istr x),.string (istr y)] n0 [] (.tuple #[.int .i64 x,.int .i64 y,.bool true]) [] []:=
 have h1:=istr_size_le x
 have h2:=istr_size_le y
 fsp_flat [] [] [] [] [] n0 (sm_4 x y (by omega) (by omega) hx hy (by omega) (by omega)) rfl rfl rfl (by simp) (by simp) hG rfl rfl rfl (by simp) (by simp) rfl rfl rfl
theorem sm_f(x y:Int)(n0:Nat)(hG:5≤n0)(h: ¬((digs x.natAbs).length≤9∧(digs y.natAbs).length≤9))(hx:(digs x.natAbs).length<1099511627776)(hy:(digs y.natAbs).length<1099511627776):FT 86 #[.string (istr x),.string (istr y)] n0 [] (.tuple #[.int .i64 0,.int .i64 0,.bool false]) [] []:=by
 by_cases h0:(istr x).size≤10
 ·by_cases h1:(istr y).size≤10
  ·by_cases h2:(digs x.natAbs).length≤9
   ·have h3:(digs y.natAbs).length>9:=by omega
    exact fsp_flat [] [] [] [] [] n0 (sm_3 x y h0 h1 h2 h3 hx hy) rfl rfl rfl (by simp) (by simp) hG rfl rfl rfl (by simp) (by simp) rfl rfl rfl
   ·exact fsp_flat [] [] [] [] [] n0 (sm_2 x y h0 h1 (by omega) hx hy) rfl rfl rfl (by simp) (by simp) hG rfl rfl rfl (by simp) (by simp) rfl rfl rfl
  ·exact fsp_flat [] [] [] [] [] n0 (sm_1 x y h0 (by omega) hx hy) rfl rfl rfl (by simp) (by simp) hG rfl rfl rfl (by simp) (by simp) rfl rfl rfl
 ·exact fsp_flat [] [] [] [] [] n0 (sm_0 x y (by omega) hx hy) rfl rfl rfl (by simp) (by simp) hG rfl rfl rfl (by simp) (by simp) rfl rfl rfl
end Go.Proofs.YtldoiilgfcpipaaGreatDoor
