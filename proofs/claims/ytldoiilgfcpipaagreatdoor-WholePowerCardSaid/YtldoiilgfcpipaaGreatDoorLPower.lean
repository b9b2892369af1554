import Derived.Test.YtldoiilgfcpipaaGreatDoorPCnt
import Derived.Test.YtldoiilgfcpipaaGreatDoorPCmp
import Derived.Test.YtldoiilgfcpipaaGreatDoorPWPowMod
import Derived.Test.YtldoiilgfcpipaaGreatDoorPWholeN
import Derived.Test.YtldoiilgfcpipaaGreatDoorPTurn
import Derived.Test.YtldoiilgfcpipaaGreatDoorPRPlusN
import Derived.Test.YtldoiilgfcpipaaGreatDoorPROver
set_option linter.unusedVariables false
set_option linter.unusedSimpArgs false
set_option maxRecDepth 100000
namespace Go.Proofs.YtldoiilgfcpipaaGreatDoor
open Go Go.AE Seg
noncomputable section
abbrev Rp(z1:Int):Value:=.string (Ad (((z1.natAbs:Nat):Int)+1))
abbrev Ka(o:Nat)(zs:List Int):AObj:=.win o (zs.map (Value.int .i64))
abbrev Wj(z1:Int):Value:=.string (Ad ((z1.natAbs:Nat):Int))
abbrev Ko(o c0 c:Nat):Value:=sw 5 o c0 c
end
theorem istr_one6:Ad 1=bts [49]:=by kernel_rfl
theorem pbnd{x k E:Nat}(hx:x≤10^6)(h:6*k<E):x^k<10^E:=by
 have h1:x^k≤(10^6)^k:=Nat.pow_le_pow_left hx k
 rw[←Nat.pow_mul]at h1
 exact Nat.lt_of_le_of_lt h1 (Nat.pow_lt_pow_right de h)
theorem pdig{k:Nat}{z:Int}(hx:z.natAbs≤10^6)(h:k≤50):(Ae (z^k).natAbs).length≤400:=by
 rw[Int.natAbs_pow]
 exact Ej (Es 400 _ (pbnd (E:=400) hx om)) de
theorem flR_emod{a b:Int}(h:0<b):Xh a b=a%b:=by
 have h1:=fl_eq a b
 have h2:=flR_pos h (a:=a)
 have h3:=flR_abs (a:=a) (b:=b) om
 have h4:a%b=Xh a b%b:=by
  conv=>lhs;rw[←h1]
  rw[Int.add_comm,Int.add_mul_emod_self_right]
 rw[h4,Int.emod_eq_of_lt h2 om]
theorem pow_em(a b:Int): ∀n:Nat,a^n%b=(a%b)^n%b
 |0=>by simp
 |n+1=>by
  rw[Int.pow_succ,Int.pow_succ,Int.mul_emod,pow_em a b n,Int.mul_emod ((a%b)^n) (a%b),Int.emod_emod_of_dvd _ (Int.dvd_refl b)]
theorem flR_pw{a b:Int}{n:Nat}(h:0<b):Xh (a^n) b=(((Xh a b).natAbs^n%b.natAbs:Nat):Int):=by
 have h2:=flR_pos h (a:=a)
 rw[flR_emod h (a:=a^n),pow_em,←flR_emod h (a:=a),Int.natCast_emod,Int.natCast_pow,Int.natAbs_of_nonneg h2,Int.natAbs_of_nonneg om]
theorem pl_n6(a n0:Nat)(hG:5≤n0)(ha:(Ae a).length≤100000000):FT 40 #[.string (Ad ((a:Nat):Int)),.string (bts [49])] n0 [] (.string (Ad (((a:Nat):Int)+1))) [] []:=by
 have h:=pl_i ((a:Nat):Int) 1 n0 hG (by rw[Int.natAbs_natCast];exact ha) (by rw[show (1:Int).natAbs=1 from rfl,Ch de];decide)
 rw[istr_one6]at h
 exact h
theorem ab_n6(z:Int)(n0:Nat)(hG:5≤n0):FT 43 #[.string (Ad z)] n0 [] (.string (Ad ((z.natAbs:Nat):Int))) [] []:=by
 rw[Df]
 exact Gq z n0 hG
theorem lpa_o(zs:List Int)(o c0 c:Nat)(z0:Int)(i0 u0:Nat)(hc1:(FT 17 #[(pt 6),(lI 6)] 7 [(6,(.cells [(Ko o c0 c),(lI 0),(lU 7640891576956012809)] 62 none false)),(5,(Ka o zs))] (.string (Ad z0)) [(6,some (.cells [(Ko o c0 c),(nI i0),(nU u0)] 62 none false)),(5,some (Ka o zs))] []))(v0 r0:Nat)(hr0:r0≤25)(hc3:(FT 47 #[(pt 6),(lI 25)] 7 [(6,(.cells [(Ko o c0 c),(nI i0),(nU u0)] 62 none false)),(5,(Ka o zs))] (nI r0) [(6,some (.cells [(Ko o c0 c),(nI (i0+1)),(nU v0)] 62 none false)),(5,some (Ka o zs))] []))(v1 r1:Nat)(hr1:r1≤25)(hc5:(FT 47 #[(pt 6),(lI 25)] 7 [(6,(.cells [(Ko o c0 c),(nI (i0+1)),(nU v0)] 62 none false)),(5,(Ka o zs))] (nI r1) [(6,some (.cells [(Ko o c0 c),(nI ((i0+1)+1)),(nU v1)] 62 none false)),(5,some (Ka o zs))] []))(hc6:(FT 48 #[(.string (Ad z0)),(nI r0)] 7 [(1,gob1)] (.tuple #[(.string (Ad (z0^r0))),(lI 0)]) [(1,some gob1)] []))(hc7:(FT 48 #[(.string (Ad z0)),(nI r1)] 7 [(1,gob1)] (.tuple #[(.string (Ad (z0^r1))),(lI 0)]) [(1,some gob1)] []))(hc8:(FT 48 #[(.string (Ad z0)),(nI (r0+r1))] 7 [(1,gob1)] (.tuple #[(.string (Ad (z0^(r0+r1)))),(lI 0)]) [(1,some gob1)] []))(hc9:(FT 74 #[(.string (Ad (z0^r0)))] 7 [] (lI 0) [] []))(hc10:(FT 74 #[(.string (Ad (z0^r1)))] 7 [] (lI 0) [] []))(hc11:(FT 41 #[(.string (Ad (z0^r0))),(.string (Ad (z0^r1)))] 7 [] (.string (Ad (z0^r0*z0^r1))) [] []))(z1:Int)(i1 u1:Nat)(hc13:(FT 17 #[(pt 6),(lI 8)] 7 [(6,(.cells [(Ko o c0 c),(nI ((i0+1)+1)),(nU v1)] 62 none false)),(5,(Ka o zs))] (.string (Ad z1)) [(6,some (.cells [(Ko o c0 c),(nI i1),(nU u1)] 62 none false)),(5,some (Ka o zs))] []))(hc14:(FT 43 #[(.string (Ad z1))] 7 [] (Wj z1) [] []))(hc15:(FT 40 #[(Wj z1),(.string (bts [49]))] 7 [] (Rp z1) [] []))(hc16:(FT 30 #[(nI r0)] 7 [] (.string (Ad (r0:Int))) [] []))(wp:ByteArray)(hc18:(FT 49 #[(.string (Ad z0)),(.string (Ad (r0:Int))),(Rp z1)] 7 [(1,gob1)] (.tuple #[(.string wp),(lI 0)]) [(1,some gob1)] []))(wq:ByteArray)(hc20:(FT 50 #[(.string (Ad (z0^r0))),(Rp z1)] 7 [] (.tuple #[(.string wq),(.string wp)]) [] [])):CT 11 #[(Ko o c0 c)] (Ag 6 [(0,Cn.gob0),(1,gob1),(2,Cn.gob2),(3,Cn.gob3),(5,(Ka o zs))]) bT (Ag 7 [(0,Cn.gob0),(1,gob1),(2,Cn.gob2),(3,Cn.gob3),(5,(Ka o zs))]):=
 sF (sc:=[(26,.call [6,5] (.string (Ad z0)) [(6,some (.cells [(Ko o c0 c),(nI i0),(nU u0)] 62 none false)),(5,some (Ka o zs))] []),(1,.call [6,5] (nI r0) [(6,some (.cells [(Ko o c0 c),(nI (i0+1)),(nU v0)] 62 none false)),(5,some (Ka o zs))] []),(1,.call [6,5] (nI r1) [(6,some (.cells [(Ko o c0 c),(nI ((i0+1)+1)),(nU v1)] 62 none false)),(5,some (Ka o zs))] []),(8,.call [1] (.tuple #[(.string (Ad (z0^r0))),(lI 0)]) [(1,some gob1)] []),(10,.call [1] (.tuple #[(.string (Ad (z0^r1))),(lI 0)]) [(1,some gob1)] []),(11,.op (.rwI (((r0+r1):Nat):Int))),(0,.call [1] (.tuple #[(.string (Ad (z0^(r0+r1)))),(lI 0)]) [(1,some gob1)] []),(29,.call [] (lI 0) [] []),(17,.call [] (lI 0) [] []),(10,.call [] (.string (Ad (z0^r0*z0^r1))) [] []),(1,.op (.rwB false)),(7,.call [6,5] (.string (Ad z1)) [(6,some (.cells [(Ko o c0 c),(nI i1),(nU u1)] 62 none false)),(5,some (Ka o zs))] []),(0,.call [] (Wj z1) [] []),(0,.call [] (Rp z1) [] []),(6,.call [] (.string (Ad (r0:Int))) [] []),(1,.call [1] (.tuple #[(.string wp),(lI 0)]) [(1,some gob1)] []),(10,.call [] (.tuple #[(.string wq),(.string wp)]) [] []),(13,.op (.rwB true)),(2,.call [0,1,2,3] bT [(0,some Cn.gob0),(1,some gob1),(2,some Cn.gob2),(3,some Cn.gob3)] []),(4,.stay)]) kr (aI hc1 (aI hc3 (aI hc5 (aI hc6 (aI hc7 (aI (Ao (a:=((r0:Int)+(r1:Int))) (r:=(((r0+r1):Nat):Int))) (aI hc8 (aI hc9 (aI hc10 (aI hc11 (aI (show (!((Ad (z0^r0*z0^r1)).toList==(Ad (z0^(r0+r1))).toList))=false from (by rw[←Int.pow_add,beq_self_eq_true];rfl)) (aI hc13 (aI hc14 (aI hc15 (aI hc16 (aI hc18 (aI hc20 (aI (show (wp.toList==wp.toList)=true from (beq_self_eq_true _)) (aI (counted_c 7) tt))))))))))))))))))) (Gets.refl _)
theorem wholePower_a(zs:List Int)(o c0 c:Nat)(hnz:c0≤zs.length):CT 11 #[(sw 5 o c0 c)] (Ag 6 [(0,Cn.gob0),(1,gob1),(2,Cn.gob2),(3,Cn.gob3),(5,(.win o (zs.map (Value.int .i64))))]) bT (Ag 7 [(0,Cn.gob0),(1,gob1),(2,Cn.gob2),(3,Cn.gob3),(5,(.win o (zs.map (Value.int .i64))))]):=by
 obtain⟨z0,i0,u0,hz0,hi0,T1⟩:=whole_c 7 6 5 zs o c0 c 0 7640891576956012809 6 om hnz om om om
 obtain⟨v0,r0,hr0,T2⟩:=up_c 7 6 5 zs o c0 c i0 u0 25 om hnz om om
 obtain⟨v1,r1,hr1,T3⟩:=up_c 7 6 5 zs o c0 c (i0+1) v0 25 om hnz om om
 obtain⟨z1,i1,u1,hz1,hi1,T4⟩:=whole_c 7 6 5 zs o c0 c (i0+1+1) v1 8 om hnz om om om
 have hx:=Nat.le_of_lt (Da hz0)
 have hM8:=Da hz1
 have hMa:(((z1.natAbs:Nat):Int)+1).natAbs=z1.natAbs+1:=by omega
 have hMd:(Ae (((z1.natAbs:Nat):Int)+1).natAbs).length≤18:=by rw[hMa];exact Ej (Es 18 _ (by have:(10:Nat)^8<10^18:=Nat.pow_lt_pow_right de de;omega)) de
 have P0:=Pow_i 7 r0 z0 de om om (pbnd (E:=207) hx om) (pbnd (E:=400) hx om)
 have P1:=Pow_i 7 r1 z0 de om om (pbnd (E:=207) hx om) (pbnd (E:=400) hx om)
 have P2:=Pow_i 7 (r0+r1) z0 de om om (pbnd (E:=207) hx om) (pbnd (E:=400) hx om)
 have D0:=pdig (k:=r0) (z:=z0) hx om
 have D1:=pdig (k:=r1) (z:=z0) hx om
 have F:=fo_i2 (z0^r0) (((z1.natAbs:Nat):Int)+1) om 7 de om om
 rw[flR_pw om]at F
 exact lpa_o zs o c0 c z0 i0 u0 T1 v0 r0 hr0 T2 v1 r1 hr1 T3 P0 P1 P2 (ck_i _ 7 de D0) (ck_i _ 7 de D1) (tn_i _ _ 7 de om om) z1 i1 u1 T4 (ab_n6 z1 7 de) (pl_n6 z1.natAbs 7 de om) (de_c r0 7 de om) _ (PowMod_i 7 r0 z0 (((z1.natAbs:Nat):Int)+1) de om hMd om om) _ F
theorem lpn_o(z0:Int)(i0 u0:Nat)(hc1:(FT 17 #[(pt 5),(lI 6)] 6 [(5,(.cells [nS,(lI 0),(lU 7640891576956012809)] 62 none false))] (.string (Ad z0)) [(5,some (.cells [nS,(nI i0),(nU u0)] 62 none false))] []))(v0 r0:Nat)(hr0:r0≤25)(hc3:(FT 47 #[(pt 5),(lI 25)] 6 [(5,(.cells [nS,(nI i0),(nU u0)] 62 none false))] (nI r0) [(5,some (.cells [nS,(nI (i0+1)),(nU v0)] 62 none false))] []))(v1 r1:Nat)(hr1:r1≤25)(hc5:(FT 47 #[(pt 5),(lI 25)] 6 [(5,(.cells [nS,(nI (i0+1)),(nU v0)] 62 none false))] (nI r1) [(5,some (.cells [nS,(nI ((i0+1)+1)),(nU v1)] 62 none false))] []))(hc6:(FT 48 #[(.string (Ad z0)),(nI r0)] 6 [(1,gob1)] (.tuple #[(.string (Ad (z0^r0))),(lI 0)]) [(1,some gob1)] []))(hc7:(FT 48 #[(.string (Ad z0)),(nI r1)] 6 [(1,gob1)] (.tuple #[(.string (Ad (z0^r1))),(lI 0)]) [(1,some gob1)] []))(hc8:(FT 48 #[(.string (Ad z0)),(nI (r0+r1))] 6 [(1,gob1)] (.tuple #[(.string (Ad (z0^(r0+r1)))),(lI 0)]) [(1,some gob1)] []))(hc9:(FT 74 #[(.string (Ad (z0^r0)))] 6 [] (lI 0) [] []))(hc10:(FT 74 #[(.string (Ad (z0^r1)))] 6 [] (lI 0) [] []))(hc11:(FT 41 #[(.string (Ad (z0^r0))),(.string (Ad (z0^r1)))] 6 [] (.string (Ad (z0^r0*z0^r1))) [] []))(z1:Int)(i1 u1:Nat)(hc13:(FT 17 #[(pt 5),(lI 8)] 6 [(5,(.cells [nS,(nI ((i0+1)+1)),(nU v1)] 62 none false))] (.string (Ad z1)) [(5,some (.cells [nS,(nI i1),(nU u1)] 62 none false))] []))(hc14:(FT 43 #[(.string (Ad z1))] 6 [] (Wj z1) [] []))(hc15:(FT 40 #[(Wj z1),(.string (bts [49]))] 6 [] (Rp z1) [] []))(hc16:(FT 30 #[(nI r0)] 6 [] (.string (Ad (r0:Int))) [] []))(wp:ByteArray)(hc18:(FT 49 #[(.string (Ad z0)),(.string (Ad (r0:Int))),(Rp z1)] 6 [(1,gob1)] (.tuple #[(.string wp),(lI 0)]) [(1,some gob1)] []))(wq:ByteArray)(hc20:(FT 50 #[(.string (Ad (z0^r0))),(Rp z1)] 6 [] (.tuple #[(.string wq),(.string wp)]) [] [])):CT 11 #[nS] (Ag 5 [(0,Cn.gob0),(1,gob1),(2,Cn.gob2),(3,Cn.gob3)]) bT (Ag 6 [(0,Cn.gob0),(1,gob1),(2,Cn.gob2),(3,Cn.gob3)]):=
 sF (sc:=[(26,.call [5] (.string (Ad z0)) [(5,some (.cells [nS,(nI i0),(nU u0)] 62 none false))] []),(1,.call [5] (nI r0) [(5,some (.cells [nS,(nI (i0+1)),(nU v0)] 62 none false))] []),(1,.call [5] (nI r1) [(5,some (.cells [nS,(nI ((i0+1)+1)),(nU v1)] 62 none false))] []),(8,.call [1] (.tuple #[(.string (Ad (z0^r0))),(lI 0)]) [(1,some gob1)] []),(10,.call [1] (.tuple #[(.string (Ad (z0^r1))),(lI 0)]) [(1,some gob1)] []),(11,.op (.rwI (((r0+r1):Nat):Int))),(0,.call [1] (.tuple #[(.string (Ad (z0^(r0+r1)))),(lI 0)]) [(1,some gob1)] []),(29,.call [] (lI 0) [] []),(17,.call [] (lI 0) [] []),(10,.call [] (.string (Ad (z0^r0*z0^r1))) [] []),(1,.op (.rwB false)),(7,.call [5] (.string (Ad z1)) [(5,some (.cells [nS,(nI i1),(nU u1)] 62 none false))] []),(0,.call [] (Wj z1) [] []),(0,.call [] (Rp z1) [] []),(6,.call [] (.string (Ad (r0:Int))) [] []),(1,.call [1] (.tuple #[(.string wp),(lI 0)]) [(1,some gob1)] []),(10,.call [] (.tuple #[(.string wq),(.string wp)]) [] []),(13,.op (.rwB true)),(2,.call [0,1,2,3] bT [(0,some Cn.gob0),(1,some gob1),(2,some Cn.gob2),(3,some Cn.gob3)] []),(4,.stay)]) kr (aI hc1 (aI hc3 (aI hc5 (aI hc6 (aI hc7 (aI (Ao (a:=((r0:Int)+(r1:Int))) (r:=(((r0+r1):Nat):Int))) (aI hc8 (aI hc9 (aI hc10 (aI hc11 (aI (show (!((Ad (z0^r0*z0^r1)).toList==(Ad (z0^(r0+r1))).toList))=false from (by rw[←Int.pow_add,beq_self_eq_true];rfl)) (aI hc13 (aI hc14 (aI hc15 (aI hc16 (aI hc18 (aI hc20 (aI (show (wp.toList==wp.toList)=true from (beq_self_eq_true _)) (aI (counted_c 6) tt))))))))))))))))))) (Gets.refl _)
theorem wholePower_n:CT 11 #[nS] (Ag 5 [(0,Cn.gob0),(1,gob1),(2,Cn.gob2),(3,Cn.gob3)]) bT (Ag 6 [(0,Cn.gob0),(1,gob1),(2,Cn.gob2),(3,Cn.gob3)]):=by
 obtain⟨z0,i0,u0,hz0,hi0,T1⟩:=wholen_c 6 5 0 7640891576956012809 6 om om om om
 obtain⟨v0,r0,hr0,T2⟩:=upn_c 6 5 i0 u0 25 om om om
 obtain⟨v1,r1,hr1,T3⟩:=upn_c 6 5 (i0+1) v0 25 om om om
 obtain⟨z1,i1,u1,hz1,hi1,T4⟩:=wholen_c 6 5 (i0+1+1) v1 8 om om om om
 have hx:=Nat.le_of_lt (Da hz0)
 have hM8:=Da hz1
 have hMa:(((z1.natAbs:Nat):Int)+1).natAbs=z1.natAbs+1:=by omega
 have hMd:(Ae (((z1.natAbs:Nat):Int)+1).natAbs).length≤18:=by rw[hMa];exact Ej (Es 18 _ (by have:(10:Nat)^8<10^18:=Nat.pow_lt_pow_right de de;omega)) de
 have P0:=Pow_i 6 r0 z0 de om om (pbnd (E:=207) hx om) (pbnd (E:=400) hx om)
 have P1:=Pow_i 6 r1 z0 de om om (pbnd (E:=207) hx om) (pbnd (E:=400) hx om)
 have P2:=Pow_i 6 (r0+r1) z0 de om om (pbnd (E:=207) hx om) (pbnd (E:=400) hx om)
 have D0:=pdig (k:=r0) (z:=z0) hx om
 have D1:=pdig (k:=r1) (z:=z0) hx om
 have F:=fo_i2 (z0^r0) (((z1.natAbs:Nat):Int)+1) om 6 de om om
 rw[flR_pw om]at F
 exact lpn_o z0 i0 u0 T1 v0 r0 hr0 T2 v1 r1 hr1 T3 P0 P1 P2 (ck_i _ 6 de D0) (ck_i _ 6 de D1) (tn_i _ _ 6 de om om) z1 i1 u1 T4 (ab_n6 z1 6 de) (pl_n6 z1.natAbs 6 de om) (de_c r0 6 de om) _ (PowMod_i 6 r0 z0 (((z1.natAbs:Nat):Int)+1) de om hMd om om) _ F
end Go.Proofs.YtldoiilgfcpipaaGreatDoor
