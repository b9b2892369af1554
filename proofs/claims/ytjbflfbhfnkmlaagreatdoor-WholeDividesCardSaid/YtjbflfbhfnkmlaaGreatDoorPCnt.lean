import Derived.Test.YtjbflfbhfnkmlaaGreatDoorK
import Derived.Test.YtjbflfbhfnkmlaaGreatDoorLE
import Derived.Test.YtjbflfbhfnkmlaaGreatDoorAl
import Derived.Test.YtjbflfbhfnkmlaaGreatDoorPWf
import Derived.Test.YtjbflfbhfnkmlaaGreatDoorWDiv
import Derived.Test.YtjbflfbhfnkmlaaGreatDoorLF
set_option linter.unusedVariables false
set_option linter.unusedSimpArgs false
set_option maxRecDepth 100000
namespace Go.Proofs.YtjbflfbhfnkmlaaGreatDoor
open Go Go.AE Seg
theorem gob1_eq:Cn.gob1=gob1:=by kernel_rfl
theorem gl_eq:Cn.gl=[(0,Cn.gob0),(1,gob1),(2,Cn.gob2),(3,Cn.gob3)]:=by rw[←gob1_eq];rfl
theorem Np(n:Nat):FT 15 #[] n [(0,Cn.gob0),(1,gob1),(2,Cn.gob2),(3,Cn.gob3)] bT [(0,some Cn.gob0),(1,some gob1),(2,some Cn.gob2),(3,some Cn.gob3)] []:=by
 have h:=Bt Cn.tell0 Cn.glOK (by kernel_rfl) (by kernel_rfl) n
 rw[gl_eq]at h
 exact h
end Go.Proofs.YtjbflfbhfnkmlaaGreatDoor
set_option maxRecDepth 100000
namespace Go.Proofs.YtjbflfbhfnkmlaaGreatDoor.Cn
open Go Go.AE Cn.Seg
noncomputable def ce1(k:Int):AS:=⟨Frame.enter Tryz.prog 106 #[.iface 159 (.agg #[.int .i64 k])] .normal,[],h0⟩
theorem ce_run(k:Int):((iter stp0 1000 (ce1 k)).bind fun s=>(Ue Tryz.prog s).map fun r=>(r.1,Nat.beq s.fr.fn 106))=some (.int .i64 k,true):=by kernel_rfl
theorem tellE(k:Int):TellG Tryz.prog 5 gl 106 #[.iface 159 (.agg #[.int .i64 k])] (.int .i64 k):=by
 obtain⟨s,h1,h2⟩:=Option.bind_eq_some_iff.1 (ce_run k)
 obtain⟨⟨v,h⟩,h3,h4⟩:=Option.map_eq_some_iff.1 h2
 simp only[Prod.mk.injEq]at h4
 obtain⟨h4,h5⟩:=h4
 refine Yh (h':=s.h) (by kernel_rfl) (by kernel_rfl) (fun ρ w cs0 H=> ?_) (by rw[h3];exact congrArg some h4) h5 rfl
 have S:StepTo Tryz.prog 5 ρ (ce1 k) (ce1 k) (Frame.enter Tryz.prog 106 #[.iface 159 (.agg #[.int .i64 k])] .normal) [] cs0 w:=start_ok H (Ch _ _ (by kernel_rfl))
 obtain⟨ρ1,fa,ca,wa,H1,E1,S1⟩:=S
 obtain⟨ρ2,fb,cb,wb,H2,E2,S2⟩:=Yq (cs0:=cs0) Na 1000 H1 h1
 exact⟨ρ2,fb,cb,wb,H2,E1.trans E2,S1.trans S2⟩
end Go.Proofs.YtjbflfbhfnkmlaaGreatDoor.Cn
set_option maxRecDepth 100000
namespace Go.Proofs.YtjbflfbhfnkmlaaGreatDoor
open Go Go.AE Seg
theorem Kf(k:Int)(n:Nat):FT 106 #[.iface 159 (.agg #[.int .i64 k])] n [(0,Cn.gob0),(1,gob1),(2,Cn.gob2),(3,Cn.gob3)] (.int .i64 k) [(0,some Cn.gob0),(1,some gob1),(2,some Cn.gob2),(3,some Cn.gob3)] []:=by
 have h:=Bt (Cn.tellE k) Cn.glOK (by kernel_rfl) (by kernel_rfl) n
 rw[gl_eq]at h
 exact h
theorem By{P:Program}{G:Nat}{gl:List (Nat×AObj)}{f:FuncId}{args:Array Value}{v:Value}{h':AH}(ha:Df args=true)(hv:Aj v=true)(S:CSp P G f args (Ac G gl) v h'):TellG P G gl f args v:=by
 intro ρ w H
 refine (S ρ w args H (Ch ρ args ha)).mono ?_
 rintro e w' ⟨ρ',v',rfl,h1,h2,h3⟩
 rw[Co ρ' _ hv]at h3
 cases h3
 exact⟨ρ',_,rfl,h1,h2⟩
theorem Mv:GlOK 5 [(0,Cn.gob0),(1,gob1),(2,Cn.gob2),(3,Cn.gob3)]:=by
 have h:=Cn.glOK
 rw[gl_eq]at h
 exact h
theorem qe0(s t:ByteArray)(hks: ∀n0,5≤n0→FT 145 #[.string s] n0 [] (lI 0) [] []):CT 20 #[(.string s),(.string t)] (Ac 5 [(0,Cn.gob0),(1,gob1),(2,Cn.gob2),(3,Cn.gob3)]) (.tuple #[(.string (bts [])),(.string (bts [])),(lI 1)]) (Ac 13 [(0,Cn.gob0),(1,gob1),(2,Cn.gob2),(3,Cn.gob3)]):=
 sF (sc:=[(80,.call [] (lI 0) [] []),(39,.call [0,1,2,3] (lI 1) [(0,some Cn.gob0),(1,some gob1),(2,some Cn.gob2),(3,some Cn.gob3)] []),(13,.drw []),(1,.stay)]) (by kernel_rfl) (aI (hks 12 (by omega)) (aI (Kf 1 12) (aI (aI tt (aI tt (aI tt (aI tt (aI tt (aI tt (aI tt (aI tt tt)))))))) tt))) (Gets.refl _)
theorem qe0c(n0:Nat)(s t:ByteArray)(hks: ∀n0,5≤n0→FT 145 #[.string s] n0 [] (lI 0) [] []):FT 20 #[(.string s),(.string t)] n0 [(0,Cn.gob0),(1,gob1),(2,Cn.gob2),(3,Cn.gob3)] (.tuple #[(.string (bts [])),(.string (bts [])),(lI 1)]) [(0,some Cn.gob0),(1,some gob1),(2,some Cn.gob2),(3,some Cn.gob3)] []:=by
 have h:=Bt (By (by kernel_rfl) (by kernel_rfl) (qe0 s t hks)) Mv (by kernel_rfl) (by kernel_rfl) n0
 exact h
theorem qe1(s t:ByteArray)(hks: ∀n0,5≤n0→FT 145 #[.string s] n0 [] (lI 1) [] []):CT 20 #[(.string s),(.string t)] (Ac 5 [(0,Cn.gob0),(1,gob1),(2,Cn.gob2),(3,Cn.gob3)]) (.tuple #[(.string (bts [])),(.string (bts [])),(lI 13)]) (Ac 13 [(0,Cn.gob0),(1,gob1),(2,Cn.gob2),(3,Cn.gob3)]):=
 sF (sc:=[(80,.call [] (lI 1) [] []),(45,.call [0,1,2,3] (lI 13) [(0,some Cn.gob0),(1,some gob1),(2,some Cn.gob2),(3,some Cn.gob3)] []),(13,.drw []),(1,.stay)]) (by kernel_rfl) (aI (hks 12 (by omega)) (aI (Kf 13 12) (aI (aI tt (aI tt (aI tt (aI tt (aI tt (aI tt (aI tt (aI tt tt)))))))) tt))) (Gets.refl _)
theorem qe1c(n0:Nat)(s t:ByteArray)(hks: ∀n0,5≤n0→FT 145 #[.string s] n0 [] (lI 1) [] []):FT 20 #[(.string s),(.string t)] n0 [(0,Cn.gob0),(1,gob1),(2,Cn.gob2),(3,Cn.gob3)] (.tuple #[(.string (bts [])),(.string (bts [])),(lI 13)]) [(0,some Cn.gob0),(1,some gob1),(2,some Cn.gob2),(3,some Cn.gob3)] []:=by
 have h:=Bt (By (by kernel_rfl) (by kernel_rfl) (qe1 s t hks)) Mv (by kernel_rfl) (by kernel_rfl) n0
 exact h
theorem qe20(s t:ByteArray)(hks: ∀n0,5≤n0→FT 145 #[.string s] n0 [] (lI 2) [] [])(hkt: ∀n0,5≤n0→FT 145 #[.string t] n0 [] (lI 0) [] []):CT 20 #[(.string s),(.string t)] (Ac 5 [(0,Cn.gob0),(1,gob1),(2,Cn.gob2),(3,Cn.gob3)]) (.tuple #[(.string (bts [])),(.string (bts [])),(lI 1)]) (Ac 13 [(0,Cn.gob0),(1,gob1),(2,Cn.gob2),(3,Cn.gob3)]):=
 sF (sc:=[(80,.call [] (lI 2) [] []),(52,.call [] (lI 0) [] []),(39,.call [0,1,2,3] (lI 1) [(0,some Cn.gob0),(1,some gob1),(2,some Cn.gob2),(3,some Cn.gob3)] []),(13,.drw []),(1,.stay)]) (by kernel_rfl) (aI (hks 12 (by omega)) (aI (hkt 12 (by omega)) (aI (Kf 1 12) (aI (aI tt (aI tt (aI tt (aI tt (aI tt (aI tt (aI tt (aI tt tt)))))))) tt)))) (Gets.refl _)
theorem qe20c(n0:Nat)(s t:ByteArray)(hks: ∀n0,5≤n0→FT 145 #[.string s] n0 [] (lI 2) [] [])(hkt: ∀n0,5≤n0→FT 145 #[.string t] n0 [] (lI 0) [] []):FT 20 #[(.string s),(.string t)] n0 [(0,Cn.gob0),(1,gob1),(2,Cn.gob2),(3,Cn.gob3)] (.tuple #[(.string (bts [])),(.string (bts [])),(lI 1)]) [(0,some Cn.gob0),(1,some gob1),(2,some Cn.gob2),(3,some Cn.gob3)] []:=by
 have h:=Bt (By (by kernel_rfl) (by kernel_rfl) (qe20 s t hks hkt)) Mv (by kernel_rfl) (by kernel_rfl) n0
 exact h
theorem qe30(s t:ByteArray)(hks: ∀n0,5≤n0→FT 145 #[.string s] n0 [] (lI 3) [] [])(hkt: ∀n0,5≤n0→FT 145 #[.string t] n0 [] (lI 0) [] []):CT 20 #[(.string s),(.string t)] (Ac 5 [(0,Cn.gob0),(1,gob1),(2,Cn.gob2),(3,Cn.gob3)]) (.tuple #[(.string (bts [])),(.string (bts [])),(lI 1)]) (Ac 13 [(0,Cn.gob0),(1,gob1),(2,Cn.gob2),(3,Cn.gob3)]):=
 sF (sc:=[(80,.call [] (lI 3) [] []),(52,.call [] (lI 0) [] []),(39,.call [0,1,2,3] (lI 1) [(0,some Cn.gob0),(1,some gob1),(2,some Cn.gob2),(3,some Cn.gob3)] []),(13,.drw []),(1,.stay)]) (by kernel_rfl) (aI (hks 12 (by omega)) (aI (hkt 12 (by omega)) (aI (Kf 1 12) (aI (aI tt (aI tt (aI tt (aI tt (aI tt (aI tt (aI tt (aI tt tt)))))))) tt)))) (Gets.refl _)
theorem qe30c(n0:Nat)(s t:ByteArray)(hks: ∀n0,5≤n0→FT 145 #[.string s] n0 [] (lI 3) [] [])(hkt: ∀n0,5≤n0→FT 145 #[.string t] n0 [] (lI 0) [] []):FT 20 #[(.string s),(.string t)] n0 [(0,Cn.gob0),(1,gob1),(2,Cn.gob2),(3,Cn.gob3)] (.tuple #[(.string (bts [])),(.string (bts [])),(lI 1)]) [(0,some Cn.gob0),(1,some gob1),(2,some Cn.gob2),(3,some Cn.gob3)] []:=by
 have h:=Bt (By (by kernel_rfl) (by kernel_rfl) (qe30 s t hks hkt)) Mv (by kernel_rfl) (by kernel_rfl) n0
 exact h
theorem qe21(s t:ByteArray)(hks: ∀n0,5≤n0→FT 145 #[.string s] n0 [] (lI 2) [] [])(hkt: ∀n0,5≤n0→FT 145 #[.string t] n0 [] (lI 1) [] []):CT 20 #[(.string s),(.string t)] (Ac 5 [(0,Cn.gob0),(1,gob1),(2,Cn.gob2),(3,Cn.gob3)]) (.tuple #[(.string (bts [])),(.string (bts [])),(lI 13)]) (Ac 13 [(0,Cn.gob0),(1,gob1),(2,Cn.gob2),(3,Cn.gob3)]):=
 sF (sc:=[(80,.call [] (lI 2) [] []),(52,.call [] (lI 1) [] []),(45,.call [0,1,2,3] (lI 13) [(0,some Cn.gob0),(1,some gob1),(2,some Cn.gob2),(3,some Cn.gob3)] []),(13,.drw []),(1,.stay)]) (by kernel_rfl) (aI (hks 12 (by omega)) (aI (hkt 12 (by omega)) (aI (Kf 13 12) (aI (aI tt (aI tt (aI tt (aI tt (aI tt (aI tt (aI tt (aI tt tt)))))))) tt)))) (Gets.refl _)
theorem qe21c(n0:Nat)(s t:ByteArray)(hks: ∀n0,5≤n0→FT 145 #[.string s] n0 [] (lI 2) [] [])(hkt: ∀n0,5≤n0→FT 145 #[.string t] n0 [] (lI 1) [] []):FT 20 #[(.string s),(.string t)] n0 [(0,Cn.gob0),(1,gob1),(2,Cn.gob2),(3,Cn.gob3)] (.tuple #[(.string (bts [])),(.string (bts [])),(lI 13)]) [(0,some Cn.gob0),(1,some gob1),(2,some Cn.gob2),(3,some Cn.gob3)] []:=by
 have h:=Bt (By (by kernel_rfl) (by kernel_rfl) (qe21 s t hks hkt)) Mv (by kernel_rfl) (by kernel_rfl) n0
 exact h
theorem qe31(s t:ByteArray)(hks: ∀n0,5≤n0→FT 145 #[.string s] n0 [] (lI 3) [] [])(hkt: ∀n0,5≤n0→FT 145 #[.string t] n0 [] (lI 1) [] []):CT 20 #[(.string s),(.string t)] (Ac 5 [(0,Cn.gob0),(1,gob1),(2,Cn.gob2),(3,Cn.gob3)]) (.tuple #[(.string (bts [])),(.string (bts [])),(lI 13)]) (Ac 13 [(0,Cn.gob0),(1,gob1),(2,Cn.gob2),(3,Cn.gob3)]):=
 sF (sc:=[(80,.call [] (lI 3) [] []),(52,.call [] (lI 1) [] []),(45,.call [0,1,2,3] (lI 13) [(0,some Cn.gob0),(1,some gob1),(2,some Cn.gob2),(3,some Cn.gob3)] []),(13,.drw []),(1,.stay)]) (by kernel_rfl) (aI (hks 12 (by omega)) (aI (hkt 12 (by omega)) (aI (Kf 13 12) (aI (aI tt (aI tt (aI tt (aI tt (aI tt (aI tt (aI tt (aI tt tt)))))))) tt)))) (Gets.refl _)
theorem qe31c(n0:Nat)(s t:ByteArray)(hks: ∀n0,5≤n0→FT 145 #[.string s] n0 [] (lI 3) [] [])(hkt: ∀n0,5≤n0→FT 145 #[.string t] n0 [] (lI 1) [] []):FT 20 #[(.string s),(.string t)] n0 [(0,Cn.gob0),(1,gob1),(2,Cn.gob2),(3,Cn.gob3)] (.tuple #[(.string (bts [])),(.string (bts [])),(lI 13)]) [(0,some Cn.gob0),(1,some gob1),(2,some Cn.gob2),(3,some Cn.gob3)] []:=by
 have h:=Bt (By (by kernel_rfl) (by kernel_rfl) (qe31 s t hks hkt)) Mv (by kernel_rfl) (by kernel_rfl) n0
 exact h
theorem qe22(s:ByteArray)(hks: ∀n0,5≤n0→FT 145 #[.string s] n0 [] (lI 2) [] [])(hkt: ∀n0,5≤n0→FT 145 #[.string (bts [48])] n0 [] (lI 2) [] []):CT 20 #[(.string s),(.string (bts [48]))] (Ac 5 [(0,Cn.gob0),(1,gob1),(2,Cn.gob2),(3,Cn.gob3)]) (.tuple #[(.string (bts [])),(.string (bts [])),(lI 12)]) (Ac 13 [(0,Cn.gob0),(1,gob1),(2,Cn.gob2),(3,Cn.gob3)]):=
 sF (sc:=[(80,.call [] (lI 2) [] []),(52,.call [] (lI 2) [] []),(81,.call [0,1,2,3] (lI 12) [(0,some Cn.gob0),(1,some gob1),(2,some Cn.gob2),(3,some Cn.gob3)] []),(13,.drw []),(1,.stay)]) (by kernel_rfl) (aI (hks 12 (by omega)) (aI (hkt 12 (by omega)) (aI (Kf 12 12) (aI (aI tt (aI tt (aI tt (aI tt (aI tt (aI tt (aI tt (aI tt tt)))))))) tt)))) (Gets.refl _)
theorem qe22c(n0:Nat)(s:ByteArray)(hks: ∀n0,5≤n0→FT 145 #[.string s] n0 [] (lI 2) [] [])(hkt: ∀n0,5≤n0→FT 145 #[.string (bts [48])] n0 [] (lI 2) [] []):FT 20 #[(.string s),(.string (bts [48]))] n0 [(0,Cn.gob0),(1,gob1),(2,Cn.gob2),(3,Cn.gob3)] (.tuple #[(.string (bts [])),(.string (bts [])),(lI 12)]) [(0,some Cn.gob0),(1,some gob1),(2,some Cn.gob2),(3,some Cn.gob3)] []:=by
 have h:=Bt (By (by kernel_rfl) (by kernel_rfl) (qe22 s hks hkt)) Mv (by kernel_rfl) (by kernel_rfl) n0
 exact h
theorem qe32(s:ByteArray)(hks: ∀n0,5≤n0→FT 145 #[.string s] n0 [] (lI 3) [] [])(hkt: ∀n0,5≤n0→FT 145 #[.string (bts [48])] n0 [] (lI 2) [] []):CT 20 #[(.string s),(.string (bts [48]))] (Ac 5 [(0,Cn.gob0),(1,gob1),(2,Cn.gob2),(3,Cn.gob3)]) (.tuple #[(.string (bts [])),(.string (bts [])),(lI 12)]) (Ac 13 [(0,Cn.gob0),(1,gob1),(2,Cn.gob2),(3,Cn.gob3)]):=
 sF (sc:=[(80,.call [] (lI 3) [] []),(52,.call [] (lI 2) [] []),(81,.call [0,1,2,3] (lI 12) [(0,some Cn.gob0),(1,some gob1),(2,some Cn.gob2),(3,some Cn.gob3)] []),(13,.drw []),(1,.stay)]) (by kernel_rfl) (aI (hks 12 (by omega)) (aI (hkt 12 (by omega)) (aI (Kf 12 12) (aI (aI tt (aI tt (aI tt (aI tt (aI tt (aI tt (aI tt (aI tt tt)))))))) tt)))) (Gets.refl _)
theorem qe32c(n0:Nat)(s:ByteArray)(hks: ∀n0,5≤n0→FT 145 #[.string s] n0 [] (lI 3) [] [])(hkt: ∀n0,5≤n0→FT 145 #[.string (bts [48])] n0 [] (lI 2) [] []):FT 20 #[(.string s),(.string (bts [48]))] n0 [(0,Cn.gob0),(1,gob1),(2,Cn.gob2),(3,Cn.gob3)] (.tuple #[(.string (bts [])),(.string (bts [])),(lI 12)]) [(0,some Cn.gob0),(1,some gob1),(2,some Cn.gob2),(3,some Cn.gob3)] []:=by
 have h:=Bt (By (by kernel_rfl) (by kernel_rfl) (qe32 s hks hkt)) Mv (by kernel_rfl) (by kernel_rfl) n0
 exact h
theorem fe0(s t:ByteArray)(hks: ∀n0,5≤n0→FT 145 #[.string s] n0 [] (lI 0) [] []):CT 18 #[(.string s),(.string t)] (Ac 5 [(0,Cn.gob0),(1,gob1),(2,Cn.gob2),(3,Cn.gob3)]) (.tuple #[(.string (bts [])),(.string (bts [])),(lI 1)]) (Ac 13 [(0,Cn.gob0),(1,gob1),(2,Cn.gob2),(3,Cn.gob3)]):=
 sF (sc:=[(80,.call [] (lI 0) [] []),(39,.call [0,1,2,3] (lI 1) [(0,some Cn.gob0),(1,some gob1),(2,some Cn.gob2),(3,some Cn.gob3)] []),(13,.drw []),(1,.stay)]) (by kernel_rfl) (aI (hks 12 (by omega)) (aI (Kf 1 12) (aI (aI tt (aI tt (aI tt (aI tt (aI tt (aI tt (aI tt (aI tt tt)))))))) tt))) (Gets.refl _)
theorem fe0c(n0:Nat)(s t:ByteArray)(hks: ∀n0,5≤n0→FT 145 #[.string s] n0 [] (lI 0) [] []):FT 18 #[(.string s),(.string t)] n0 [(0,Cn.gob0),(1,gob1),(2,Cn.gob2),(3,Cn.gob3)] (.tuple #[(.string (bts [])),(.string (bts [])),(lI 1)]) [(0,some Cn.gob0),(1,some gob1),(2,some Cn.gob2),(3,some Cn.gob3)] []:=by
 have h:=Bt (By (by kernel_rfl) (by kernel_rfl) (fe0 s t hks)) Mv (by kernel_rfl) (by kernel_rfl) n0
 exact h
theorem fe1(s t:ByteArray)(hks: ∀n0,5≤n0→FT 145 #[.string s] n0 [] (lI 1) [] []):CT 18 #[(.string s),(.string t)] (Ac 5 [(0,Cn.gob0),(1,gob1),(2,Cn.gob2),(3,Cn.gob3)]) (.tuple #[(.string (bts [])),(.string (bts [])),(lI 13)]) (Ac 13 [(0,Cn.gob0),(1,gob1),(2,Cn.gob2),(3,Cn.gob3)]):=
 sF (sc:=[(80,.call [] (lI 1) [] []),(45,.call [0,1,2,3] (lI 13) [(0,some Cn.gob0),(1,some gob1),(2,some Cn.gob2),(3,some Cn.gob3)] []),(13,.drw []),(1,.stay)]) (by kernel_rfl) (aI (hks 12 (by omega)) (aI (Kf 13 12) (aI (aI tt (aI tt (aI tt (aI tt (aI tt (aI tt (aI tt (aI tt tt)))))))) tt))) (Gets.refl _)
theorem fe1c(n0:Nat)(s t:ByteArray)(hks: ∀n0,5≤n0→FT 145 #[.string s] n0 [] (lI 1) [] []):FT 18 #[(.string s),(.string t)] n0 [(0,Cn.gob0),(1,gob1),(2,Cn.gob2),(3,Cn.gob3)] (.tuple #[(.string (bts [])),(.string (bts [])),(lI 13)]) [(0,some Cn.gob0),(1,some gob1),(2,some Cn.gob2),(3,some Cn.gob3)] []:=by
 have h:=Bt (By (by kernel_rfl) (by kernel_rfl) (fe1 s t hks)) Mv (by kernel_rfl) (by kernel_rfl) n0
 exact h
theorem fe20(s t:ByteArray)(hks: ∀n0,5≤n0→FT 145 #[.string s] n0 [] (lI 2) [] [])(hkt: ∀n0,5≤n0→FT 145 #[.string t] n0 [] (lI 0) [] []):CT 18 #[(.string s),(.string t)] (Ac 5 [(0,Cn.gob0),(1,gob1),(2,Cn.gob2),(3,Cn.gob3)]) (.tuple #[(.string (bts [])),(.string (bts [])),(lI 1)]) (Ac 13 [(0,Cn.gob0),(1,gob1),(2,Cn.gob2),(3,Cn.gob3)]):=
 sF (sc:=[(80,.call [] (lI 2) [] []),(52,.call [] (lI 0) [] []),(39,.call [0,1,2,3] (lI 1) [(0,some Cn.gob0),(1,some gob1),(2,some Cn.gob2),(3,some Cn.gob3)] []),(13,.drw []),(1,.stay)]) (by kernel_rfl) (aI (hks 12 (by omega)) (aI (hkt 12 (by omega)) (aI (Kf 1 12) (aI (aI tt (aI tt (aI tt (aI tt (aI tt (aI tt (aI tt (aI tt tt)))))))) tt)))) (Gets.refl _)
theorem fe20c(n0:Nat)(s t:ByteArray)(hks: ∀n0,5≤n0→FT 145 #[.string s] n0 [] (lI 2) [] [])(hkt: ∀n0,5≤n0→FT 145 #[.string t] n0 [] (lI 0) [] []):FT 18 #[(.string s),(.string t)] n0 [(0,Cn.gob0),(1,gob1),(2,Cn.gob2),(3,Cn.gob3)] (.tuple #[(.string (bts [])),(.string (bts [])),(lI 1)]) [(0,some Cn.gob0),(1,some gob1),(2,some Cn.gob2),(3,some Cn.gob3)] []:=by
 have h:=Bt (By (by kernel_rfl) (by kernel_rfl) (fe20 s t hks hkt)) Mv (by kernel_rfl) (by kernel_rfl) n0
 exact h
theorem fe30(s t:ByteArray)(hks: ∀n0,5≤n0→FT 145 #[.string s] n0 [] (lI 3) [] [])(hkt: ∀n0,5≤n0→FT 145 #[.string t] n0 [] (lI 0) [] []):CT 18 #[(.string s),(.string t)] (Ac 5 [(0,Cn.gob0),(1,gob1),(2,Cn.gob2),(3,Cn.gob3)]) (.tuple #[(.string (bts [])),(.string (bts [])),(lI 1)]) (Ac 13 [(0,Cn.gob0),(1,gob1),(2,Cn.gob2),(3,Cn.gob3)]):=
 sF (sc:=[(80,.call [] (lI 3) [] []),(52,.call [] (lI 0) [] []),(39,.call [0,1,2,3] (lI 1) [(0,some Cn.gob0),(1,some gob1),(2,some Cn.gob2),(3,some Cn.gob3)] []),(13,.drw []),(1,.stay)]) (by kernel_rfl) (aI (hks 12 (by omega)) (aI (hkt 12 (by omega)) (aI (Kf 1 12) (aI (aI tt (aI tt (aI tt (aI tt (aI tt (aI tt (aI tt (aI tt tt)))))))) tt)))) (Gets.refl _)
theorem fe30c(n0:Nat)(s t:ByteArray)(hks: ∀n0,5≤n0→FT 145 #[.string s] n0 [] (lI 3) [] [])(hkt: ∀n0,5≤n0→FT 145 #[.string t] n0 [] (lI 0) [] []):FT 18 #[(.string s),(.string t)] n0 [(0,Cn.gob0),(1,gob1),(2,Cn.gob2),(3,Cn.gob3)] (.tuple #[(.string (bts [])),(.string (bts [])),(lI 1)]) [(0,some Cn.gob0),(1,some gob1),(2,some Cn.gob2),(3,some Cn.gob3)] []:=by
 have h:=Bt (By (by kernel_rfl) (by kernel_rfl) (fe30 s t hks hkt)) Mv (by kernel_rfl) (by kernel_rfl) n0
 exact h
theorem fe21(s t:ByteArray)(hks: ∀n0,5≤n0→FT 145 #[.string s] n0 [] (lI 2) [] [])(hkt: ∀n0,5≤n0→FT 145 #[.string t] n0 [] (lI 1) [] []):CT 18 #[(.string s),(.string t)] (Ac 5 [(0,Cn.gob0),(1,gob1),(2,Cn.gob2),(3,Cn.gob3)]) (.tuple #[(.string (bts [])),(.string (bts [])),(lI 13)]) (Ac 13 [(0,Cn.gob0),(1,gob1),(2,Cn.gob2),(3,Cn.gob3)]):=
 sF (sc:=[(80,.call [] (lI 2) [] []),(52,.call [] (lI 1) [] []),(45,.call [0,1,2,3] (lI 13) [(0,some Cn.gob0),(1,some gob1),(2,some Cn.gob2),(3,some Cn.gob3)] []),(13,.drw []),(1,.stay)]) (by kernel_rfl) (aI (hks 12 (by omega)) (aI (hkt 12 (by omega)) (aI (Kf 13 12) (aI (aI tt (aI tt (aI tt (aI tt (aI tt (aI tt (aI tt (aI tt tt)))))))) tt)))) (Gets.refl _)
theorem fe21c(n0:Nat)(s t:ByteArray)(hks: ∀n0,5≤n0→FT 145 #[.string s] n0 [] (lI 2) [] [])(hkt: ∀n0,5≤n0→FT 145 #[.string t] n0 [] (lI 1) [] []):FT 18 #[(.string s),(.string t)] n0 [(0,Cn.gob0),(1,gob1),(2,Cn.gob2),(3,Cn.gob3)] (.tuple #[(.string (bts [])),(.string (bts [])),(lI 13)]) [(0,some Cn.gob0),(1,some gob1),(2,some Cn.gob2),(3,some Cn.gob3)] []:=by
 have h:=Bt (By (by kernel_rfl) (by kernel_rfl) (fe21 s t hks hkt)) Mv (by kernel_rfl) (by kernel_rfl) n0
 exact h
theorem fe31(s t:ByteArray)(hks: ∀n0,5≤n0→FT 145 #[.string s] n0 [] (lI 3) [] [])(hkt: ∀n0,5≤n0→FT 145 #[.string t] n0 [] (lI 1) [] []):CT 18 #[(.string s),(.string t)] (Ac 5 [(0,Cn.gob0),(1,gob1),(2,Cn.gob2),(3,Cn.gob3)]) (.tuple #[(.string (bts [])),(.string (bts [])),(lI 13)]) (Ac 13 [(0,Cn.gob0),(1,gob1),(2,Cn.gob2),(3,Cn.gob3)]):=
 sF (sc:=[(80,.call [] (lI 3) [] []),(52,.call [] (lI 1) [] []),(45,.call [0,1,2,3] (lI 13) [(0,some Cn.gob0),(1,some gob1),(2,some Cn.gob2),(3,some Cn.gob3)] []),(13,.drw []),(1,.stay)]) (by kernel_rfl) (aI (hks 12 (by omega)) (aI (hkt 12 (by omega)) (aI (Kf 13 12) (aI (aI tt (aI tt (aI tt (aI tt (aI tt (aI tt (aI tt (aI tt tt)))))))) tt)))) (Gets.refl _)
theorem fe31c(n0:Nat)(s t:ByteArray)(hks: ∀n0,5≤n0→FT 145 #[.string s] n0 [] (lI 3) [] [])(hkt: ∀n0,5≤n0→FT 145 #[.string t] n0 [] (lI 1) [] []):FT 18 #[(.string s),(.string t)] n0 [(0,Cn.gob0),(1,gob1),(2,Cn.gob2),(3,Cn.gob3)] (.tuple #[(.string (bts [])),(.string (bts [])),(lI 13)]) [(0,some Cn.gob0),(1,some gob1),(2,some Cn.gob2),(3,some Cn.gob3)] []:=by
 have h:=Bt (By (by kernel_rfl) (by kernel_rfl) (fe31 s t hks hkt)) Mv (by kernel_rfl) (by kernel_rfl) n0
 exact h
theorem fe22(s:ByteArray)(hks: ∀n0,5≤n0→FT 145 #[.string s] n0 [] (lI 2) [] [])(hkt: ∀n0,5≤n0→FT 145 #[.string (bts [48])] n0 [] (lI 2) [] []):CT 18 #[(.string s),(.string (bts [48]))] (Ac 5 [(0,Cn.gob0),(1,gob1),(2,Cn.gob2),(3,Cn.gob3)]) (.tuple #[(.string (bts [])),(.string (bts [])),(lI 12)]) (Ac 13 [(0,Cn.gob0),(1,gob1),(2,Cn.gob2),(3,Cn.gob3)]):=
 sF (sc:=[(80,.call [] (lI 2) [] []),(52,.call [] (lI 2) [] []),(81,.call [0,1,2,3] (lI 12) [(0,some Cn.gob0),(1,some gob1),(2,some Cn.gob2),(3,some Cn.gob3)] []),(13,.drw []),(1,.stay)]) (by kernel_rfl) (aI (hks 12 (by omega)) (aI (hkt 12 (by omega)) (aI (Kf 12 12) (aI (aI tt (aI tt (aI tt (aI tt (aI tt (aI tt (aI tt (aI tt tt)))))))) tt)))) (Gets.refl _)
theorem fe22c(n0:Nat)(s:ByteArray)(hks: ∀n0,5≤n0→FT 145 #[.string s] n0 [] (lI 2) [] [])(hkt: ∀n0,5≤n0→FT 145 #[.string (bts [48])] n0 [] (lI 2) [] []):FT 18 #[(.string s),(.string (bts [48]))] n0 [(0,Cn.gob0),(1,gob1),(2,Cn.gob2),(3,Cn.gob3)] (.tuple #[(.string (bts [])),(.string (bts [])),(lI 12)]) [(0,some Cn.gob0),(1,some gob1),(2,some Cn.gob2),(3,some Cn.gob3)] []:=by
 have h:=Bt (By (by kernel_rfl) (by kernel_rfl) (fe22 s hks hkt)) Mv (by kernel_rfl) (by kernel_rfl) n0
 exact h
theorem fe32(s:ByteArray)(hks: ∀n0,5≤n0→FT 145 #[.string s] n0 [] (lI 3) [] [])(hkt: ∀n0,5≤n0→FT 145 #[.string (bts [48])] n0 [] (lI 2) [] []):CT 18 #[(.string s),(.string (bts [48]))] (Ac 5 [(0,Cn.gob0),(1,gob1),(2,Cn.gob2),(3,Cn.gob3)]) (.tuple #[(.string (bts [])),(.string (bts [])),(lI 12)]) (Ac 13 [(0,Cn.gob0),(1,gob1),(2,Cn.gob2),(3,Cn.gob3)]):=
 sF (sc:=[(80,.call [] (lI 3) [] []),(52,.call [] (lI 2) [] []),(81,.call [0,1,2,3] (lI 12) [(0,some Cn.gob0),(1,some gob1),(2,some Cn.gob2),(3,some Cn.gob3)] []),(13,.drw []),(1,.stay)]) (by kernel_rfl) (aI (hks 12 (by omega)) (aI (hkt 12 (by omega)) (aI (Kf 12 12) (aI (aI tt (aI tt (aI tt (aI tt (aI tt (aI tt (aI tt (aI tt tt)))))))) tt)))) (Gets.refl _)
theorem fe32c(n0:Nat)(s:ByteArray)(hks: ∀n0,5≤n0→FT 145 #[.string s] n0 [] (lI 3) [] [])(hkt: ∀n0,5≤n0→FT 145 #[.string (bts [48])] n0 [] (lI 2) [] []):FT 18 #[(.string s),(.string (bts [48]))] n0 [(0,Cn.gob0),(1,gob1),(2,Cn.gob2),(3,Cn.gob3)] (.tuple #[(.string (bts [])),(.string (bts [])),(lI 12)]) [(0,some Cn.gob0),(1,some gob1),(2,some Cn.gob2),(3,some Cn.gob3)] []:=by
 have h:=Bt (By (by kernel_rfl) (by kernel_rfl) (fe32 s hks hkt)) Mv (by kernel_rfl) (by kernel_rfl) n0
 exact h
noncomputable section
abbrev z_6b1_0(o n c i b4:Nat)(zs:List Int):List (Nat×AObj):=[(5,(.cells [(.slice (some ⟨6,o,none⟩) n c),(nI (i+1)),(nU b4)] 62 none false)),(6,(.win o (zs.map (Value.int .i64))))]
end
theorem tn_a(zs:List Int)(o n c i u:Nat)(z:Int)(hx:(zs.map (Value.int .i64))[i]? =some (.int .i64 z))(hi:i<n)(hm:i<9223372036854775000)(a1:Nat)(ha1:IntKind.wrap .u64 ((((i+1):Nat):Int)*(13503953896175478587:Int))=(a1:Int))(a2:Nat)(ha2:IntKind.wrap .u64 z=(a2:Int))(a3:Nat)(ha3:IntKind.wrap .u64 ((a2:Int)*(4354685564936845355:Int))=(a3:Int))(a4:Nat)(ha4:IntKind.wrap .u64 ((a1:Int)+(a3:Int))=(a4:Int))(b1:Nat)(hb1:IntKind.wrap .u64 (((BitVec.ofInt 64 (u:Int)^^^BitVec.ofInt 64 (a4:Int)).toNat:Nat):Int)=(b1:Int))(b2:Nat)(hb2:IntKind.wrap .u64 ((b1:Int)*(11912009170470909681:Int))=(b2:Int))(b3:Nat)(hb3:(Int.fdiv (b2:Int) (2^31))=(b3:Int))(b4:Nat)(hb4:IntKind.wrap .u64 (((BitVec.ofInt 64 (b2:Int)^^^BitVec.ofInt 64 (b3:Int)).toNat:Nat):Int)=(b4:Int))(b5:Nat)(hb5:IntKind.wrap .u64 ((b4:Int)*(5840696475078001361:Int))=(b5:Int))(b6:Nat)(hb6:(Int.fdiv (b5:Int) (2^29))=(b6:Int))(b7:Nat)(hb7:IntKind.wrap .u64 (((BitVec.ofInt 64 (b5:Int)^^^BitVec.ofInt 64 (b6:Int)).toNat:Nat):Int)=(b7:Int))(b8:Nat)(hb8:(Int.fdiv (b7:Int) (2^11))=(b8:Int)):CT 97 #[(pt 5)] (Ac 7 [(5,(.cells [(.slice (some ⟨6,o,none⟩) n c),(nI i),(nU u)] 62 none false)),(6,(.win o (zs.map (Value.int .i64))))]) (nU b8) (Ac 7 (z_6b1_0 o n c i b4 zs)):=
 sF (sc:=[(10,.op (.rwI (((i+1):Nat):Int))),(0,.op (.rwI (((i+1):Nat):Int))),(0,.op (.rwI (a1:Int))),(4,.drw [(9,.rwB true)]),(1,.drw [(9,.idx (o+i)),(10,.ld (.int .i64 z)),(11,.rwI (a2:Int)),(12,.rwI (a3:Int)),(13,.rwI (a4:Int))]),(6,.op (.rwI (((i+1):Nat):Int))),(12,.op (.rwI (b1:Int))),(0,.op (.rwI (b2:Int))),(5,.drwM [(9,.rwI (b3:Int)),(10,.rwI (b4:Int))] []),(6,.op (.rwI (b5:Int))),(6,.op (.rwI (b6:Int))),(0,.op (.rwI (b7:Int))),(0,.op (.rwI (b8:Int))),(3,.stay)]) (by kernel_rfl) (aI (Am (a:=((i:Int)+(1:Int))) (r:=(((i+1):Nat):Int))) (aI (He (a:=(((i+1):Nat):Int)) (r:=(((i+1):Nat):Int))) (aI ha1 (aI (aI tt (aI tt (aI tt (aI tt (aI tt (aI tt (aI tt (aI tt (aI tt (aI (dT (p:=(i:Int)<(n:Int))) tt)))))))))) (aI (aI tt (aI tt (aI tt (aI tt (aI tt (aI tt (aI tt (aI tt (aI tt (aI (ix (i:Int) (n:Int) o 1 (o+i)) (aI (show o≤(o+i)∧((zs.map (Value.int .i64)):List Value)[(o+i)-o]? =some (.int .i64 z) from⟨Nat.le_add_right _ _,by rw[Nat.add_sub_cancel_left];exact hx⟩) (aI ha2 (aI ha3 (aI ha4 (aI tt tt))))))))))))))) (aI (Am (a:=((i:Int)+(1:Int))) (r:=(((i+1):Nat):Int))) (aI hb1 (aI hb2 (aI (aI tt (aI tt (aI tt (aI tt (aI tt (aI tt (aI tt (aI tt (aI tt (aI hb3 (aI hb4 (aI tt (aI tt (aI tt tt)))))))))))))) (aI hb5 (aI hb6 (aI hb7 (aI hb8 tt))))))))))))) (Gets.refl _)
theorem turn_a(n0 b L:Nat)(zs:List Int)(o n c i u:Nat)(hb:5≤b∧b<n0∧5≤L∧L<n0∧b≠L)(hn:n≤zs.length)(hi:i<n)(hm:i<9223372036854775000):
  ∃u' x,FT 97 #[pt b] n0 [(b,.cells [.slice (some ⟨L,o,none⟩) n c,.int .i64 ((i:Nat):Int),.int .u64 ((u:Nat):Int)] 62 none false),(L,.win o (zs.map (Value.int .i64)))] (nU x) [(b,some (.cells [.slice (some ⟨L,o,none⟩) n c,.int .i64 ((i+1:Nat):Int),.int .u64 ((u':Nat):Int)] 62 none false)),(L,some (.win o (zs.map (Value.int .i64))))] []:=by
 obtain⟨a1,ha1⟩: ∃v:Nat,IntKind.wrap .u64 ((((i+1):Nat):Int)*(13503953896175478587:Int))=((v:Nat):Int):=Ga _
 obtain⟨a2,ha2⟩: ∃v:Nat,IntKind.wrap .u64 (zs.getD i 0)=((v:Nat):Int):=Ga _
 obtain⟨a3,ha3⟩: ∃v:Nat,IntKind.wrap .u64 (((a2:Nat):Int)*(4354685564936845355:Int))=((v:Nat):Int):=Ga _
 obtain⟨a4,ha4⟩: ∃v:Nat,IntKind.wrap .u64 (((a1:Nat):Int)+((a3:Nat):Int))=((v:Nat):Int):=Ga _
 obtain⟨b1,hb1⟩: ∃v:Nat,IntKind.wrap .u64 (((BitVec.ofInt 64 ((u:Nat):Int)^^^BitVec.ofInt 64 ((a4:Nat):Int)).toNat:Nat):Int)=((v:Nat):Int):=Ga _
 obtain⟨b2,hb2⟩: ∃v:Nat,IntKind.wrap .u64 (((b1:Nat):Int)*(11912009170470909681:Int))=((v:Nat):Int):=Ga _
 obtain⟨b3,hb3⟩: ∃v:Nat,(Int.fdiv ((b2:Nat):Int) (2^31))=((v:Nat):Int):=Tk _ _
 obtain⟨b4,hb4⟩: ∃v:Nat,IntKind.wrap .u64 (((BitVec.ofInt 64 ((b2:Nat):Int)^^^BitVec.ofInt 64 ((b3:Nat):Int)).toNat:Nat):Int)=((v:Nat):Int):=Ga _
 obtain⟨b5,hb5⟩: ∃v:Nat,IntKind.wrap .u64 (((b4:Nat):Int)*(5840696475078001361:Int))=((v:Nat):Int):=Ga _
 obtain⟨b6,hb6⟩: ∃v:Nat,(Int.fdiv ((b5:Nat):Int) (2^29))=((v:Nat):Int):=Tk _ _
 obtain⟨b7,hb7⟩: ∃v:Nat,IntKind.wrap .u64 (((BitVec.ofInt 64 ((b5:Nat):Int)^^^BitVec.ofInt 64 ((b6:Nat):Int)).toNat:Nat):Int)=((v:Nat):Int):=Ga _
 obtain⟨b8,hb8⟩: ∃v:Nat,(Int.fdiv ((b7:Nat):Int) (2^11))=((v:Nat):Int):=Tk _ _
 refine⟨b4,b8,Qf (os':=[.cells [.slice (some ⟨L,o,none⟩) n c,.int .i64 ((i:Nat):Int),.int .u64 ((u:Nat):Int)] 62 none false,.win o (zs.map (Value.int .i64))]) (ps':=[.cells [.slice (some ⟨L,o,none⟩) n c,.int .i64 ((i+1:Nat):Int),.int .u64 ((b4:Nat):Int)] 62 none false,.win o (zs.map (Value.int .i64))]) (qs':=[]) [b,L] [.cells [.slice (some ⟨6,o,none⟩) n c,.int .i64 ((i:Nat):Int),.int .u64 ((u:Nat):Int)] 62 none false,.win o (zs.map (Value.int .i64))] [.cells [.slice (some ⟨6,o,none⟩) n c,.int .i64 ((i+1:Nat):Int),.int .u64 ((b4:Nat):Int)] 62 none false,.win o (zs.map (Value.int .i64))] [] [] n0 (tn_a zs o n c i u (zs.getD i 0) (ints_get (by omega)) hi hm a1 ha1 a2 ha2 a3 ha3 a4 ha4 b1 hb1 b2 hb2 b3 hb3 b4 hb4 b5 hb5 b6 hb6 b7 hb7 b8 hb8) rfl rfl rfl (by simp[hb.2.2.2.2]) (by simp;omega) (by omega) rfl
  (by simp[Me,Gm,Gb,okI,Dr _ _ (Av zs)]) rfl (by simp only[List.map_cons,List.map_nil,Ep,Ah _ _ (Av zs)];rfl) (by simp only[List.map_cons,List.map_nil,Ep,Ah _ _ (Av zs)];rfl) rfl (by simp) (by simp) rfl rfl rfl⟩
theorem tn_b(zs:List Int)(o n c i u:Nat)(hi:n≤i)(hm:i<9223372036854775000)(a1:Nat)(ha1:IntKind.wrap .u64 ((((i+1):Nat):Int)*(13503953896175478587:Int))=(a1:Int))(b1:Nat)(hb1:IntKind.wrap .u64 (((BitVec.ofInt 64 (u:Int)^^^BitVec.ofInt 64 (a1:Int)).toNat:Nat):Int)=(b1:Int))(b2:Nat)(hb2:IntKind.wrap .u64 ((b1:Int)*(11912009170470909681:Int))=(b2:Int))(b3:Nat)(hb3:(Int.fdiv (b2:Int) (2^31))=(b3:Int))(b4:Nat)(hb4:IntKind.wrap .u64 (((BitVec.ofInt 64 (b2:Int)^^^BitVec.ofInt 64 (b3:Int)).toNat:Nat):Int)=(b4:Int))(b5:Nat)(hb5:IntKind.wrap .u64 ((b4:Int)*(5840696475078001361:Int))=(b5:Int))(b6:Nat)(hb6:(Int.fdiv (b5:Int) (2^29))=(b6:Int))(b7:Nat)(hb7:IntKind.wrap .u64 (((BitVec.ofInt 64 (b5:Int)^^^BitVec.ofInt 64 (b6:Int)).toNat:Nat):Int)=(b7:Int))(b8:Nat)(hb8:(Int.fdiv (b7:Int) (2^11))=(b8:Int)):CT 97 #[(pt 5)] (Ac 7 [(5,(.cells [(.slice (some ⟨6,o,none⟩) n c),(nI i),(nU u)] 62 none false)),(6,(.win o (zs.map (Value.int .i64))))]) (nU b8) (Ac 7 (z_6b1_0 o n c i b4 zs)):=
 sF (sc:=[(10,.op (.rwI (((i+1):Nat):Int))),(0,.op (.rwI (((i+1):Nat):Int))),(0,.op (.rwI (a1:Int))),(4,.drw [(9,.rwB false)]),(8,.op (.rwI (((i+1):Nat):Int))),(12,.op (.rwI (b1:Int))),(0,.op (.rwI (b2:Int))),(5,.drwM [(9,.rwI (b3:Int)),(10,.rwI (b4:Int))] []),(6,.op (.rwI (b5:Int))),(6,.op (.rwI (b6:Int))),(0,.op (.rwI (b7:Int))),(0,.op (.rwI (b8:Int))),(3,.stay)]) (by kernel_rfl) (aI (Am (a:=((i:Int)+(1:Int))) (r:=(((i+1):Nat):Int))) (aI (He (a:=(((i+1):Nat):Int)) (r:=(((i+1):Nat):Int))) (aI ha1 (aI (aI tt (aI tt (aI tt (aI tt (aI tt (aI tt (aI tt (aI tt (aI tt (aI (dF (p:=(i:Int)<(n:Int))) tt)))))))))) (aI (Am (a:=((i:Int)+(1:Int))) (r:=(((i+1):Nat):Int))) (aI hb1 (aI hb2 (aI (aI tt (aI tt (aI tt (aI tt (aI tt (aI tt (aI tt (aI tt (aI tt (aI hb3 (aI hb4 (aI tt (aI tt (aI tt tt)))))))))))))) (aI hb5 (aI hb6 (aI hb7 (aI hb8 tt)))))))))))) (Gets.refl _)
theorem turn_b(n0 b L:Nat)(zs:List Int)(o n c i u:Nat)(hb:5≤b∧b<n0∧5≤L∧L<n0∧b≠L)(hn:n≤zs.length)(hi:n≤i)(hm:i<9223372036854775000):
  ∃u' x,FT 97 #[pt b] n0 [(b,.cells [.slice (some ⟨L,o,none⟩) n c,.int .i64 ((i:Nat):Int),.int .u64 ((u:Nat):Int)] 62 none false),(L,.win o (zs.map (Value.int .i64)))] (nU x) [(b,some (.cells [.slice (some ⟨L,o,none⟩) n c,.int .i64 ((i+1:Nat):Int),.int .u64 ((u':Nat):Int)] 62 none false)),(L,some (.win o (zs.map (Value.int .i64))))] []:=by
 obtain⟨a1,ha1⟩: ∃v:Nat,IntKind.wrap .u64 ((((i+1):Nat):Int)*(13503953896175478587:Int))=((v:Nat):Int):=Ga _
 obtain⟨b1,hb1⟩: ∃v:Nat,IntKind.wrap .u64 (((BitVec.ofInt 64 ((u:Nat):Int)^^^BitVec.ofInt 64 ((a1:Nat):Int)).toNat:Nat):Int)=((v:Nat):Int):=Ga _
 obtain⟨b2,hb2⟩: ∃v:Nat,IntKind.wrap .u64 (((b1:Nat):Int)*(11912009170470909681:Int))=((v:Nat):Int):=Ga _
 obtain⟨b3,hb3⟩: ∃v:Nat,(Int.fdiv ((b2:Nat):Int) (2^31))=((v:Nat):Int):=Tk _ _
 obtain⟨b4,hb4⟩: ∃v:Nat,IntKind.wrap .u64 (((BitVec.ofInt 64 ((b2:Nat):Int)^^^BitVec.ofInt 64 ((b3:Nat):Int)).toNat:Nat):Int)=((v:Nat):Int):=Ga _
 obtain⟨b5,hb5⟩: ∃v:Nat,IntKind.wrap .u64 (((b4:Nat):Int)*(5840696475078001361:Int))=((v:Nat):Int):=Ga _
 obtain⟨b6,hb6⟩: ∃v:Nat,(Int.fdiv ((b5:Nat):Int) (2^29))=((v:Nat):Int):=Tk _ _
 obtain⟨b7,hb7⟩: ∃v:Nat,IntKind.wrap .u64 (((BitVec.ofInt 64 ((b5:Nat):Int)^^^BitVec.ofInt 64 ((b6:Nat):Int)).toNat:Nat):Int)=((v:Nat):Int):=Ga _
 obtain⟨b8,hb8⟩: ∃v:Nat,(Int.fdiv ((b7:Nat):Int) (2^11))=((v:Nat):Int):=Tk _ _
 refine⟨b4,b8,Qf (os':=[.cells [.slice (some ⟨L,o,none⟩) n c,.int .i64 ((i:Nat):Int),.int .u64 ((u:Nat):Int)] 62 none false,.win o (zs.map (Value.int .i64))]) (ps':=[.cells [.slice (some ⟨L,o,none⟩) n c,.int .i64 ((i+1:Nat):Int),.int .u64 ((b4:Nat):Int)] 62 none false,.win o (zs.map (Value.int .i64))]) (qs':=[]) [b,L] [.cells [.slice (some ⟨6,o,none⟩) n c,.int .i64 ((i:Nat):Int),.int .u64 ((u:Nat):Int)] 62 none false,.win o (zs.map (Value.int .i64))] [.cells [.slice (some ⟨6,o,none⟩) n c,.int .i64 ((i+1:Nat):Int),.int .u64 ((b4:Nat):Int)] 62 none false,.win o (zs.map (Value.int .i64))] [] [] n0 (tn_b zs o n c i u hi hm a1 ha1 b1 hb1 b2 hb2 b3 hb3 b4 hb4 b5 hb5 b6 hb6 b7 hb7 b8 hb8) rfl rfl rfl (by simp[hb.2.2.2.2]) (by simp;omega) (by omega) rfl
  (by simp[Me,Gm,Gb,okI,Dr _ _ (Av zs)]) rfl (by simp only[List.map_cons,List.map_nil,Ep,Ah _ _ (Av zs)];rfl) (by simp only[List.map_cons,List.map_nil,Ep,Ah _ _ (Av zs)];rfl) rfl (by simp) (by simp) rfl rfl rfl⟩
theorem turn_c(n0 b L:Nat)(zs:List Int)(o n c i u:Nat)(hb:5≤b∧b<n0∧5≤L∧L<n0∧b≠L)(hn:n≤zs.length)(hm:i<9223372036854775000):
  ∃u' x,FT 97 #[pt b] n0 [(b,.cells [.slice (some ⟨L,o,none⟩) n c,.int .i64 ((i:Nat):Int),.int .u64 ((u:Nat):Int)] 62 none false),(L,.win o (zs.map (Value.int .i64)))] (nU x) [(b,some (.cells [.slice (some ⟨L,o,none⟩) n c,.int .i64 ((i+1:Nat):Int),.int .u64 ((u':Nat):Int)] 62 none false)),(L,some (.win o (zs.map (Value.int .i64))))] []:=by
 rcases Nat.lt_or_ge i n with h|h
 ·exact turn_a n0 b L zs o n c i u hb hn h hm
 ·exact turn_b n0 b L zs o n c i u hb hn h hm
noncomputable section
abbrev Vs(o n c i v:Nat):AObj:=.cells [(.slice (some ⟨6,o,none⟩) n c),(nI (i+1)),(nU v)] 62 none false
abbrev Lx(o:Nat)(zs:List Int):AObj:=.win o (zs.map (Value.int .i64))
end
theorem up_conv{x r k:Nat}(hr:r=x% (k+1))(hk:k<1099511627776):IntKind.wrap .i64 (((x% (k+1):Nat):Int))=((r:Nat):Int):=by
 have:x% (k+1)<k+1:=Nat.mod_lt x (by omega)
 subst hr
 exact Cc (by omega) (by omega)
theorem up_p(zs:List Int)(o n c i u k:Nat)(hk:0<k)(hk2:k<1099511627776)(v x:Nat)(r:Nat)(hrx:r=x% (k+1))(hc1:(FT 97 #[(pt 5)] 7 [(5,(.cells [(.slice (some ⟨6,o,none⟩) n c),(nI i),(nU u)] 62 none false)),(6,(Lx o zs))] (nU x) [(5,some (Vs o n c i v)),(6,some (Lx o zs))] [])):CT 47 #[(pt 5),(nI k)] (Ac 7 [(5,(.cells [(.slice (some ⟨6,o,none⟩) n c),(nI i),(nU u)] 62 none false)),(6,(Lx o zs))]) (nI r) (Ac 7 [(5,(Vs o n c i v)),(6,(Lx o zs))]):=
 sF (sc:=[(7,.call [5,6] (nU x) [(5,some (Vs o n c i v)),(6,some (Lx o zs))] []),(6,.op (.rwB false)),(7,.op (.rwI (k:Int))),(0,.op (.rwI (((k+1):Nat):Int))),(0,.op (.div (((x% (k+1)):Nat):Int))),(0,.op (.rwI (r:Int))),(3,.stay)]) (by kernel_rfl) (aI hc1 (aI (dF (p:=(k:Int)<(1:Int))) (aI (He (a:=(k:Int)) (r:=(k:Int))) (aI (He (a:=((k:Int)+(1:Int))) (r:=(((k+1):Nat):Int))) (aI (show (((k+1):Nat):Int)≠0∧(Int.tmod (x:Int) (((k+1):Nat):Int))=(((x% (k+1)):Nat):Int) from⟨by omega,by first|(rw[Int.tmod_eq_emod_of_nonneg (by omega)];first|rfl|exact (Int.natCast_emod _ _).symm|omega)|(rw[Int.tdiv_eq_ediv_of_nonneg (by omega)];first|rfl|omega)⟩) (aI (show IntKind.wrap .i64 (((x% (k+1)):Nat):Int)=(r:Int) from (up_conv hrx hk2)) tt)))))) (Gets.refl _)
theorem up_z(zs:List Int)(o n c i u k:Nat)(hk:k=0)(hk2:k<1099511627776)(v x:Nat)(hc1:(FT 97 #[(pt 5)] 7 [(5,(.cells [(.slice (some ⟨6,o,none⟩) n c),(nI i),(nU u)] 62 none false)),(6,(Lx o zs))] (nU x) [(5,some (Vs o n c i v)),(6,some (Lx o zs))] [])):CT 47 #[(pt 5),(nI k)] (Ac 7 [(5,(.cells [(.slice (some ⟨6,o,none⟩) n c),(nI i),(nU u)] 62 none false)),(6,(Lx o zs))]) (lI 0) (Ac 7 [(5,(Vs o n c i v)),(6,(Lx o zs))]):=
 sF (sc:=[(7,.call [5,6] (nU x) [(5,some (Vs o n c i v)),(6,some (Lx o zs))] []),(6,.op (.rwB true)),(7,.stay)]) (by kernel_rfl) (aI hc1 (aI (dT (p:=(k:Int)<(1:Int))) tt)) (Gets.refl _)
theorem up_c(n0 b L:Nat)(zs:List Int)(o n c i u k:Nat)(hb:5≤b∧b<n0∧5≤L∧L<n0∧b≠L)(hn:n≤zs.length)(hm:i<9223372036854775000)(hk2:k<1099511627776):
  ∃u' r,r≤k∧FT 47 #[pt b,.int .i64 ((k:Nat):Int)] n0 [(b,.cells [.slice (some ⟨L,o,none⟩) n c,.int .i64 ((i:Nat):Int),.int .u64 ((u:Nat):Int)] 62 none false),(L,.win o (zs.map (Value.int .i64)))] (nI r) [(b,some (.cells [.slice (some ⟨L,o,none⟩) n c,.int .i64 ((i+1:Nat):Int),.int .u64 ((u':Nat):Int)] 62 none false)),(L,some (.win o (zs.map (Value.int .i64))))] []:=by
 obtain⟨v,x,T⟩:=turn_c 7 5 6 zs o n c i u (by omega) hn hm
 rcases Nat.eq_zero_or_pos k with hk|hk
 ·exact⟨v,0,Nat.zero_le _,Qf (os':=[.cells [.slice (some ⟨L,o,none⟩) n c,.int .i64 ((i:Nat):Int),.int .u64 ((u:Nat):Int)] 62 none false,.win o (zs.map (Value.int .i64))]) (ps':=[.cells [.slice (some ⟨L,o,none⟩) n c,.int .i64 ((i+1:Nat):Int),.int .u64 ((v:Nat):Int)] 62 none false,.win o (zs.map (Value.int .i64))]) (qs':=[]) [b,L] [.cells [.slice (some ⟨6,o,none⟩) n c,.int .i64 ((i:Nat):Int),.int .u64 ((u:Nat):Int)] 62 none false,.win o (zs.map (Value.int .i64))] [.cells [.slice (some ⟨6,o,none⟩) n c,.int .i64 ((i+1:Nat):Int),.int .u64 ((v:Nat):Int)] 62 none false,.win o (zs.map (Value.int .i64))] [] [] n0 (up_z zs o n c i u k hk hk2 v x T) rfl rfl rfl (by simp[hb.2.2.2.2]) (by simp;omega) (by omega) rfl
   (by simp[Me,Gm,Gb,okI,Dr _ _ (Av zs)]) rfl (by simp only[List.map_cons,List.map_nil,Ep,Ah _ _ (Av zs)];rfl) (by simp only[List.map_cons,List.map_nil,Ep,Ah _ _ (Av zs)];rfl) rfl (by simp) (by simp) rfl rfl rfl⟩
 ·exact⟨v,x% (k+1),Nat.le_of_lt_succ (Nat.mod_lt x (Nat.succ_pos k)),Qf (os':=[.cells [.slice (some ⟨L,o,none⟩) n c,.int .i64 ((i:Nat):Int),.int .u64 ((u:Nat):Int)] 62 none false,.win o (zs.map (Value.int .i64))]) (ps':=[.cells [.slice (some ⟨L,o,none⟩) n c,.int .i64 ((i+1:Nat):Int),.int .u64 ((v:Nat):Int)] 62 none false,.win o (zs.map (Value.int .i64))]) (qs':=[]) [b,L] [.cells [.slice (some ⟨6,o,none⟩) n c,.int .i64 ((i:Nat):Int),.int .u64 ((u:Nat):Int)] 62 none false,.win o (zs.map (Value.int .i64))] [.cells [.slice (some ⟨6,o,none⟩) n c,.int .i64 ((i+1:Nat):Int),.int .u64 ((v:Nat):Int)] 62 none false,.win o (zs.map (Value.int .i64))] [] [] n0 (up_p zs o n c i u k hk hk2 v x _ rfl T) rfl rfl rfl (by simp[hb.2.2.2.2]) (by simp;omega) (by omega) rfl
   (by simp[Me,Gm,Gb,okI,Dr _ _ (Av zs)]) rfl (by simp only[List.map_cons,List.map_nil,Ep,Ah _ _ (Av zs)];rfl) (by simp only[List.map_cons,List.map_nil,Ep,Ah _ _ (Av zs)];rfl) rfl (by simp) (by simp) rfl rfl rfl⟩
end Go.Proofs.YtjbflfbhfnkmlaaGreatDoor
