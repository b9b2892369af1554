import Derived.Test.YtkhlfhnbildmjaaGreatDoorH1
import Derived.Test.YtkhlfhnbildmjaaGreatDoorPK1
import Derived.Test.YtkhlfhnbildmjaaGreatDoorSt0
import Derived.Test.YtkhlfhnbildmjaaGreatDoorSt1
import Derived.Test.YtkhlfhnbildmjaaGreatDoorSg0
import Derived.Test.YtkhlfhnbildmjaaGreatDoorSg1
import Derived.Test.YtkhlfhnbildmjaaGreatDoorSg2
import Derived.Test.YtkhlfhnbildmjaaGreatDoorSg3
import Derived.Test.YtkhlfhnbildmjaaGreatDoorSg4
import Derived.Test.YtkhlfhnbildmjaaGreatDoorSg5
import Derived.Test.YtkhlfhnbildmjaaGreatDoorSg6
import Derived.Test.YtkhlfhnbildmjaaGreatDoorSg7
import Derived.Test.YtkhlfhnbildmjaaGreatDoorSg8
import Derived.Test.YtkhlfhnbildmjaaGreatDoorSg9
import Derived.Test.YtkhlfhnbildmjaaGreatDoorSg10
import Derived.Test.YtkhlfhnbildmjaaGreatDoorSg11
import Derived.Test.YtkhlfhnbildmjaaGreatDoorSg12
import Derived.Test.YtkhlfhnbildmjaaGreatDoorSg13
import Derived.Test.YtkhlfhnbildmjaaGreatDoorSg14
set_option linter.unusedVariables false
set_option linter.unusedSimpArgs false
set_option maxRecDepth 100000
namespace Go.Proofs.YtkhlfhnbildmjaaGreatDoor
open Go Go.AE Seg
theorem errVal_renG (st : Nat → List (Value × Nat) × Nat) : renL (rhoG 5 st) [errVal] = some [errVal] := by
  have h9 : renA (rhoG 5 st) ⟨4, 118, none⟩ = some ⟨4, 118, none⟩ := by rfl
  simp [renL, ren, renArr, errVal, h9]
theorem glOK : GlOK 5 gl := by
  intro st x hx
  simp only [gl, List.mem_cons, List.not_mem_nil, or_false] at hx
  rcases hx with rfl | rfl | rfl | rfl
  · exact ⟨by decide, _, _, rfl, errVal_renG st⟩
  · exact ⟨by decide, _, _, rfl, closedL_ren _ _ (by kernel_rfl)⟩
  · exact ⟨by decide, _, _, rfl, closedL_ren _ _ (by kernel_rfl)⟩
  · exact ⟨by decide, _, _, rfl, closedL_ren _ _ (by kernel_rfl)⟩
theorem hmix : Tryz.prog.follows .mixedOrders = true := by kernel_rfl
theorem hk0_ok : NestOK Tryz.prog 5 hk0 := asHook_ok
theorem nest0_ok : NestOKR Tryz.prog 5 nest0 := callD_ok hmix hk0_ok 12
theorem stp0_ok : StepSound Tryz.prog 5 stp0 := bstep_ok hmix hk0_ok nest0_ok (drawC_ok hmix (retOf_ok nest0_ok))
theorem ch0 {ρ : Rho} {w : World} {cs0 : List Frame} (hw0 : WR 5 ρ h0 w) : StepTo Tryz.prog 5 ρ st1 st30 (Frame.enter Tryz.prog 3 ta0 .normal) [] cs0 w := by
  have s1 : StepTo Tryz.prog 5 ρ st1 st1 (Frame.enter Tryz.prog 3 ta0 .normal) [] cs0 w := start_ok hw0 (closedArr_ren _ _ (by kernel_rfl))
  have s2 := segS_ok stp0_ok seg2 s1
  have s3 := segS_ok stp0_ok seg3 s2
  have s4 := segS_ok stp0_ok seg4 s3
  have s5 := segS_ok stp0_ok seg5 s4
  have s6 := segS_ok stp0_ok seg6 s5
  have s7 := segS_ok stp0_ok seg7 s6
  have s8 := segS_ok stp0_ok seg8 s7
  have s9 := segS_ok stp0_ok seg9 s8
  have s10 := segS_ok stp0_ok seg10 s9
  have s11 := segS_ok stp0_ok seg11 s10
  have s12 := segS_ok stp0_ok seg12 s11
  have s13 := segS_ok stp0_ok seg13 s12
  have s14 := segS_ok stp0_ok seg14 s13
  have s15 := segS_ok stp0_ok seg15 s14
  have s16 := segS_ok stp0_ok seg16 s15
  have s17 := segS_ok stp0_ok seg17 s16
  have s18 := segS_ok stp0_ok seg18 s17
  have s19 := segS_ok stp0_ok seg19 s18
  have s20 := segS_ok stp0_ok seg20 s19
  have s21 := segS_ok stp0_ok seg21 s20
  have s22 := segS_ok stp0_ok seg22 s21
  have s23 := segS_ok stp0_ok seg23 s22
  have s24 := segS_ok stp0_ok seg24 s23
  have s25 := segS_ok stp0_ok seg25 s24
  have s26 := segS_ok stp0_ok seg26 s25
  have s27 := segS_ok stp0_ok seg27 s26
  have s28 := segS_ok stp0_ok seg28 s27
  have s29 := segS_ok stp0_ok seg29 s28
  have s30 := segS_ok stp0_ok seg30 s29
  exact s30
theorem tell0 : TellG Tryz.prog 5 gl 3 ta0 tv0 := tell_of_segs (by kernel_rfl) (by kernel_rfl) (fun ρ w cs0 H => ch0 H) (by kernel_rfl) (by kernel_rfl) rfl
end Go.Proofs.YtkhlfhnbildmjaaGreatDoor
