import Derived.Test.YtjbflfbhfnkmlaaGreatDoorH1
import Derived.Test.YtjbflfbhfnkmlaaGreatDoorPK1
import Derived.Test.YtjbflfbhfnkmlaaGreatDoorSg0
import Derived.Test.YtjbflfbhfnkmlaaGreatDoorSg1
set_option linter.unusedVariables false
set_option linter.unusedSimpArgs false
set_option maxRecDepth 100000
namespace Go.Proofs.YtjbflfbhfnkmlaaGreatDoor.Cn
open Go Go.AE Seg
theorem errVal_renG (st : Nat → List (Value × Nat) × Nat) : renL (rhoG 5 st) [errVal] = some [errVal] := by
  have h9 : renA (rhoG 5 st) ⟨4, 156, none⟩ = some ⟨4, 156, none⟩ := by rfl
  simp [renL, ren, renArr, errVal, h9]
theorem glOK : GlOK 5 gl := by
  intro st x hx
  simp only [gl, List.mem_cons, List.not_mem_nil, or_false] at hx
  rcases hx with rfl | rfl | rfl | rfl
  · exact ⟨by decide, _, _, rfl, errVal_renG st⟩
  · exact ⟨by decide, _, _, rfl, closedL_ren _ _ (by kernel_rfl)⟩
  · exact ⟨by decide, _, _, rfl, closedL_ren _ _ (by kernel_rfl)⟩
  · exact ⟨by decide, _, _, rfl, closedL_ren _ _ (by kernel_rfl)⟩
theorem hmix : Tryz.prog.follows .mixedOrders = true := by kernel_rfl
theorem hk0_ok : NestOK Tryz.prog 5 hk0 := asHook_ok
theorem nest0_ok : NestOKR Tryz.prog 5 nest0 := callD_ok hmix hk0_ok 12
theorem stp0_ok : StepSound Tryz.prog 5 stp0 := bstep_ok hmix hk0_ok nest0_ok (drawC_ok hmix (retOf_ok nest0_ok))
theorem ch0 {ρ : Rho} {w : World} {cs0 : List Frame} (hw0 : WR 5 ρ h0 w) : StepTo Tryz.prog 5 ρ st1 st9 (Frame.enter Tryz.prog 15 ta0 .normal) [] cs0 w := by
  have s1 : StepTo Tryz.prog 5 ρ st1 st1 (Frame.enter Tryz.prog 15 ta0 .normal) [] cs0 w := start_ok hw0 (closedArr_ren _ _ (by kernel_rfl))
  have s2 := segS_ok stp0_ok seg2 s1
  have s3 := segS_ok stp0_ok seg3 s2
  have s4 := segS_ok stp0_ok seg4 s3
  have s5 := segS_ok stp0_ok seg5 s4
  have s6 := segS_ok stp0_ok seg6 s5
  have s7 := segS_ok stp0_ok seg7 s6
  have s8 := segS_ok stp0_ok seg8 s7
  have s9 := segS_ok stp0_ok seg9 s8
  exact s9
theorem tell0 : TellG Tryz.prog 5 gl 15 ta0 tv0 := tell_of_segs (by kernel_rfl) (by kernel_rfl) (fun ρ w cs0 H => ch0 H) (by kernel_rfl) (by kernel_rfl) rfl
end Go.Proofs.YtjbflfbhfnkmlaaGreatDoor.Cn
