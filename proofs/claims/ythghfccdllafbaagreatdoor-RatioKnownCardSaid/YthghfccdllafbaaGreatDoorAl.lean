import Derived.Test.YthghfccdllafbaaGreatDoorH1
import Derived.Test.YthghfccdllafbaaGreatDoorK1
import Derived.Test.YthghfccdllafbaaGreatDoorSt4
import Derived.Test.YthghfccdllafbaaGreatDoorSg22
import Derived.Test.YthghfccdllafbaaGreatDoorSg23
import Derived.Test.YthghfccdllafbaaGreatDoorSg24
import Derived.Test.YthghfccdllafbaaGreatDoorSg25
import Derived.Test.YthghfccdllafbaaGreatDoorBp
import Derived.Test.YthghfccdllafbaaGreatDoorSt5
import Derived.Test.YthghfccdllafbaaGreatDoorDr9
import Derived.Test.YthghfccdllafbaaGreatDoorSt0
import Derived.Test.YthghfccdllafbaaGreatDoorSt1
import Derived.Test.YthghfccdllafbaaGreatDoorSt2
import Derived.Test.YthghfccdllafbaaGreatDoorSt3
import Derived.Test.YthghfccdllafbaaGreatDoorSg0
import Derived.Test.YthghfccdllafbaaGreatDoorSg1
import Derived.Test.YthghfccdllafbaaGreatDoorSg2
import Derived.Test.YthghfccdllafbaaGreatDoorSg3
import Derived.Test.YthghfccdllafbaaGreatDoorSg4
import Derived.Test.YthghfccdllafbaaGreatDoorSg5
import Derived.Test.YthghfccdllafbaaGreatDoorSg6
import Derived.Test.YthghfccdllafbaaGreatDoorSg7
import Derived.Test.YthghfccdllafbaaGreatDoorSg8
import Derived.Test.YthghfccdllafbaaGreatDoorSg9
import Derived.Test.YthghfccdllafbaaGreatDoorSg10
import Derived.Test.YthghfccdllafbaaGreatDoorSg11
import Derived.Test.YthghfccdllafbaaGreatDoorSg12
import Derived.Test.YthghfccdllafbaaGreatDoorSg13
import Derived.Test.YthghfccdllafbaaGreatDoorSg14
import Derived.Test.YthghfccdllafbaaGreatDoorSg15
import Derived.Test.YthghfccdllafbaaGreatDoorSg16
import Derived.Test.YthghfccdllafbaaGreatDoorSg17
import Derived.Test.YthghfccdllafbaaGreatDoorSg18
import Derived.Test.YthghfccdllafbaaGreatDoorSg19
import Derived.Test.YthghfccdllafbaaGreatDoorSg20
import Derived.Test.YthghfccdllafbaaGreatDoorSg21
set_option maxRecDepth 100000
namespace Go.Proofs.YthghfccdllafbaaGreatDoor
open Go Go.AE Seg
theorem errVal_renG (st : Nat → List (Value × Nat) × Nat) : renL (rhoG 10 st) [errVal] = some [errVal] := by
  have h9 : renA (rhoG 10 st) ⟨9, 128, none⟩ = some ⟨9, 128, none⟩ := by rfl
  simp [renL, ren, renArr, errVal, h9]
theorem glOK : GlOK 10 gl := by
  intro st x hx
  simp only [gl, List.mem_cons, List.not_mem_nil, or_false] at hx
  rcases hx with rfl | rfl | rfl | rfl
  · exact ⟨by decide, _, _, rfl, errVal_renG st⟩
  · exact ⟨by decide, _, _, rfl, closedL_ren _ _ (by kernel_rfl)⟩
  · exact ⟨by decide, _, _, rfl, closedL_ren _ _ (by kernel_rfl)⟩
  · exact ⟨by decide, _, _, rfl, closedL_ren _ _ (by kernel_rfl)⟩
theorem hmix : Tryz.prog.follows .mixedOrders = true := by kernel_rfl
theorem hk0_ok : NestOK Tryz.prog 10 hk0 := asHook_ok
theorem nest0_ok : NestOKR Tryz.prog 10 nest0 := callD_ok hmix hk0_ok 12
theorem stp0_ok : StepSound Tryz.prog 10 stp0 := bstep_ok hmix hk0_ok nest0_ok (drawC_ok hmix (retOf_ok nest0_ok))
theorem ch0 {ρ : Rho} {w : World} {cs0 : List Frame} (hw0 : WR 10 ρ h0 w) : StepTo Tryz.prog 10 ρ st15 st17 (Frame.enter Tryz.prog 32 ta0 .normal) [] cs0 w := by
  have s15 : StepTo Tryz.prog 10 ρ st15 st15 (Frame.enter Tryz.prog 32 ta0 .normal) [] cs0 w := start_ok hw0 (closedArr_ren _ _ (by kernel_rfl))
  have s16 := segS_ok stp0_ok seg16 s15
  have s17 := segS_ok stp0_ok seg17 s16
  exact s17
theorem tell0 : TellG Tryz.prog 10 gl 32 ta0 tv0 := tell_of_segs (by kernel_rfl) (by kernel_rfl) (fun ρ w cs0 H => ch0 H) (by kernel_rfl) (by kernel_rfl) rfl
theorem hk1_ok : NestOK Tryz.prog 10 hk1 := told_ok hk0_ok tell0 glOK (by kernel_rfl) (by kernel_rfl)
theorem nest1_ok : NestOKR Tryz.prog 10 nest1 := callD_ok hmix hk1_ok 12
theorem stp1_ok : StepSound Tryz.prog 10 stp1 := bstep_ok hmix hk1_ok nest1_ok (drawC_ok hmix (retOf_ok nest1_ok))
theorem ch1 {ρ : Rho} {w : World} {cs0 : List Frame} (hw0 : WR 10 ρ h0 w) : StepTo Tryz.prog 10 ρ st20 st22 (Frame.enter Tryz.prog 71 ta1 .normal) [] cs0 w := by
  have s20 : StepTo Tryz.prog 10 ρ st20 st20 (Frame.enter Tryz.prog 71 ta1 .normal) [] cs0 w := start_ok hw0 (closedArr_ren _ _ (by kernel_rfl))
  have s21 := segS_ok stp1_ok seg21 s20
  have s22 := segS_ok stp1_ok seg22 s21
  exact s22
theorem tell1 : TellG Tryz.prog 10 gl 71 ta1 tv1 := tell_of_segs (by kernel_rfl) (by kernel_rfl) (fun ρ w cs0 H => ch1 H) (by kernel_rfl) (by kernel_rfl) rfl
theorem hk2_ok : NestOK Tryz.prog 10 hk2 := told_ok hk1_ok tell1 glOK (by kernel_rfl) (by kernel_rfl)
theorem nest2_ok : NestOKR Tryz.prog 10 nest2 := callD_ok hmix hk2_ok 12
theorem stp2_ok : StepSound Tryz.prog 10 stp2 := bstep_ok hmix hk2_ok nest2_ok (drawC_ok hmix (retOf_ok nest2_ok))
theorem ch2 {ρ : Rho} {w : World} {cs0 : List Frame} (hw0 : WR 10 ρ h0 w) : StepTo Tryz.prog 10 ρ st18 st24 (Frame.enter Tryz.prog 36 ta2 .normal) [] cs0 w := by
  have s18 : StepTo Tryz.prog 10 ρ st18 st18 (Frame.enter Tryz.prog 36 ta2 .normal) [] cs0 w := start_ok hw0 (closedArr_ren _ _ (by kernel_rfl))
  have s19 := segS_ok stp1_ok seg19 s18
  have s23 := segS_ok stp2_ok seg23 s19
  have s24 := segS_ok stp2_ok seg24 s23
  exact s24
theorem tell2 : TellG Tryz.prog 10 gl 36 ta2 tv2 := tell_of_segs (by kernel_rfl) (by kernel_rfl) (fun ρ w cs0 H => ch2 H) (by kernel_rfl) (by kernel_rfl) rfl
theorem hk3_ok : NestOK Tryz.prog 10 hk3 := told_ok hk2_ok tell2 glOK (by kernel_rfl) (by kernel_rfl)
theorem nest3_ok : NestOKR Tryz.prog 10 nest3 := callD_ok hmix hk3_ok 12
theorem stp3_ok : StepSound Tryz.prog 10 stp3 := bstep_ok hmix hk3_ok nest3_ok (drawC_ok hmix (retOf_ok nest3_ok))
theorem ch3 {ρ : Rho} {w : World} {cs0 : List Frame} (hw0 : WR 10 ρ h0 w) : StepTo Tryz.prog 10 ρ st26 st28 (Frame.enter Tryz.prog 32 ta3 .normal) [] cs0 w := by
  have s26 : StepTo Tryz.prog 10 ρ st26 st26 (Frame.enter Tryz.prog 32 ta3 .normal) [] cs0 w := start_ok hw0 (closedArr_ren _ _ (by kernel_rfl))
  have s27 := segS_ok stp3_ok seg27 s26
  have s28 := segS_ok stp3_ok seg28 s27
  exact s28
theorem tell3 : TellG Tryz.prog 10 gl 32 ta3 tv3 := tell_of_segs (by kernel_rfl) (by kernel_rfl) (fun ρ w cs0 H => ch3 H) (by kernel_rfl) (by kernel_rfl) rfl
theorem hk4_ok : NestOK Tryz.prog 10 hk4 := told_ok hk3_ok tell3 glOK (by kernel_rfl) (by kernel_rfl)
theorem nest4_ok : NestOKR Tryz.prog 10 nest4 := callD_ok hmix hk4_ok 12
theorem stp4_ok : StepSound Tryz.prog 10 stp4 := bstep_ok hmix hk4_ok nest4_ok (drawC_ok hmix (retOf_ok nest4_ok))
theorem ch4 {ρ : Rho} {w : World} {cs0 : List Frame} (hw0 : WR 10 ρ h0 w) : StepTo Tryz.prog 10 ρ st33 st34 (Frame.enter Tryz.prog 67 ta4 .normal) [] cs0 w := by
  have s33 : StepTo Tryz.prog 10 ρ st33 st33 (Frame.enter Tryz.prog 67 ta4 .normal) [] cs0 w := start_ok hw0 (closedArr_ren _ _ (by kernel_rfl))
  have s34 := segS_ok stp4_ok seg34 s33
  exact s34
theorem tell4 : TellG Tryz.prog 10 gl 67 ta4 tv4 := tell_of_segs (by kernel_rfl) (by kernel_rfl) (fun ρ w cs0 H => ch4 H) (by kernel_rfl) (by kernel_rfl) rfl
theorem hk5_ok : NestOK Tryz.prog 10 hk5 := told_ok hk4_ok tell4 glOK (by kernel_rfl) (by kernel_rfl)
theorem nest5_ok : NestOKR Tryz.prog 10 nest5 := callD_ok hmix hk5_ok 12
theorem stp5_ok : StepSound Tryz.prog 10 stp5 := bstep_ok hmix hk5_ok nest5_ok (drawC_ok hmix (retOf_ok nest5_ok))
theorem ch5 {ρ : Rho} {w : World} {cs0 : List Frame} (hw0 : WR 10 ρ h0 w) : StepTo Tryz.prog 10 ρ st35 st36 (Frame.enter Tryz.prog 67 ta5 .normal) [] cs0 w := by
  have s35 : StepTo Tryz.prog 10 ρ st35 st35 (Frame.enter Tryz.prog 67 ta5 .normal) [] cs0 w := start_ok hw0 (closedArr_ren _ _ (by kernel_rfl))
  have s36 := segS_ok stp5_ok seg36 s35
  exact s36
theorem tell5 : TellG Tryz.prog 10 gl 67 ta5 tv5 := tell_of_segs (by kernel_rfl) (by kernel_rfl) (fun ρ w cs0 H => ch5 H) (by kernel_rfl) (by kernel_rfl) rfl
theorem hk6_ok : NestOK Tryz.prog 10 hk6 := told_ok hk5_ok tell5 glOK (by kernel_rfl) (by kernel_rfl)
theorem nest6_ok : NestOKR Tryz.prog 10 nest6 := callD_ok hmix hk6_ok 12
theorem stp6_ok : StepSound Tryz.prog 10 stp6 := bstep_ok hmix hk6_ok nest6_ok (drawC_ok hmix (retOf_ok nest6_ok))
theorem ch6 {ρ : Rho} {w : World} {cs0 : List Frame} (hw0 : WR 10 ρ h0 w) : StepTo Tryz.prog 10 ρ st31 st38 (Frame.enter Tryz.prog 37 ta6 .normal) [] cs0 w := by
  have s31 : StepTo Tryz.prog 10 ρ st31 st31 (Frame.enter Tryz.prog 37 ta6 .normal) [] cs0 w := start_ok hw0 (closedArr_ren _ _ (by kernel_rfl))
  have s32 := segS_ok stp4_ok seg32 s31
  have s37 := segS_ok stp6_ok seg37 s32
  have s38 := segS_ok stp6_ok seg38 s37
  exact s38
theorem tell6 : TellG Tryz.prog 10 gl 37 ta6 tv6 := tell_of_segs (by kernel_rfl) (by kernel_rfl) (fun ρ w cs0 H => ch6 H) (by kernel_rfl) (by kernel_rfl) rfl
theorem hk7_ok : NestOK Tryz.prog 10 hk7 := told_ok hk6_ok tell6 glOK (by kernel_rfl) (by kernel_rfl)
theorem nest7_ok : NestOKR Tryz.prog 10 nest7 := callD_ok hmix hk7_ok 12
theorem stp7_ok : StepSound Tryz.prog 10 stp7 := bstep_ok hmix hk7_ok nest7_ok (drawC_ok hmix (retOf_ok nest7_ok))
theorem ch7 {ρ : Rho} {w : World} {cs0 : List Frame} (hw0 : WR 10 ρ h0 w) : StepTo Tryz.prog 10 ρ st29 st39 (Frame.enter Tryz.prog 38 ta7 .normal) [] cs0 w := by
  have s29 : StepTo Tryz.prog 10 ρ st29 st29 (Frame.enter Tryz.prog 38 ta7 .normal) [] cs0 w := start_ok hw0 (closedArr_ren _ _ (by kernel_rfl))
  have s30 := segS_ok stp4_ok seg30 s29
  have s39 := segS_ok stp7_ok seg39 s30
  exact s39
theorem tell7 : TellG Tryz.prog 10 gl 38 ta7 tv7 := tell_of_segs (by kernel_rfl) (by kernel_rfl) (fun ρ w cs0 H => ch7 H) (by kernel_rfl) (by kernel_rfl) rfl
theorem hk8_ok : NestOK Tryz.prog 10 hk8 := told_ok hk7_ok tell7 glOK (by kernel_rfl) (by kernel_rfl)
theorem nest8_ok : NestOKR Tryz.prog 10 nest8 := callD_ok hmix hk8_ok 12
theorem stp8_ok : StepSound Tryz.prog 10 stp8 := bstep_ok hmix hk8_ok nest8_ok (drawC_ok hmix (retOf_ok nest8_ok))
theorem ch8 {ρ : Rho} {w : World} {cs0 : List Frame} (hw0 : WR 10 ρ h0 w) : StepTo Tryz.prog 10 ρ st41 st44 (Frame.enter Tryz.prog 46 ta8 .normal) [] cs0 w := by
  have s41 : StepTo Tryz.prog 10 ρ st41 st41 (Frame.enter Tryz.prog 46 ta8 .normal) [] cs0 w := start_ok hw0 (closedArr_ren _ _ (by kernel_rfl))
  have s42 := segS_ok stp8_ok seg42 s41
  have s43 := segS_ok stp8_ok seg43 s42
  have s44 := segS_ok stp8_ok seg44 s43
  exact s44
theorem tell8 : TellG Tryz.prog 10 gl 46 ta8 tv8 := tell_of_segs (by kernel_rfl) (by kernel_rfl) (fun ρ w cs0 H => ch8 H) (by kernel_rfl) (by kernel_rfl) rfl
theorem hk9_ok : NestOK Tryz.prog 10 hk9 := told_ok hk8_ok tell8 glOK (by kernel_rfl) (by kernel_rfl)
theorem nest9_ok : NestOKR Tryz.prog 10 nest9 := callD_ok hmix hk9_ok 12
theorem stp9_ok : StepSound Tryz.prog 10 stp9 := bstep_ok hmix hk9_ok nest9_ok (drawC_ok hmix (retOf_ok nest9_ok))
theorem ch9 {ρ : Rho} {w : World} {cs0 : List Frame} (hw0 : WR 10 ρ h0 w) : StepTo Tryz.prog 10 ρ st58 st63 (Frame.enter Tryz.prog 59 ta9 .normal) [] cs0 w := by
  have s58 : StepTo Tryz.prog 10 ρ st58 st58 (Frame.enter Tryz.prog 59 ta9 .normal) [] cs0 w := start_ok hw0 (closedArr_ren _ _ (by kernel_rfl))
  have s59 := segS_ok stp9_ok seg59 s58
  have s60 := segS_ok stp9_ok seg60 s59
  have s61 := segS_ok stp9_ok seg61 s60
  have s62 := segS_ok stp9_ok seg62 s61
  have s63 := segS_ok stp9_ok seg63 s62
  exact s63
theorem tell9 : TellG Tryz.prog 10 gl 59 ta9 tv9 := tell_of_segs (by kernel_rfl) (by kernel_rfl) (fun ρ w cs0 H => ch9 H) (by kernel_rfl) (by kernel_rfl) rfl
theorem hk10_ok : NestOK Tryz.prog 10 hk10 := told_ok hk9_ok tell9 glOK (by kernel_rfl) (by kernel_rfl)
theorem nest10_ok : NestOKR Tryz.prog 10 nest10 := callD_ok hmix hk10_ok 12
theorem stp10_ok : StepSound Tryz.prog 10 stp10 := bstep_ok hmix hk10_ok nest10_ok (drawC_ok hmix (retOf_ok nest10_ok))
theorem ch10 {ρ : Rho} {w : World} {cs0 : List Frame} (hw0 : WR 10 ρ h0 w) : StepTo Tryz.prog 10 ρ st65 st70 (Frame.enter Tryz.prog 61 ta10 .normal) [] cs0 w := by
  have s65 : StepTo Tryz.prog 10 ρ st65 st65 (Frame.enter Tryz.prog 61 ta10 .normal) [] cs0 w := start_ok hw0 (closedArr_ren _ _ (by kernel_rfl))
  have s66 := segS_ok stp10_ok seg66 s65
  have s67 := segS_ok stp10_ok seg67 s66
  have s68 := segS_ok stp10_ok seg68 s67
  have s69 := segS_ok stp10_ok seg69 s68
  have s70 := segS_ok stp10_ok seg70 s69
  exact s70
theorem tell10 : TellG Tryz.prog 10 gl 61 ta10 tv10 := tell_of_segs (by kernel_rfl) (by kernel_rfl) (fun ρ w cs0 H => ch10 H) (by kernel_rfl) (by kernel_rfl) rfl
theorem hk11_ok : NestOK Tryz.prog 10 hk11 := told_ok hk10_ok tell10 glOK (by kernel_rfl) (by kernel_rfl)
theorem nest11_ok : NestOKR Tryz.prog 10 nest11 := callD_ok hmix hk11_ok 12
theorem stp11_ok : StepSound Tryz.prog 10 stp11 := bstep_ok hmix hk11_ok nest11_ok (drawC_ok hmix (retOf_ok nest11_ok))
theorem ch11 {ρ : Rho} {w : World} {cs0 : List Frame} (hw0 : WR 10 ρ h0 w) : StepTo Tryz.prog 10 ρ st13 st71 (Frame.enter Tryz.prog 8 ta11 .normal) [] cs0 w := by
  have s13 : StepTo Tryz.prog 10 ρ st13 st13 (Frame.enter Tryz.prog 8 ta11 .normal) [] cs0 w := start_ok hw0 (closedArr_ren _ _ (by kernel_rfl))
  have s14 := segS_ok stp0_ok seg14 s13
  have s25 := segS_ok stp3_ok seg25 s14
  have s40 := segS_ok stp8_ok seg40 s25
  have s45 := segS_ok stp9_ok seg45 s40
  have s46 := segS_ok stp9_ok seg46 s45
  have s47 := segS_ok stp9_ok seg47 s46
  have s48 := segS_ok stp9_ok seg48 s47
  have s49 := segS_ok stp9_ok seg49 s48
  have s50 := segS_ok stp9_ok seg50 s49
  have s51 := segS_ok stp9_ok seg51 s50
  have s52 := segS_ok stp9_ok seg52 s51
  have s53 := segS_ok stp9_ok seg53 s52
  have s54 := segS_ok stp9_ok seg54 s53
  have s55 := segS_ok stp9_ok seg55 s54
  have s56 := segS_ok stp9_ok seg56 s55
  have s57 := segS_ok stp9_ok seg57 s56
  have s64 := segS_ok stp10_ok seg64 s57
  have s1071 := segS_ok stp11_ok seg1071 s64
  have s1072 := segS_ok stp11_ok seg1072 s1071
  have s1073a := drawStep_ok (s := st1072) hmix (retOf_ok nest11_ok) md1073 td1073 dall1073 s1072
  have s1073 : StepTo Tryz.prog 10 ρ st13 st1073 (Frame.enter Tryz.prog 8 ta11 .normal) [] cs0 w := forget_ok fg1073 (by rw [← fe1073, ← ce1073]; exact s1073a)
  have s71 := segS_ok stp11_ok seg71 s1073
  exact s71
theorem tell11 : TellG Tryz.prog 10 gl 8 ta11 tv11 := tell_of_segs (by kernel_rfl) (by kernel_rfl) (fun ρ w cs0 H => ch11 H) (by kernel_rfl) (by kernel_rfl) rfl
theorem hk12_ok : NestOK Tryz.prog 10 hk12 := told_ok hk11_ok tell11 glOK (by kernel_rfl) (by kernel_rfl)
theorem nest12_ok : NestOKR Tryz.prog 10 nest12 := callD_ok hmix hk12_ok 12
theorem stp12_ok : StepSound Tryz.prog 10 stp12 := bstep_ok hmix hk12_ok nest12_ok (drawC_ok hmix (retOf_ok nest12_ok))
theorem ch12 {ρ : Rho} {w : World} {cs0 : List Frame} (hw0 : WR 10 ρ h0 w) : StepTo Tryz.prog 10 ρ st73 st75 (Frame.enter Tryz.prog 32 ta12 .normal) [] cs0 w := by
  have s73 : StepTo Tryz.prog 10 ρ st73 st73 (Frame.enter Tryz.prog 32 ta12 .normal) [] cs0 w := start_ok hw0 (closedArr_ren _ _ (by kernel_rfl))
  have s74 := segS_ok stp12_ok seg74 s73
  have s75 := segS_ok stp12_ok seg75 s74
  exact s75
theorem tell12 : TellG Tryz.prog 10 gl 32 ta12 tv12 := tell_of_segs (by kernel_rfl) (by kernel_rfl) (fun ρ w cs0 H => ch12 H) (by kernel_rfl) (by kernel_rfl) rfl
theorem hk13_ok : NestOK Tryz.prog 10 hk13 := told_ok hk12_ok tell12 glOK (by kernel_rfl) (by kernel_rfl)
theorem nest13_ok : NestOKR Tryz.prog 10 nest13 := callD_ok hmix hk13_ok 12
theorem stp13_ok : StepSound Tryz.prog 10 stp13 := bstep_ok hmix hk13_ok nest13_ok (drawC_ok hmix (retOf_ok nest13_ok))
theorem ch13 {ρ : Rho} {w : World} {cs0 : List Frame} (hw0 : WR 10 ρ h0 w) : StepTo Tryz.prog 10 ρ st78 st80 (Frame.enter Tryz.prog 71 ta13 .normal) [] cs0 w := by
  have s78 : StepTo Tryz.prog 10 ρ st78 st78 (Frame.enter Tryz.prog 71 ta13 .normal) [] cs0 w := start_ok hw0 (closedArr_ren _ _ (by kernel_rfl))
  have s79 := segS_ok stp13_ok seg79 s78
  have s80 := segS_ok stp13_ok seg80 s79
  exact s80
theorem tell13 : TellG Tryz.prog 10 gl 71 ta13 tv13 := tell_of_segs (by kernel_rfl) (by kernel_rfl) (fun ρ w cs0 H => ch13 H) (by kernel_rfl) (by kernel_rfl) rfl
theorem hk14_ok : NestOK Tryz.prog 10 hk14 := told_ok hk13_ok tell13 glOK (by kernel_rfl) (by kernel_rfl)
theorem nest14_ok : NestOKR Tryz.prog 10 nest14 := callD_ok hmix hk14_ok 12
theorem stp14_ok : StepSound Tryz.prog 10 stp14 := bstep_ok hmix hk14_ok nest14_ok (drawC_ok hmix (retOf_ok nest14_ok))
theorem ch14 {ρ : Rho} {w : World} {cs0 : List Frame} (hw0 : WR 10 ρ h0 w) : StepTo Tryz.prog 10 ρ st76 st81 (Frame.enter Tryz.prog 36 ta14 .normal) [] cs0 w := by
  have s76 : StepTo Tryz.prog 10 ρ st76 st76 (Frame.enter Tryz.prog 36 ta14 .normal) [] cs0 w := start_ok hw0 (closedArr_ren _ _ (by kernel_rfl))
  have s77 := segS_ok stp13_ok seg77 s76
  have s81 := segS_ok stp14_ok seg81 s77
  exact s81
theorem tell14 : TellG Tryz.prog 10 gl 36 ta14 tv14 := tell_of_segs (by kernel_rfl) (by kernel_rfl) (fun ρ w cs0 H => ch14 H) (by kernel_rfl) (by kernel_rfl) rfl
theorem hk15_ok : NestOK Tryz.prog 10 hk15 := told_ok hk14_ok tell14 glOK (by kernel_rfl) (by kernel_rfl)
theorem nest15_ok : NestOKR Tryz.prog 10 nest15 := callD_ok hmix hk15_ok 12
theorem stp15_ok : StepSound Tryz.prog 10 stp15 := bstep_ok hmix hk15_ok nest15_ok (drawC_ok hmix (retOf_ok nest15_ok))
theorem ch15 {ρ : Rho} {w : World} {cs0 : List Frame} (hw0 : WR 10 ρ h0 w) : StepTo Tryz.prog 10 ρ st83 st85 (Frame.enter Tryz.prog 32 ta15 .normal) [] cs0 w := by
  have s83 : StepTo Tryz.prog 10 ρ st83 st83 (Frame.enter Tryz.prog 32 ta15 .normal) [] cs0 w := start_ok hw0 (closedArr_ren _ _ (by kernel_rfl))
  have s84 := segS_ok stp15_ok seg84 s83
  have s85 := segS_ok stp15_ok seg85 s84
  exact s85
theorem tell15 : TellG Tryz.prog 10 gl 32 ta15 tv15 := tell_of_segs (by kernel_rfl) (by kernel_rfl) (fun ρ w cs0 H => ch15 H) (by kernel_rfl) (by kernel_rfl) rfl
theorem hk16_ok : NestOK Tryz.prog 10 hk16 := told_ok hk15_ok tell15 glOK (by kernel_rfl) (by kernel_rfl)
theorem nest16_ok : NestOKR Tryz.prog 10 nest16 := callD_ok hmix hk16_ok 12
theorem stp16_ok : StepSound Tryz.prog 10 stp16 := bstep_ok hmix hk16_ok nest16_ok (drawC_ok hmix (retOf_ok nest16_ok))
theorem ch16 {ρ : Rho} {w : World} {cs0 : List Frame} (hw0 : WR 10 ρ h0 w) : StepTo Tryz.prog 10 ρ st88 st89 (Frame.enter Tryz.prog 67 ta16 .normal) [] cs0 w := by
  have s88 : StepTo Tryz.prog 10 ρ st88 st88 (Frame.enter Tryz.prog 67 ta16 .normal) [] cs0 w := start_ok hw0 (closedArr_ren _ _ (by kernel_rfl))
  have s89 := segS_ok stp16_ok seg89 s88
  exact s89
theorem tell16 : TellG Tryz.prog 10 gl 67 ta16 tv16 := tell_of_segs (by kernel_rfl) (by kernel_rfl) (fun ρ w cs0 H => ch16 H) (by kernel_rfl) (by kernel_rfl) rfl
theorem hk17_ok : NestOK Tryz.prog 10 hk17 := told_ok hk16_ok tell16 glOK (by kernel_rfl) (by kernel_rfl)
theorem nest17_ok : NestOKR Tryz.prog 10 nest17 := callD_ok hmix hk17_ok 12
theorem stp17_ok : StepSound Tryz.prog 10 stp17 := bstep_ok hmix hk17_ok nest17_ok (drawC_ok hmix (retOf_ok nest17_ok))
theorem ch17 {ρ : Rho} {w : World} {cs0 : List Frame} (hw0 : WR 10 ρ h0 w) : StepTo Tryz.prog 10 ρ st90 st91 (Frame.enter Tryz.prog 67 ta17 .normal) [] cs0 w := by
  have s90 : StepTo Tryz.prog 10 ρ st90 st90 (Frame.enter Tryz.prog 67 ta17 .normal) [] cs0 w := start_ok hw0 (closedArr_ren _ _ (by kernel_rfl))
  have s91 := segS_ok stp17_ok seg91 s90
  exact s91
theorem tell17 : TellG Tryz.prog 10 gl 67 ta17 tv17 := tell_of_segs (by kernel_rfl) (by kernel_rfl) (fun ρ w cs0 H => ch17 H) (by kernel_rfl) (by kernel_rfl) rfl
theorem hk18_ok : NestOK Tryz.prog 10 hk18 := told_ok hk17_ok tell17 glOK (by kernel_rfl) (by kernel_rfl)
theorem nest18_ok : NestOKR Tryz.prog 10 nest18 := callD_ok hmix hk18_ok 12
theorem stp18_ok : StepSound Tryz.prog 10 stp18 := bstep_ok hmix hk18_ok nest18_ok (drawC_ok hmix (retOf_ok nest18_ok))
theorem ch18 {ρ : Rho} {w : World} {cs0 : List Frame} (hw0 : WR 10 ρ h0 w) : StepTo Tryz.prog 10 ρ st86 st93 (Frame.enter Tryz.prog 37 ta18 .normal) [] cs0 w := by
  have s86 : StepTo Tryz.prog 10 ρ st86 st86 (Frame.enter Tryz.prog 37 ta18 .normal) [] cs0 w := start_ok hw0 (closedArr_ren _ _ (by kernel_rfl))
  have s87 := segS_ok stp16_ok seg87 s86
  have s92 := segS_ok stp18_ok seg92 s87
  have s93 := segS_ok stp18_ok seg93 s92
  exact s93
theorem tell18 : TellG Tryz.prog 10 gl 37 ta18 tv18 := tell_of_segs (by kernel_rfl) (by kernel_rfl) (fun ρ w cs0 H => ch18 H) (by kernel_rfl) (by kernel_rfl) rfl
theorem hk19_ok : NestOK Tryz.prog 10 hk19 := told_ok hk18_ok tell18 glOK (by kernel_rfl) (by kernel_rfl)
theorem nest19_ok : NestOKR Tryz.prog 10 nest19 := callD_ok hmix hk19_ok 12
theorem stp19_ok : StepSound Tryz.prog 10 stp19 := bstep_ok hmix hk19_ok nest19_ok (drawC_ok hmix (retOf_ok nest19_ok))
theorem ch19 {ρ : Rho} {w : World} {cs0 : List Frame} (hw0 : WR 10 ρ h0 w) : StepTo Tryz.prog 10 ρ st95 st96 (Frame.enter Tryz.prog 32 ta19 .normal) [] cs0 w := by
  have s95 : StepTo Tryz.prog 10 ρ st95 st95 (Frame.enter Tryz.prog 32 ta19 .normal) [] cs0 w := start_ok hw0 (closedArr_ren _ _ (by kernel_rfl))
  have s96 := segS_ok stp19_ok seg96 s95
  exact s96
theorem tell19 : TellG Tryz.prog 10 gl 32 ta19 tv19 := tell_of_segs (by kernel_rfl) (by kernel_rfl) (fun ρ w cs0 H => ch19 H) (by kernel_rfl) (by kernel_rfl) rfl
theorem hk20_ok : NestOK Tryz.prog 10 hk20 := told_ok hk19_ok tell19 glOK (by kernel_rfl) (by kernel_rfl)
theorem nest20_ok : NestOKR Tryz.prog 10 nest20 := callD_ok hmix hk20_ok 12
theorem stp20_ok : StepSound Tryz.prog 10 stp20 := bstep_ok hmix hk20_ok nest20_ok (drawC_ok hmix (retOf_ok nest20_ok))
theorem ch20 {ρ : Rho} {w : World} {cs0 : List Frame} (hw0 : WR 10 ρ h0 w) : StepTo Tryz.prog 10 ρ st109 st111 (Frame.enter Tryz.prog 46 ta20 .normal) [] cs0 w := by
  have s109 : StepTo Tryz.prog 10 ρ st109 st109 (Frame.enter Tryz.prog 46 ta20 .normal) [] cs0 w := start_ok hw0 (closedArr_ren _ _ (by kernel_rfl))
  have s110 := segS_ok stp20_ok seg110 s109
  have s111 := segS_ok stp20_ok seg111 s110
  exact s111
theorem tell20 : TellG Tryz.prog 10 gl 46 ta20 tv20 := tell_of_segs (by kernel_rfl) (by kernel_rfl) (fun ρ w cs0 H => ch20 H) (by kernel_rfl) (by kernel_rfl) rfl
theorem hk21_ok : NestOK Tryz.prog 10 hk21 := told_ok hk20_ok tell20 glOK (by kernel_rfl) (by kernel_rfl)
theorem nest21_ok : NestOKR Tryz.prog 10 nest21 := callD_ok hmix hk21_ok 12
theorem stp21_ok : StepSound Tryz.prog 10 stp21 := bstep_ok hmix hk21_ok nest21_ok (drawC_ok hmix (retOf_ok nest21_ok))
theorem ch21x {ρ : Rho} {w : World} {cs0 : List Frame} (hw0 : WR 10 ρ h0 w) : StepTo Tryz.prog 10 ρ st1113 st1114 (Frame.enter Tryz.prog 46 ta21x .normal) [] cs0 w := by
  have s1113 : StepTo Tryz.prog 10 ρ st1113 st1113 (Frame.enter Tryz.prog 46 ta21x .normal) [] cs0 w := start_ok hw0 (closedArr_ren _ _ (by kernel_rfl))
  exact segS_ok stp21_ok seg1114 s1113
theorem tell21x : TellG Tryz.prog 10 gl 46 ta21x tv21x := tell_of_segs (by kernel_rfl) (by kernel_rfl) (fun ρ w cs0 H => ch21x H) (by kernel_rfl) (by kernel_rfl) rfl
theorem hk21x_ok : NestOK Tryz.prog 10 hk21x := told_ok hk21_ok tell21x glOK (by kernel_rfl) (by kernel_rfl)
theorem nest21x_ok : NestOKR Tryz.prog 10 nest21x := callD_ok hmix hk21x_ok 12
theorem stp21x_ok : StepSound Tryz.prog 10 stp21x := bstep_ok hmix hk21x_ok nest21x_ok (drawC_ok hmix (retOf_ok nest21x_ok))
theorem ch21 {ρ : Rho} {w : World} {cs0 : List Frame} (hw0 : WR 10 ρ h0 w) : StepTo Tryz.prog 10 ρ st114 st116 (Frame.enter Tryz.prog 46 ta21 .normal) [] cs0 w := by
  have s114 : StepTo Tryz.prog 10 ρ st114 st114 (Frame.enter Tryz.prog 46 ta21 .normal) [] cs0 w := start_ok hw0 (closedArr_ren _ _ (by kernel_rfl))
  have s115 := segS_ok stp21_ok seg115 s114
  have s116 := segS_ok stp21_ok seg116 s115
  exact s116
theorem tell21 : TellG Tryz.prog 10 gl 46 ta21 tv21 := tell_of_segs (by kernel_rfl) (by kernel_rfl) (fun ρ w cs0 H => ch21 H) (by kernel_rfl) (by kernel_rfl) rfl
theorem hk22_ok : NestOK Tryz.prog 10 hk22 := told_ok hk21_ok tell21 glOK (by kernel_rfl) (by kernel_rfl)
theorem nest22_ok : NestOKR Tryz.prog 10 nest22 := callD_ok hmix hk22_ok 12
theorem stp22_ok : StepSound Tryz.prog 10 stp22 := bstep_ok hmix hk22_ok nest22_ok (drawC_ok hmix (retOf_ok nest22_ok))
theorem ch22 {ρ : Rho} {w : World} {cs0 : List Frame} (hw0 : WR 10 ρ h0 w) : StepTo Tryz.prog 10 ρ st134 st135 (Frame.enter Tryz.prog 32 ta22 .normal) [] cs0 w := by
  have s134 : StepTo Tryz.prog 10 ρ st134 st134 (Frame.enter Tryz.prog 32 ta22 .normal) [] cs0 w := start_ok hw0 (closedArr_ren _ _ (by kernel_rfl))
  have s135 := segS_ok stp22_ok seg135 s134
  exact s135
theorem tell22 : TellG Tryz.prog 10 gl 32 ta22 tv22 := tell_of_segs (by kernel_rfl) (by kernel_rfl) (fun ρ w cs0 H => ch22 H) (by kernel_rfl) (by kernel_rfl) rfl
theorem hk23_ok : NestOK Tryz.prog 10 hk23 := told_ok hk22_ok tell22 glOK (by kernel_rfl) (by kernel_rfl)
theorem nest23_ok : NestOKR Tryz.prog 10 nest23 := callD_ok hmix hk23_ok 12
theorem stp23_ok : StepSound Tryz.prog 10 stp23 := bstep_ok hmix hk23_ok nest23_ok (drawC_ok hmix (retOf_ok nest23_ok))
theorem ch23 {ρ : Rho} {w : World} {cs0 : List Frame} (hw0 : WR 10 ρ h0 w) : StepTo Tryz.prog 10 ρ st136 st141 (Frame.enter Tryz.prog 59 ta23 .normal) [] cs0 w := by
  have s136 : StepTo Tryz.prog 10 ρ st136 st136 (Frame.enter Tryz.prog 59 ta23 .normal) [] cs0 w := start_ok hw0 (closedArr_ren _ _ (by kernel_rfl))
  have s137 := segS_ok stp23_ok seg137 s136
  have s138 := segS_ok stp23_ok seg138 s137
  have s139 := segS_ok stp23_ok seg139 s138
  have s140 := segS_ok stp23_ok seg140 s139
  have s141 := segS_ok stp23_ok seg141 s140
  exact s141
theorem tell23 : TellG Tryz.prog 10 gl 59 ta23 tv23 := tell_of_segs (by kernel_rfl) (by kernel_rfl) (fun ρ w cs0 H => ch23 H) (by kernel_rfl) (by kernel_rfl) rfl
theorem hk24_ok : NestOK Tryz.prog 10 hk24 := told_ok hk23_ok tell23 glOK (by kernel_rfl) (by kernel_rfl)
theorem nest24_ok : NestOKR Tryz.prog 10 nest24 := callD_ok hmix hk24_ok 12
theorem stp24_ok : StepSound Tryz.prog 10 stp24 := bstep_ok hmix hk24_ok nest24_ok (drawC_ok hmix (retOf_ok nest24_ok))
theorem ch24 {ρ : Rho} {w : World} {cs0 : List Frame} (hw0 : WR 10 ρ h0 w) : StepTo Tryz.prog 10 ρ st144 st147 (Frame.enter Tryz.prog 61 ta24 .normal) [] cs0 w := by
  have s144 : StepTo Tryz.prog 10 ρ st144 st144 (Frame.enter Tryz.prog 61 ta24 .normal) [] cs0 w := start_ok hw0 (closedArr_ren _ _ (by kernel_rfl))
  have s145 := segS_ok stp24_ok seg145 s144
  have s146 := segS_ok stp24_ok seg146 s145
  have s147 := segS_ok stp24_ok seg147 s146
  exact s147
theorem tell24 : TellG Tryz.prog 10 gl 61 ta24 tv24 := tell_of_segs (by kernel_rfl) (by kernel_rfl) (fun ρ w cs0 H => ch24 H) (by kernel_rfl) (by kernel_rfl) rfl
theorem hk25_ok : NestOK Tryz.prog 10 hk25 := told_ok hk24_ok tell24 glOK (by kernel_rfl) (by kernel_rfl)
theorem nest25_ok : NestOKR Tryz.prog 10 nest25 := callD_ok hmix hk25_ok 12
theorem stp25_ok : StepSound Tryz.prog 10 stp25 := bstep_ok hmix hk25_ok nest25_ok (drawC_ok hmix (retOf_ok nest25_ok))
theorem ch25 {ρ : Rho} {w : World} {cs0 : List Frame} (hw0 : WR 10 ρ h0 w) : StepTo Tryz.prog 10 ρ st149 st154 (Frame.enter Tryz.prog 61 ta25 .normal) [] cs0 w := by
  have s149 : StepTo Tryz.prog 10 ρ st149 st149 (Frame.enter Tryz.prog 61 ta25 .normal) [] cs0 w := start_ok hw0 (closedArr_ren _ _ (by kernel_rfl))
  have s150 := segS_ok stp25_ok seg150 s149
  have s151 := segS_ok stp25_ok seg151 s150
  have s152 := segS_ok stp25_ok seg152 s151
  have s153 := segS_ok stp25_ok seg153 s152
  have s154 := segS_ok stp25_ok seg154 s153
  exact s154
theorem tell25 : TellG Tryz.prog 10 gl 61 ta25 tv25 := tell_of_segs (by kernel_rfl) (by kernel_rfl) (fun ρ w cs0 H => ch25 H) (by kernel_rfl) (by kernel_rfl) rfl
theorem hk26_ok : NestOK Tryz.prog 10 hk26 := told_ok hk25_ok tell25 glOK (by kernel_rfl) (by kernel_rfl)
theorem nest26_ok : NestOKR Tryz.prog 10 nest26 := callD_ok hmix hk26_ok 12
theorem stp26_ok : StepSound Tryz.prog 10 stp26 := bstep_ok hmix hk26_ok nest26_ok (drawC_ok hmix (retOf_ok nest26_ok))
theorem ch26 {ρ : Rho} {w : World} {cs0 : List Frame} (hw0 : WR 10 ρ h0 w) : StepTo Tryz.prog 10 ρ st1 st155 (Frame.enter Tryz.prog 3 ta26 .normal) [] cs0 w := by
  have s1 : StepTo Tryz.prog 10 ρ st1 st1 (Frame.enter Tryz.prog 3 ta26 .normal) [] cs0 w := start_ok hw0 (closedArr_ren _ _ (by kernel_rfl))
  have s2 := segS_ok stp0_ok seg2 s1
  have s3 := segS_ok stp0_ok seg3 s2
  have s4 := segS_ok stp0_ok seg4 s3
  have s5 := segS_ok stp0_ok seg5 s4
  have s6 := segS_ok stp0_ok seg6 s5
  have s7 := segS_ok stp0_ok seg7 s6
  have s8 := segS_ok stp0_ok seg8 s7
  have s9 := segS_ok stp0_ok seg9 s8
  have s10 := segS_ok stp0_ok seg10 s9
  have s11 := segS_ok stp0_ok seg11 s10
  have s12 := segS_ok stp0_ok seg12 s11
  have s72 := segS_ok stp12_ok seg72 s12
  have s82 := segS_ok stp15_ok seg82 s72
  have s94 := segS_ok stp19_ok seg94 s82
  have s97 := segS_ok stp20_ok seg97 s94
  have s98 := segS_ok stp20_ok seg98 s97
  have s99 := segS_ok stp20_ok seg99 s98
  have s100 := segS_ok stp20_ok seg100 s99
  have s101 := segS_ok stp20_ok seg101 s100
  have s102 := segS_ok stp20_ok seg102 s101
  have s103 := segS_ok stp20_ok seg103 s102
  have s104 := segS_ok stp20_ok seg104 s103
  have s105 := segS_ok stp20_ok seg105 s104
  have s106 := segS_ok stp20_ok seg106 s105
  have s107 := segS_ok stp20_ok seg107 s106
  have s108 := segS_ok stp20_ok seg108 s107
  have s1112 := segS_ok stp21_ok seg1112 s108
  have s112 := bump_ok (m := nx112) (by decide) (segS_ok stp21x_ok seg112 s1112)
  have s113 := segS_ok stp21_ok seg113 s112
  have s117 := segS_ok stp22_ok seg117 s113
  have s118 := segS_ok stp22_ok seg118 s117
  have s119 := segS_ok stp22_ok seg119 s118
  have s120 := segS_ok stp22_ok seg120 s119
  have s121 := segS_ok stp22_ok seg121 s120
  have s122 := segS_ok stp22_ok seg122 s121
  have s123 := segS_ok stp22_ok seg123 s122
  have s124 := segS_ok stp22_ok seg124 s123
  have s125 := segS_ok stp22_ok seg125 s124
  have s126 := segS_ok stp22_ok seg126 s125
  have s127 := segS_ok stp22_ok seg127 s126
  have s128 := segS_ok stp22_ok seg128 s127
  have s129 := segS_ok stp22_ok seg129 s128
  have s130 := segS_ok stp22_ok seg130 s129
  have s131 := segS_ok stp22_ok seg131 s130
  have s132 := segS_ok stp22_ok seg132 s131
  have s133 := segS_ok stp22_ok seg133 s132
  have s142 := segS_ok stp24_ok seg142 s133
  have s143 := segS_ok stp24_ok seg143 s142
  have s148 := segS_ok stp25_ok seg148 s143
  have s155 := segS_ok stp26_ok seg155 s148
  exact s155
theorem tell26 : TellG Tryz.prog 10 gl 3 ta26 tv26 := tell_of_segs (by kernel_rfl) (by kernel_rfl) (fun ρ w cs0 H => ch26 H) (by kernel_rfl) (by kernel_rfl) rfl
end Go.Proofs.YthghfccdllafbaaGreatDoor
