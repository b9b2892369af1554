import Derived.Test.YtdgbfelbfhgglaaGreatDoorH1
import Derived.Test.YtdgbfelbfhgglaaGreatDoorPK1
import Derived.Test.YtdgbfelbfhgglaaGreatDoorLG
import Derived.Test.YtdgbfelbfhgglaaGreatDoorDx
import Derived.Test.YtdgbfelbfhgglaaGreatDoorPDr0
import Derived.Test.YtdgbfelbfhgglaaGreatDoorSt0
import Derived.Test.YtdgbfelbfhgglaaGreatDoorSt1
import Derived.Test.YtdgbfelbfhgglaaGreatDoorSg0
import Derived.Test.YtdgbfelbfhgglaaGreatDoorSg1
import Derived.Test.YtdgbfelbfhgglaaGreatDoorSg3
import Derived.Test.YtdgbfelbfhgglaaGreatDoorSg4
import Derived.Test.YtdgbfelbfhgglaaGreatDoorSg5
import Derived.Test.YtdgbfelbfhgglaaGreatDoorSg7
import Derived.Test.YtdgbfelbfhgglaaGreatDoorSg9
import Derived.Test.YtdgbfelbfhgglaaGreatDoorSg10
import Derived.Test.YtdgbfelbfhgglaaGreatDoorSg11
import Derived.Test.YtdgbfelbfhgglaaGreatDoorSg12
import Derived.Test.YtdgbfelbfhgglaaGreatDoorSg14
import Derived.Test.YtdgbfelbfhgglaaGreatDoorSg15
import Derived.Test.YtdgbfelbfhgglaaGreatDoorSg17
import Derived.Test.YtdgbfelbfhgglaaGreatDoorSg19
import Derived.Test.YtdgbfelbfhgglaaGreatDoorSg22
import Derived.Test.YtdgbfelbfhgglaaGreatDoorSg32
set_option linter.unusedVariables false
set_option linter.unusedSimpArgs false
set_option maxRecDepth 100000
namespace Go.Proofs.YtdgbfelbfhgglaaGreatDoor.Cn
open Go Go.AE Seg
theorem errVal_renG(st:Nat→List (Value×Nat)×Nat):renL (rhoG 10 st) [errVal]=some [errVal]:=by
 have h9:renA (rhoG 10 st) ⟨9,166,none⟩=some ⟨9,166,none⟩:=by rfl
 simp[renL,ren,renArr,errVal,h9]
theorem glOK:GlOK 10 gl:=by
 intro st x hx
 simp only[gl,List.mem_cons,List.not_mem_nil,or_false]at hx
 rcases hx with rfl|rfl|rfl|rfl
 ·exact⟨by decide,_,_,rfl,errVal_renG st⟩
 ·exact⟨by decide,_,_,rfl,closedL_ren _ _ (by kernel_rfl)⟩
 ·exact⟨by decide,_,_,rfl,closedL_ren _ _ (by kernel_rfl)⟩
 ·exact⟨by decide,_,_,rfl,closedL_ren _ _ (by kernel_rfl)⟩
theorem hmix:Tryz.prog.follows .mixedOrders=true:=by kernel_rfl
theorem hk0_ok:NestOK Tryz.prog 10 hk0:=asHook_ok
theorem nest0_ok:NestOKR Tryz.prog 10 nest0:=callD_ok hmix hk0_ok 12
theorem stp0_ok:StepSound Tryz.prog 10 stp0:=bstep_ok hmix hk0_ok nest0_ok (drawC_ok hmix (retOf_ok nest0_ok))
theorem ch0{ρ:Rho}{w:World}{cs0:List Frame}(hw0:WR 10 ρ h0 w):StepTo Tryz.prog 10 ρ st3 st5 (Frame.enter Tryz.prog 38 ta0 .normal) [] cs0 w:=by
 have s3:StepTo Tryz.prog 10 ρ st3 st3 (Frame.enter Tryz.prog 38 ta0 .normal) [] cs0 w:=start_ok hw0 (closedArr_ren _ _ (by kernel_rfl))
 have s4:=segS_ok stp0_ok seg4 s3
 have s5:=segS_ok stp0_ok seg5 s4
 exact s5
theorem tell0:TellG Tryz.prog 10 gl 38 ta0 tv0:=tell_of_segs (by kernel_rfl) (by kernel_rfl) (fun ρ w cs0 H=>ch0 H) (by kernel_rfl) (by kernel_rfl) rfl
theorem hk1_ok:NestOK Tryz.prog 10 hk1:=told_ok hk0_ok tell0 glOK (by kernel_rfl) (by kernel_rfl)
theorem nest1_ok:NestOKR Tryz.prog 10 nest1:=callD_ok hmix hk1_ok 12
theorem stp1_ok:StepSound Tryz.prog 10 stp1:=bstep_ok hmix hk1_ok nest1_ok (drawC_ok hmix (retOf_ok nest1_ok))
theorem ch1{ρ:Rho}{w:World}{cs0:List Frame}(hw0:WR 10 ρ h0 w):StepTo Tryz.prog 10 ρ st8 st11 (Frame.enter Tryz.prog 58 ta1 .normal) [] cs0 w:=by
 have s8:StepTo Tryz.prog 10 ρ st8 st8 (Frame.enter Tryz.prog 58 ta1 .normal) [] cs0 w:=start_ok hw0 (closedArr_ren _ _ (by kernel_rfl))
 have s9:=segS_ok stp1_ok seg9 s8
 have s10:=segS_ok stp1_ok seg10 s9
 have s11:=segS_ok stp1_ok seg11 s10
 exact s11
theorem tell1:TellG Tryz.prog 10 gl 58 ta1 tv1:=tell_of_segs (by kernel_rfl) (by kernel_rfl) (fun ρ w cs0 H=>ch1 H) (by kernel_rfl) (by kernel_rfl) rfl
theorem hk2_ok:NestOK Tryz.prog 10 hk2:=told_ok hk1_ok tell1 glOK (by kernel_rfl) (by kernel_rfl)
theorem nest2_ok:NestOKR Tryz.prog 10 nest2:=callD_ok hmix hk2_ok 12
theorem stp2_ok:StepSound Tryz.prog 10 stp2:=bstep_ok hmix hk2_ok nest2_ok (drawC_ok hmix (retOf_ok nest2_ok))
theorem ch2{ρ:Rho}{w:World}{cs0:List Frame}(hw0:WR 10 ρ h0 w):StepTo Tryz.prog 10 ρ st6 st13 (Frame.enter Tryz.prog 25 ta2 .normal) [] cs0 w:=by
 have s6:StepTo Tryz.prog 10 ρ st6 st6 (Frame.enter Tryz.prog 25 ta2 .normal) [] cs0 w:=start_ok hw0 (closedArr_ren _ _ (by kernel_rfl))
 have s7:=segS_ok stp1_ok seg7 s6
 have s12:=segS_ok stp2_ok seg12 s7
 have s13:=segS_ok stp2_ok seg13 s12
 exact s13
theorem tell2:TellG Tryz.prog 10 gl 25 ta2 tv2:=tell_of_segs (by kernel_rfl) (by kernel_rfl) (fun ρ w cs0 H=>ch2 H) (by kernel_rfl) (by kernel_rfl) rfl
theorem hk3_ok:NestOK Tryz.prog 10 hk3:=told_ok hk2_ok tell2 glOK (by kernel_rfl) (by kernel_rfl)
theorem nest3_ok:NestOKR Tryz.prog 10 nest3:=callD_ok hmix hk3_ok 12
theorem stp3_ok:StepSound Tryz.prog 10 stp3:=bstep_ok hmix hk3_ok nest3_ok (drawC_ok hmix (retOf_ok nest3_ok))
theorem ch3{ρ:Rho}{w:World}{cs0:List Frame}(hw0:WR 10 ρ h0 w):StepTo Tryz.prog 10 ρ st15 st18 (Frame.enter Tryz.prog 38 ta3 .normal) [] cs0 w:=by
 have s15:StepTo Tryz.prog 10 ρ st15 st15 (Frame.enter Tryz.prog 38 ta3 .normal) [] cs0 w:=start_ok hw0 (closedArr_ren _ _ (by kernel_rfl))
 have s16:=segS_ok stp3_ok seg16 s15
 have s17:=segS_ok stp3_ok seg17 s16
 have s18:=segS_ok stp3_ok seg18 s17
 exact s18
theorem tell3:TellG Tryz.prog 10 gl 38 ta3 tv3:=tell_of_segs (by kernel_rfl) (by kernel_rfl) (fun ρ w cs0 H=>ch3 H) (by kernel_rfl) (by kernel_rfl) rfl
theorem hk4_ok:NestOK Tryz.prog 10 hk4:=told_ok hk3_ok tell3 glOK (by kernel_rfl) (by kernel_rfl)
theorem nest4_ok:NestOKR Tryz.prog 10 nest4:=callD_ok hmix hk4_ok 12
theorem stp4_ok:StepSound Tryz.prog 10 stp4:=bstep_ok hmix hk4_ok nest4_ok (drawC_ok hmix (retOf_ok nest4_ok))
theorem ch4{ρ:Rho}{w:World}{cs0:List Frame}(hw0:WR 10 ρ h0 w):StepTo Tryz.prog 10 ρ st23 st24 (Frame.enter Tryz.prog 65 ta4 .normal) [] cs0 w:=by
 have s23:StepTo Tryz.prog 10 ρ st23 st23 (Frame.enter Tryz.prog 65 ta4 .normal) [] cs0 w:=start_ok hw0 (closedArr_ren _ _ (by kernel_rfl))
 have s24:=segS_ok stp4_ok seg24 s23
 exact s24
theorem tell4:TellG Tryz.prog 10 gl 65 ta4 tv4:=tell_of_segs (by kernel_rfl) (by kernel_rfl) (fun ρ w cs0 H=>ch4 H) (by kernel_rfl) (by kernel_rfl) rfl
theorem hk5_ok:NestOK Tryz.prog 10 hk5:=told_ok hk4_ok tell4 glOK (by kernel_rfl) (by kernel_rfl)
theorem nest5_ok:NestOKR Tryz.prog 10 nest5:=callD_ok hmix hk5_ok 12
theorem stp5_ok:StepSound Tryz.prog 10 stp5:=bstep_ok hmix hk5_ok nest5_ok (drawC_ok hmix (retOf_ok nest5_ok))
theorem ch5{ρ:Rho}{w:World}{cs0:List Frame}(hw0:WR 10 ρ h0 w):StepTo Tryz.prog 10 ρ st25 st26 (Frame.enter Tryz.prog 65 ta5 .normal) [] cs0 w:=by
 have s25:StepTo Tryz.prog 10 ρ st25 st25 (Frame.enter Tryz.prog 65 ta5 .normal) [] cs0 w:=start_ok hw0 (closedArr_ren _ _ (by kernel_rfl))
 have s26:=segS_ok stp5_ok seg26 s25
 exact s26
theorem tell5:TellG Tryz.prog 10 gl 65 ta5 tv5:=tell_of_segs (by kernel_rfl) (by kernel_rfl) (fun ρ w cs0 H=>ch5 H) (by kernel_rfl) (by kernel_rfl) rfl
theorem hk6_ok:NestOK Tryz.prog 10 hk6:=told_ok hk5_ok tell5 glOK (by kernel_rfl) (by kernel_rfl)
theorem nest6_ok:NestOKR Tryz.prog 10 nest6:=callD_ok hmix hk6_ok 12
theorem stp6_ok:StepSound Tryz.prog 10 stp6:=bstep_ok hmix hk6_ok nest6_ok (drawC_ok hmix (retOf_ok nest6_ok))
theorem ch6{ρ:Rho}{w:World}{cs0:List Frame}(hw0:WR 10 ρ h0 w):StepTo Tryz.prog 10 ρ st21 st28 (Frame.enter Tryz.prog 27 ta6 .normal) [] cs0 w:=by
 have s21:StepTo Tryz.prog 10 ρ st21 st21 (Frame.enter Tryz.prog 27 ta6 .normal) [] cs0 w:=start_ok hw0 (closedArr_ren _ _ (by kernel_rfl))
 have s22:=segS_ok stp4_ok seg22 s21
 have s27:=segS_ok stp6_ok seg27 s22
 have s28:=segS_ok stp6_ok seg28 s27
 exact s28
theorem tell6:TellG Tryz.prog 10 gl 27 ta6 tv6:=tell_of_segs (by kernel_rfl) (by kernel_rfl) (fun ρ w cs0 H=>ch6 H) (by kernel_rfl) (by kernel_rfl) rfl
theorem hk7_ok:NestOK Tryz.prog 10 hk7:=told_ok hk6_ok tell6 glOK (by kernel_rfl) (by kernel_rfl)
theorem nest7_ok:NestOKR Tryz.prog 10 nest7:=callD_ok hmix hk7_ok 12
theorem stp7_ok:StepSound Tryz.prog 10 stp7:=bstep_ok hmix hk7_ok nest7_ok (drawC_ok hmix (retOf_ok nest7_ok))
theorem ch7{ρ:Rho}{w:World}{cs0:List Frame}(hw0:WR 10 ρ h0 w):StepTo Tryz.prog 10 ρ st19 st29 (Frame.enter Tryz.prog 28 ta7 .normal) [] cs0 w:=by
 have s19:StepTo Tryz.prog 10 ρ st19 st19 (Frame.enter Tryz.prog 28 ta7 .normal) [] cs0 w:=start_ok hw0 (closedArr_ren _ _ (by kernel_rfl))
 have s20:=segS_ok stp4_ok seg20 s19
 have s29:=segS_ok stp7_ok seg29 s20
 exact s29
theorem tell7:TellG Tryz.prog 10 gl 28 ta7 tv7:=tell_of_segs (by kernel_rfl) (by kernel_rfl) (fun ρ w cs0 H=>ch7 H) (by kernel_rfl) (by kernel_rfl) rfl
theorem hk8_ok:NestOK Tryz.prog 10 hk8:=told_ok hk7_ok tell7 glOK (by kernel_rfl) (by kernel_rfl)
theorem nest8_ok:NestOKR Tryz.prog 10 nest8:=callD_ok hmix hk8_ok 12
theorem stp8_ok:StepSound Tryz.prog 10 stp8:=bstep_ok hmix hk8_ok nest8_ok (drawC_ok hmix (retOf_ok nest8_ok))
theorem ch8{ρ:Rho}{w:World}{cs0:List Frame}(hw0:WR 10 ρ h0 w):StepTo Tryz.prog 10 ρ st31 st33 (Frame.enter Tryz.prog 75 ta8 .normal) [] cs0 w:=by
 have s31:StepTo Tryz.prog 10 ρ st31 st31 (Frame.enter Tryz.prog 75 ta8 .normal) [] cs0 w:=start_ok hw0 (closedArr_ren _ _ (by kernel_rfl))
 have s32:=segS_ok stp8_ok seg32 s31
 have s33:=segS_ok stp8_ok seg33 s32
 exact s33
theorem tell8:TellG Tryz.prog 10 gl 75 ta8 tv8:=tell_of_segs (by kernel_rfl) (by kernel_rfl) (fun ρ w cs0 H=>ch8 H) (by kernel_rfl) (by kernel_rfl) rfl
theorem hk9_ok:NestOK Tryz.prog 10 hk9:=told_ok hk8_ok tell8 glOK (by kernel_rfl) (by kernel_rfl)
theorem nest9_ok:NestOKR Tryz.prog 10 nest9:=callD_ok hmix hk9_ok 12
theorem stp9_ok:StepSound Tryz.prog 10 stp9:=bstep_ok hmix hk9_ok nest9_ok (drawC_ok hmix (retOf_ok nest9_ok))
theorem ch9{ρ:Rho}{w:World}{cs0:List Frame}(hw0:WR 10 ρ h0 w):StepTo Tryz.prog 10 ρ st34 st38 (Frame.enter Tryz.prog 76 ta9 .normal) [] cs0 w:=by
 have s34:StepTo Tryz.prog 10 ρ st34 st34 (Frame.enter Tryz.prog 76 ta9 .normal) [] cs0 w:=start_ok hw0 (closedArr_ren _ _ (by kernel_rfl))
 have s35:=segS_ok stp9_ok seg35 s34
 have s36:=segS_ok stp9_ok seg36 s35
 have s37:=segS_ok stp9_ok seg37 s36
 have s38:=segS_ok stp9_ok seg38 s37
 exact s38
theorem tell9:TellG Tryz.prog 10 gl 76 ta9 tv9:=tell_of_segs (by kernel_rfl) (by kernel_rfl) (fun ρ w cs0 H=>ch9 H) (by kernel_rfl) (by kernel_rfl) rfl
theorem hk10_ok:NestOK Tryz.prog 10 hk10:=told_ok hk9_ok tell9 glOK (by kernel_rfl) (by kernel_rfl)
theorem nest10_ok:NestOKR Tryz.prog 10 nest10:=callD_ok hmix hk10_ok 12
theorem stp10_ok:StepSound Tryz.prog 10 stp10:=bstep_ok hmix hk10_ok nest10_ok (drawC_ok hmix (retOf_ok nest10_ok))
theorem ch10{ρ:Rho}{w:World}{cs0:List Frame}(hw0:WR 10 ρ h0 w):StepTo Tryz.prog 10 ρ st57 st59 (Frame.enter Tryz.prog 38 ta10 .normal) [] cs0 w:=by
 have s57:StepTo Tryz.prog 10 ρ st57 st57 (Frame.enter Tryz.prog 38 ta10 .normal) [] cs0 w:=start_ok hw0 (closedArr_ren _ _ (by kernel_rfl))
 have s58:=segS_ok stp10_ok seg58 s57
 have s59:=segS_ok stp10_ok seg59 s58
 exact s59
theorem tell10:TellG Tryz.prog 10 gl 38 ta10 tv10:=tell_of_segs (by kernel_rfl) (by kernel_rfl) (fun ρ w cs0 H=>ch10 H) (by kernel_rfl) (by kernel_rfl) rfl
theorem hk11_ok:NestOK Tryz.prog 10 hk11:=told_ok hk10_ok tell10 glOK (by kernel_rfl) (by kernel_rfl)
theorem nest11_ok:NestOKR Tryz.prog 10 nest11:=callD_ok hmix hk11_ok 12
theorem stp11_ok:StepSound Tryz.prog 10 stp11:=bstep_ok hmix hk11_ok nest11_ok (drawC_ok hmix (retOf_ok nest11_ok))
theorem ch11{ρ:Rho}{w:World}{cs0:List Frame}(hw0:WR 10 ρ h0 w):StepTo Tryz.prog 10 ρ st60 st69 (Frame.enter Tryz.prog 85 ta11 .normal) [] cs0 w:=by
 have s60:StepTo Tryz.prog 10 ρ st60 st60 (Frame.enter Tryz.prog 85 ta11 .normal) [] cs0 w:=start_ok hw0 (closedArr_ren _ _ (by kernel_rfl))
 have s61:=segS_ok stp11_ok seg61 s60
 have s62:=segS_ok stp11_ok seg62 s61
 have s63:=segS_ok stp11_ok seg63 s62
 have s64:=segS_ok stp11_ok seg64 s63
 have s65:=segS_ok stp11_ok seg65 s64
 have s66:=segS_ok stp11_ok seg66 s65
 have s67:=segS_ok stp11_ok seg67 s66
 have s68:=segS_ok stp11_ok seg68 s67
 have s69:=segS_ok stp11_ok seg69 s68
 exact s69
theorem tell11:TellG Tryz.prog 10 gl 85 ta11 tv11:=tell_of_segs (by kernel_rfl) (by kernel_rfl) (fun ρ w cs0 H=>ch11 H) (by kernel_rfl) (by kernel_rfl) rfl
theorem hk12_ok:NestOK Tryz.prog 10 hk12:=told_ok hk11_ok tell11 glOK (by kernel_rfl) (by kernel_rfl)
theorem nest12_ok:NestOKR Tryz.prog 10 nest12:=callD_ok hmix hk12_ok 12
theorem stp12_ok:StepSound Tryz.prog 10 stp12:=bstep_ok hmix hk12_ok nest12_ok (drawC_ok hmix (retOf_ok nest12_ok))
theorem ch12{ρ:Rho}{w:World}{cs0:List Frame}(hw0:WR 10 ρ h0 w):StepTo Tryz.prog 10 ρ st71 st73 (Frame.enter Tryz.prog 75 ta12 .normal) [] cs0 w:=by
 have s71:StepTo Tryz.prog 10 ρ st71 st71 (Frame.enter Tryz.prog 75 ta12 .normal) [] cs0 w:=start_ok hw0 (closedArr_ren _ _ (by kernel_rfl))
 have s72:=segS_ok stp12_ok seg72 s71
 have s73:=segS_ok stp12_ok seg73 s72
 exact s73
theorem tell12:TellG Tryz.prog 10 gl 75 ta12 tv12:=tell_of_segs (by kernel_rfl) (by kernel_rfl) (fun ρ w cs0 H=>ch12 H) (by kernel_rfl) (by kernel_rfl) rfl
theorem hk13_ok:NestOK Tryz.prog 10 hk13:=told_ok hk12_ok tell12 glOK (by kernel_rfl) (by kernel_rfl)
theorem nest13_ok:NestOKR Tryz.prog 10 nest13:=callD_ok hmix hk13_ok 12
theorem stp13_ok:StepSound Tryz.prog 10 stp13:=bstep_ok hmix hk13_ok nest13_ok (drawC_ok hmix (retOf_ok nest13_ok))
theorem ch13{ρ:Rho}{w:World}{cs0:List Frame}(hw0:WR 10 ρ h0 w):StepTo Tryz.prog 10 ρ st74 st82 (Frame.enter Tryz.prog 87 ta13 .normal) [] cs0 w:=by
 have s74:StepTo Tryz.prog 10 ρ st74 st74 (Frame.enter Tryz.prog 87 ta13 .normal) [] cs0 w:=start_ok hw0 (closedArr_ren _ _ (by kernel_rfl))
 have s75:=segS_ok stp13_ok seg75 s74
 have s76:=segS_ok stp13_ok seg76 s75
 have s77:=segS_ok stp13_ok seg77 s76
 have s78:=segS_ok stp13_ok seg78 s77
 have s79:=segS_ok stp13_ok seg79 s78
 have s80:=segS_ok stp13_ok seg80 s79
 have s81:=segS_ok stp13_ok seg81 s80
 have s82:=segS_ok stp13_ok seg82 s81
 exact s82
theorem tell13:TellG Tryz.prog 10 gl 87 ta13 tv13:=tell_of_segs (by kernel_rfl) (by kernel_rfl) (fun ρ w cs0 H=>ch13 H) (by kernel_rfl) (by kernel_rfl) rfl
theorem hk14_ok:NestOK Tryz.prog 10 hk14:=told_ok hk13_ok tell13 glOK (by kernel_rfl) (by kernel_rfl)
theorem nest14_ok:NestOKR Tryz.prog 10 nest14:=callD_ok hmix hk14_ok 12
theorem stp14_ok:StepSound Tryz.prog 10 stp14:=bstep_ok hmix hk14_ok nest14_ok (drawC_ok hmix (retOf_ok nest14_ok))
theorem ch14{ρ:Rho}{w:World}{cs0:List Frame}(hw0:WR 10 ρ h0 w):StepTo Tryz.prog 10 ρ st1 st84 (Frame.enter Tryz.prog 12 ta14 .normal) [] cs0 w:=by
 have s1:StepTo Tryz.prog 10 ρ st1 st1 (Frame.enter Tryz.prog 12 ta14 .normal) [] cs0 w:=start_ok hw0 (closedArr_ren _ _ (by kernel_rfl))
 have s2:=segS_ok stp0_ok seg2 s1
 have s14:=segS_ok stp3_ok seg14 s2
 have s30:=segS_ok stp8_ok seg30 s14
 have s39:=segS_ok stp10_ok seg39 s30
 have s40:=segS_ok stp10_ok seg40 s39
 have s41:=segS_ok stp10_ok seg41 s40
 have s42:=segS_ok stp10_ok seg42 s41
 have s43:=segS_ok stp10_ok seg43 s42
 have s44:=segS_ok stp10_ok seg44 s43
 have s45:=segS_ok stp10_ok seg45 s44
 have s46:=segS_ok stp10_ok seg46 s45
 have s47:=segS_ok stp10_ok seg47 s46
 have s48:=segS_ok stp10_ok seg48 s47
 have s49:=segS_ok stp10_ok seg49 s48
 have s50:=segS_ok stp10_ok seg50 s49
 have s51:=segS_ok stp10_ok seg51 s50
 have s52:=segS_ok stp10_ok seg52 s51
 have s53:=segS_ok stp10_ok seg53 s52
 have s54:=segS_ok stp10_ok seg54 s53
 have s55:=segS_ok stp10_ok seg55 s54
 have s56:=segS_ok stp10_ok seg56 s55
 have s70:=segS_ok stp12_ok seg70 s56
 have s83:=segS_ok stp14_ok seg83 s70
 have s1083a:=drawStep_ok (s:=st83) hmix (retOf_ok nest14_ok) md1083 td1083 dall1083 s83
 have s1083:StepTo Tryz.prog 10 ρ st1 st1083 (Frame.enter Tryz.prog 12 ta14 .normal) [] cs0 w:=forget_ok fg1083 (by rw[←fe1083,←ce1083];exact s1083a)
 have s84:=segS_ok stp14_ok seg84 s1083
 exact s84
theorem tell14:TellG Tryz.prog 10 gl 12 ta14 tv14:=tell_of_segs (by kernel_rfl) (by kernel_rfl) (fun ρ w cs0 H=>ch14 H) (by kernel_rfl) (by kernel_rfl) rfl
end Go.Proofs.YtdgbfelbfhgglaaGreatDoor.Cn
