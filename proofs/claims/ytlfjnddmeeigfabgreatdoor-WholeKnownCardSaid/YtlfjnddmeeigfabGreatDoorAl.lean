import Derived.Test.YtlfjnddmeeigfabGreatDoorH1
import Derived.Test.YtlfjnddmeeigfabGreatDoorSt0
import Derived.Test.YtlfjnddmeeigfabGreatDoorSt1
import Derived.Test.YtlfjnddmeeigfabGreatDoorSt2
import Derived.Test.YtlfjnddmeeigfabGreatDoorSg0
import Derived.Test.YtlfjnddmeeigfabGreatDoorSg1
import Derived.Test.YtlfjnddmeeigfabGreatDoorSg2
import Derived.Test.YtlfjnddmeeigfabGreatDoorSg3
import Derived.Test.YtlfjnddmeeigfabGreatDoorSg4
import Derived.Test.YtlfjnddmeeigfabGreatDoorSg5
import Derived.Test.YtlfjnddmeeigfabGreatDoorSg6
import Derived.Test.YtlfjnddmeeigfabGreatDoorSg7
import Derived.Test.YtlfjnddmeeigfabGreatDoorSg8
import Derived.Test.YtlfjnddmeeigfabGreatDoorSg9
import Derived.Test.YtlfjnddmeeigfabGreatDoorSg10
import Derived.Test.YtlfjnddmeeigfabGreatDoorSg11
set_option maxRecDepth 100000
namespace Go.Proofs.YtlfjnddmeeigfabGreatDoor
open Go Go.AE Seg
/-- The whole run, stretch by stretch. -/
theorem all_segs {ρ : Rho} {w : World} {cs0 : List Frame} (H : WR 5 ρ h0 w) : StepTo Tryz.prog 5 ρ st0 st57 (Frame.enter Tryz.prog 3 #[] .normal) [] cs0 w := by
  have s0 : StepTo Tryz.prog 5 ρ st0 st0 (Frame.enter Tryz.prog 3 #[] .normal) [] cs0 w := start_ok H (by rfl)
  have s1 := seg_ok asHook_ok dr_ok seg1 s0
  have s2 := seg_ok asHook_ok dr_ok seg2 s1
  have s3 := seg_ok asHook_ok dr_ok seg3 s2
  have s4 := seg_ok asHook_ok dr_ok seg4 s3
  have s5 := seg_ok asHook_ok dr_ok seg5 s4
  have s6 := seg_ok asHook_ok dr_ok seg6 s5
  have s7 := seg_ok asHook_ok dr_ok seg7 s6
  have s8 := seg_ok asHook_ok dr_ok seg8 s7
  have s9 := seg_ok asHook_ok dr_ok seg9 s8
  have s10 := seg_ok asHook_ok dr_ok seg10 s9
  have s11 := seg_ok asHook_ok dr_ok seg11 s10
  have s12 := seg_ok asHook_ok dr_ok seg12 s11
  have s13 := seg_ok asHook_ok dr_ok seg13 s12
  have s14 := seg_ok asHook_ok dr_ok seg14 s13
  have s15 := seg_ok asHook_ok dr_ok seg15 s14
  have s16 := seg_ok asHook_ok dr_ok seg16 s15
  have s17 := seg_ok asHook_ok dr_ok seg17 s16
  have s18 := seg_ok asHook_ok dr_ok seg18 s17
  have s19 := seg_ok asHook_ok dr_ok seg19 s18
  have s20 := seg_ok asHook_ok dr_ok seg20 s19
  have s21 := seg_ok asHook_ok dr_ok seg21 s20
  have s22 := seg_ok asHook_ok dr_ok seg22 s21
  have s23 := seg_ok asHook_ok dr_ok seg23 s22
  have s24 := seg_ok asHook_ok dr_ok seg24 s23
  have s25 := seg_ok asHook_ok dr_ok seg25 s24
  have s26 := seg_ok asHook_ok dr_ok seg26 s25
  have s27 := seg_ok asHook_ok dr_ok seg27 s26
  have s28 := seg_ok asHook_ok dr_ok seg28 s27
  have s29 := seg_ok asHook_ok dr_ok seg29 s28
  have s30 := seg_ok asHook_ok dr_ok seg30 s29
  have s31 := seg_ok asHook_ok dr_ok seg31 s30
  have s32 := seg_ok asHook_ok dr_ok seg32 s31
  have s33 := seg_ok asHook_ok dr_ok seg33 s32
  have s34 := seg_ok asHook_ok dr_ok seg34 s33
  have s35 := seg_ok asHook_ok dr_ok seg35 s34
  have s36 := seg_ok asHook_ok dr_ok seg36 s35
  have s37 := seg_ok asHook_ok dr_ok seg37 s36
  have s38 := seg_ok asHook_ok dr_ok seg38 s37
  have s39 := seg_ok asHook_ok dr_ok seg39 s38
  have s40 := seg_ok asHook_ok dr_ok seg40 s39
  have s41 := seg_ok asHook_ok dr_ok seg41 s40
  have s42 := seg_ok asHook_ok dr_ok seg42 s41
  have s43 := seg_ok asHook_ok dr_ok seg43 s42
  have s44 := seg_ok asHook_ok dr_ok seg44 s43
  have s45 := seg_ok asHook_ok dr_ok seg45 s44
  have s46 := seg_ok asHook_ok dr_ok seg46 s45
  have s47 := seg_ok asHook_ok dr_ok seg47 s46
  have s48 := seg_ok asHook_ok dr_ok seg48 s47
  have s49 := seg_ok asHook_ok dr_ok seg49 s48
  have s50 := seg_ok asHook_ok dr_ok seg50 s49
  have s51 := seg_ok asHook_ok dr_ok seg51 s50
  have s52 := seg_ok asHook_ok dr_ok seg52 s51
  have s53 := seg_ok asHook_ok dr_ok seg53 s52
  have s54 := seg_ok asHook_ok dr_ok seg54 s53
  have s55 := seg_ok asHook_ok dr_ok seg55 s54
  have s56 := seg_ok asHook_ok dr_ok seg56 s55
  have s57 := seg_ok asHook_ok dr_ok seg57 s56
  exact s57
end Go.Proofs.YtlfjnddmeeigfabGreatDoor
