import Derived.Test.YtlfjnddmeeigfabGreatDoorK0
import Derived.Test.YtlfjnddmeeigfabGreatDoorSt0
import Derived.Test.YtlfjnddmeeigfabGreatDoorSt1
import Derived.Test.YtlfjnddmeeigfabGreatDoorSt2
set_option maxRecDepth 100000
namespace Go.Proofs.YtlfjnddmeeigfabGreatDoor
open Go Go.AE Seg
theorem seg1 : (go 1500 st0).map (Go.AE.look (hp1.map (·.1))) = some (fr1, cs1, nx1, hp1.map fun x => some x.2) := by kernel_rfl
theorem seg2 : (go 1500 st1).map (Go.AE.look (hp2.map (·.1))) = some (fr2, cs2, nx2, hp2.map fun x => some x.2) := by kernel_rfl
theorem seg3 : (go 1500 st2).map (Go.AE.look (hp3.map (·.1))) = some (fr3, cs3, nx3, hp3.map fun x => some x.2) := by kernel_rfl
theorem seg4 : (go 1500 st3).map (Go.AE.look (hp4.map (·.1))) = some (fr4, cs4, nx4, hp4.map fun x => some x.2) := by kernel_rfl
theorem seg5 : (go 1500 st4).map (Go.AE.look (hp5.map (·.1))) = some (fr5, cs5, nx5, hp5.map fun x => some x.2) := by kernel_rfl
end Go.Proofs.YtlfjnddmeeigfabGreatDoor
