import Derived.Test.YtlfjnddmeeigfabGreatDoorK0
import Derived.Test.YtlfjnddmeeigfabGreatDoorSt0
import Derived.Test.YtlfjnddmeeigfabGreatDoorSt1
import Derived.Test.YtlfjnddmeeigfabGreatDoorSt2
set_option maxRecDepth 100000
namespace Go.Proofs.YtlfjnddmeeigfabGreatDoor
open Go Go.AE Seg
theorem seg11 : (go 361 st10).map (Go.AE.look (hp11.map (·.1))) = some (fr11, cs11, nx11, hp11.map fun x => some x.2) := by kernel_rfl
theorem seg12 : (go 255 st11).map (Go.AE.look (hp12.map (·.1))) = some (fr12, cs12, nx12, hp12.map fun x => some x.2) := by kernel_rfl
theorem seg13 : (go 178 st12).map (Go.AE.look (hp13.map (·.1))) = some (fr13, cs13, nx13, hp13.map fun x => some x.2) := by kernel_rfl
theorem seg14 : (go 1500 st13).map (Go.AE.look (hp14.map (·.1))) = some (fr14, cs14, nx14, hp14.map fun x => some x.2) := by kernel_rfl
theorem seg15 : (go 1500 st14).map (Go.AE.look (hp15.map (·.1))) = some (fr15, cs15, nx15, hp15.map fun x => some x.2) := by kernel_rfl
end Go.Proofs.YtlfjnddmeeigfabGreatDoor
