import Derived.Test.YtlfjnddmeeigfabGreatDoorK0
import Derived.Test.YtlfjnddmeeigfabGreatDoorSt0
import Derived.Test.YtlfjnddmeeigfabGreatDoorSt1
import Derived.Test.YtlfjnddmeeigfabGreatDoorSt2
set_option maxRecDepth 100000
namespace Go.Proofs.YtlfjnddmeeigfabGreatDoor
open Go Go.AE Seg
theorem seg26 : (go 1500 st25).map (Go.AE.look (hp26.map (·.1))) = some (fr26, cs26, nx26, hp26.map fun x => some x.2) := by kernel_rfl
theorem seg27 : (go 1500 st26).map (Go.AE.look (hp27.map (·.1))) = some (fr27, cs27, nx27, hp27.map fun x => some x.2) := by kernel_rfl
theorem seg28 : (go 1500 st27).map (Go.AE.look (hp28.map (·.1))) = some (fr28, cs28, nx28, hp28.map fun x => some x.2) := by kernel_rfl
theorem seg29 : (go 1500 st28).map (Go.AE.look (hp29.map (·.1))) = some (fr29, cs29, nx29, hp29.map fun x => some x.2) := by kernel_rfl
theorem seg30 : (go 1500 st29).map (Go.AE.look (hp30.map (·.1))) = some (fr30, cs30, nx30, hp30.map fun x => some x.2) := by kernel_rfl
end Go.Proofs.YtlfjnddmeeigfabGreatDoor
