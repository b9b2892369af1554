import Derived.Test.YtlfjnddmeeigfabGreatDoorK0
import Derived.Test.YtlfjnddmeeigfabGreatDoorSt0
import Derived.Test.YtlfjnddmeeigfabGreatDoorSt1
import Derived.Test.YtlfjnddmeeigfabGreatDoorSt2
set_option maxRecDepth 100000
namespace Go.Proofs.YtlfjnddmeeigfabGreatDoor
open Go Go.AE Seg
theorem seg41 : (go 1500 st40).map (Go.AE.look (hp41.map (·.1))) = some (fr41, cs41, nx41, hp41.map fun x => some x.2) := by kernel_rfl
theorem seg42 : (go 1500 st41).map (Go.AE.look (hp42.map (·.1))) = some (fr42, cs42, nx42, hp42.map fun x => some x.2) := by kernel_rfl
theorem seg43 : (go 1500 st42).map (Go.AE.look (hp43.map (·.1))) = some (fr43, cs43, nx43, hp43.map fun x => some x.2) := by kernel_rfl
theorem seg44 : (go 1500 st43).map (Go.AE.look (hp44.map (·.1))) = some (fr44, cs44, nx44, hp44.map fun x => some x.2) := by kernel_rfl
theorem seg45 : (go 1500 st44).map (Go.AE.look (hp45.map (·.1))) = some (fr45, cs45, nx45, hp45.map fun x => some x.2) := by kernel_rfl
end Go.Proofs.YtlfjnddmeeigfabGreatDoor
