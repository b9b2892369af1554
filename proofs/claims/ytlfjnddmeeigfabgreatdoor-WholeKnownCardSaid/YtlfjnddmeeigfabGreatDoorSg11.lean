import Derived.Test.YtlfjnddmeeigfabGreatDoorK0
import Derived.Test.YtlfjnddmeeigfabGreatDoorSt0
import Derived.Test.YtlfjnddmeeigfabGreatDoorSt1
import Derived.Test.YtlfjnddmeeigfabGreatDoorSt2
set_option maxRecDepth 100000
namespace Go.Proofs.YtlfjnddmeeigfabGreatDoor
open Go Go.AE Seg
theorem seg56 : (go 1500 st55).map (Go.AE.look (hp56.map (·.1))) = some (fr56, cs56, nx56, hp56.map fun x => some x.2) := by kernel_rfl
theorem seg57 : (go 1413 st56).map (Go.AE.look (hp57.map (·.1))) = some (fr57, cs57, nx57, hp57.map fun x => some x.2) := by kernel_rfl
end Go.Proofs.YtlfjnddmeeigfabGreatDoor
