import Derived.Test.YtlfjnddmeeigfabGreatDoorK0
import Derived.Test.YtlfjnddmeeigfabGreatDoorSt0
import Derived.Test.YtlfjnddmeeigfabGreatDoorSt1
import Derived.Test.YtlfjnddmeeigfabGreatDoorSt2
set_option maxRecDepth 100000
namespace Go.Proofs.YtlfjnddmeeigfabGreatDoor
open Go Go.AE Seg
theorem seg21 : (go 1500 st20).map (Go.AE.look (hp21.map (·.1))) = some (fr21, cs21, nx21, hp21.map fun x => some x.2) := by kernel_rfl
theorem seg22 : (go 1500 st21).map (Go.AE.look (hp22.map (·.1))) = some (fr22, cs22, nx22, hp22.map fun x => some x.2) := by kernel_rfl
theorem seg23 : (go 1500 st22).map (Go.AE.look (hp23.map (·.1))) = some (fr23, cs23, nx23, hp23.map fun x => some x.2) := by kernel_rfl
theorem seg24 : (go 1500 st23).map (Go.AE.look (hp24.map (·.1))) = some (fr24, cs24, nx24, hp24.map fun x => some x.2) := by kernel_rfl
theorem seg25 : (go 1500 st24).map (Go.AE.look (hp25.map (·.1))) = some (fr25, cs25, nx25, hp25.map fun x => some x.2) := by kernel_rfl
end Go.Proofs.YtlfjnddmeeigfabGreatDoor
