import Derived.Test.YtlfjnddmeeigfabGreatDoorK0
import Derived.Test.YtlfjnddmeeigfabGreatDoorSt0
import Derived.Test.YtlfjnddmeeigfabGreatDoorSt1
import Derived.Test.YtlfjnddmeeigfabGreatDoorSt2
set_option maxRecDepth 100000
namespace Go.Proofs.YtlfjnddmeeigfabGreatDoor
open Go Go.AE Seg
theorem seg31 : (go 1500 st30).map (Go.AE.look (hp31.map (·.1))) = some (fr31, cs31, nx31, hp31.map fun x => some x.2) := by kernel_rfl
theorem seg32 : (go 1500 st31).map (Go.AE.look (hp32.map (·.1))) = some (fr32, cs32, nx32, hp32.map fun x => some x.2) := by kernel_rfl
theorem seg33 : (go 1500 st32).map (Go.AE.look (hp33.map (·.1))) = some (fr33, cs33, nx33, hp33.map fun x => some x.2) := by kernel_rfl
theorem seg34 : (go 1500 st33).map (Go.AE.look (hp34.map (·.1))) = some (fr34, cs34, nx34, hp34.map fun x => some x.2) := by kernel_rfl
theorem seg35 : (go 1500 st34).map (Go.AE.look (hp35.map (·.1))) = some (fr35, cs35, nx35, hp35.map fun x => some x.2) := by kernel_rfl
end Go.Proofs.YtlfjnddmeeigfabGreatDoor
