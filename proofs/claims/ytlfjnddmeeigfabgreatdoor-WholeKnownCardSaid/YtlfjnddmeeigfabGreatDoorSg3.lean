import Derived.Test.YtlfjnddmeeigfabGreatDoorK0
import Derived.Test.YtlfjnddmeeigfabGreatDoorSt0
import Derived.Test.YtlfjnddmeeigfabGreatDoorSt1
import Derived.Test.YtlfjnddmeeigfabGreatDoorSt2
set_option maxRecDepth 100000
namespace Go.Proofs.YtlfjnddmeeigfabGreatDoor
open Go Go.AE Seg
theorem seg16 : (go 1500 st15).map (Go.AE.look (hp16.map (·.1))) = some (fr16, cs16, nx16, hp16.map fun x => some x.2) := by kernel_rfl
theorem seg17 : (go 1500 st16).map (Go.AE.look (hp17.map (·.1))) = some (fr17, cs17, nx17, hp17.map fun x => some x.2) := by kernel_rfl
theorem seg18 : (go 1500 st17).map (Go.AE.look (hp18.map (·.1))) = some (fr18, cs18, nx18, hp18.map fun x => some x.2) := by kernel_rfl
theorem seg19 : (go 1500 st18).map (Go.AE.look (hp19.map (·.1))) = some (fr19, cs19, nx19, hp19.map fun x => some x.2) := by kernel_rfl
theorem seg20 : (go 1500 st19).map (Go.AE.look (hp20.map (·.1))) = some (fr20, cs20, nx20, hp20.map fun x => some x.2) := by kernel_rfl
end Go.Proofs.YtlfjnddmeeigfabGreatDoor
