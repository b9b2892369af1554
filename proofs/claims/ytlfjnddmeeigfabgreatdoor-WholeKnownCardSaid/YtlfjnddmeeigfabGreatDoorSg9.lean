import Derived.Test.YtlfjnddmeeigfabGreatDoorK0
import Derived.Test.YtlfjnddmeeigfabGreatDoorSt0
import Derived.Test.YtlfjnddmeeigfabGreatDoorSt1
import Derived.Test.YtlfjnddmeeigfabGreatDoorSt2
set_option maxRecDepth 100000
namespace Go.Proofs.YtlfjnddmeeigfabGreatDoor
open Go Go.AE Seg
theorem seg46 : (go 1500 st45).map (Go.AE.look (hp46.map (·.1))) = some (fr46, cs46, nx46, hp46.map fun x => some x.2) := by kernel_rfl
theorem seg47 : (go 1500 st46).map (Go.AE.look (hp47.map (·.1))) = some (fr47, cs47, nx47, hp47.map fun x => some x.2) := by kernel_rfl
theorem seg48 : (go 1500 st47).map (Go.AE.look (hp48.map (·.1))) = some (fr48, cs48, nx48, hp48.map fun x => some x.2) := by kernel_rfl
theorem seg49 : (go 1500 st48).map (Go.AE.look (hp49.map (·.1))) = some (fr49, cs49, nx49, hp49.map fun x => some x.2) := by kernel_rfl
theorem seg50 : (go 1500 st49).map (Go.AE.look (hp50.map (·.1))) = some (fr50, cs50, nx50, hp50.map fun x => some x.2) := by kernel_rfl
end Go.Proofs.YtlfjnddmeeigfabGreatDoor
