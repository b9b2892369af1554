import Derived.Test.YtlfjnddmeeigfabGreatDoorK0
import Derived.Test.YtlfjnddmeeigfabGreatDoorSt0
import Derived.Test.YtlfjnddmeeigfabGreatDoorSt1
import Derived.Test.YtlfjnddmeeigfabGreatDoorSt2
set_option maxRecDepth 100000
namespace Go.Proofs.YtlfjnddmeeigfabGreatDoor
open Go Go.AE Seg
theorem seg36 : (go 1500 st35).map (Go.AE.look (hp36.map (·.1))) = some (fr36, cs36, nx36, hp36.map fun x => some x.2) := by kernel_rfl
theorem seg37 : (go 1500 st36).map (Go.AE.look (hp37.map (·.1))) = some (fr37, cs37, nx37, hp37.map fun x => some x.2) := by kernel_rfl
theorem seg38 : (go 1500 st37).map (Go.AE.look (hp38.map (·.1))) = some (fr38, cs38, nx38, hp38.map fun x => some x.2) := by kernel_rfl
theorem seg39 : (go 1500 st38).map (Go.AE.look (hp39.map (·.1))) = some (fr39, cs39, nx39, hp39.map fun x => some x.2) := by kernel_rfl
theorem seg40 : (go 1500 st39).map (Go.AE.look (hp40.map (·.1))) = some (fr40, cs40, nx40, hp40.map fun x => some x.2) := by kernel_rfl
end Go.Proofs.YtlfjnddmeeigfabGreatDoor
