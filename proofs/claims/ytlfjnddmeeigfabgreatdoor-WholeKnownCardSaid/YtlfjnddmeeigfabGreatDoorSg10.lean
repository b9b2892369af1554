import Derived.Test.YtlfjnddmeeigfabGreatDoorK0
import Derived.Test.YtlfjnddmeeigfabGreatDoorSt0
import Derived.Test.YtlfjnddmeeigfabGreatDoorSt1
import Derived.Test.YtlfjnddmeeigfabGreatDoorSt2
set_option maxRecDepth 100000
namespace Go.Proofs.YtlfjnddmeeigfabGreatDoor
open Go Go.AE Seg
theorem seg51 : (go 1500 st50).map (Go.AE.look (hp51.map (·.1))) = some (fr51, cs51, nx51, hp51.map fun x => some x.2) := by kernel_rfl
theorem seg52 : (go 1500 st51).map (Go.AE.look (hp52.map (·.1))) = some (fr52, cs52, nx52, hp52.map fun x => some x.2) := by kernel_rfl
theorem seg53 : (go 1500 st52).map (Go.AE.look (hp53.map (·.1))) = some (fr53, cs53, nx53, hp53.map fun x => some x.2) := by kernel_rfl
theorem seg54 : (go 1500 st53).map (Go.AE.look (hp54.map (·.1))) = some (fr54, cs54, nx54, hp54.map fun x => some x.2) := by kernel_rfl
theorem seg55 : (go 1500 st54).map (Go.AE.look (hp55.map (·.1))) = some (fr55, cs55, nx55, hp55.map fun x => some x.2) := by kernel_rfl
end Go.Proofs.YtlfjnddmeeigfabGreatDoor
