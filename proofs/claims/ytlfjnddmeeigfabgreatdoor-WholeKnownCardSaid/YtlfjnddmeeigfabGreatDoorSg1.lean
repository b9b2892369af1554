import Derived.Test.YtlfjnddmeeigfabGreatDoorK0
import Derived.Test.YtlfjnddmeeigfabGreatDoorSt0
import Derived.Test.YtlfjnddmeeigfabGreatDoorSt1
import Derived.Test.YtlfjnddmeeigfabGreatDoorSt2
set_option maxRecDepth 100000
namespace Go.Proofs.YtlfjnddmeeigfabGreatDoor
open Go Go.AE Seg
theorem seg6 : (go 1500 st5).map (Go.AE.look (hp6.map (·.1))) = some (fr6, cs6, nx6, hp6.map fun x => some x.2) := by kernel_rfl
theorem seg7 : (go 1500 st6).map (Go.AE.look (hp7.map (·.1))) = some (fr7, cs7, nx7, hp7.map fun x => some x.2) := by kernel_rfl
theorem seg8 : (go 1500 st7).map (Go.AE.look (hp8.map (·.1))) = some (fr8, cs8, nx8, hp8.map fun x => some x.2) := by kernel_rfl
theorem seg9 : (go 1500 st8).map (Go.AE.look (hp9.map (·.1))) = some (fr9, cs9, nx9, hp9.map fun x => some x.2) := by kernel_rfl
theorem seg10 : (go 372 st9).map (Go.AE.look (hp10.map (·.1))) = some (fr10, cs10, nx10, hp10.map fun x => some x.2) := by kernel_rfl
end Go.Proofs.YtlfjnddmeeigfabGreatDoor
