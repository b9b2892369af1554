import Derived.Test.YthghfccdllafbaaGreatDoorK1
import Derived.Test.YthghfccdllafbaaGreatDoorSt0
set_option maxRecDepth 100000
namespace Go.Proofs.YthghfccdllafbaaGreatDoor
open Go Go.AE Seg
theorem seg8 : (go0 2759 st7).map (Go.AE.look (hp8.map (·.1))) = some (fr8, cs8, nx8, hp8.map fun x => some x.2) := by kernel_rfl
theorem seg9 : (go0 2061 st8).map (Go.AE.look (hp9.map (·.1))) = some (fr9, cs9, nx9, hp9.map fun x => some x.2) := by kernel_rfl
theorem seg10 : (go0 1648 st9).map (Go.AE.look (hp10.map (·.1))) = some (fr10, cs10, nx10, hp10.map fun x => some x.2) := by kernel_rfl
theorem seg11 : (go0 344 st10).map (Go.AE.look (hp11.map (·.1))) = some (fr11, cs11, nx11, hp11.map fun x => some x.2) := by kernel_rfl
theorem seg12 : (go0 41 st11).map (Go.AE.look (hp12.map (·.1))) = some (fr12, cs12, nx12, hp12.map fun x => some x.2) := by kernel_rfl
theorem seg14 : (go0 210 st13).map (Go.AE.look (hp14.map (·.1))) = some (fr14, cs14, nx14, hp14.map fun x => some x.2) := by kernel_rfl
end Go.Proofs.YthghfccdllafbaaGreatDoor
