import Derived.Test.YthghfccdllafbaaGreatDoorK1
import Derived.Test.YthghfccdllafbaaGreatDoorSt0
set_option maxRecDepth 100000
namespace Go.Proofs.YthghfccdllafbaaGreatDoor
open Go Go.AE Seg
theorem seg24 : (go2 1 st23).map (Go.AE.look (hp24.map (·.1))) = some (fr24, cs24, nx24, hp24.map fun x => some x.2) := by kernel_rfl
theorem seg25 : (go3 266 st14).map (Go.AE.look (hp25.map (·.1))) = some (fr25, cs25, nx25, hp25.map fun x => some x.2) := by kernel_rfl
theorem seg27 : (go3 1904 st26).map (Go.AE.look (hp27.map (·.1))) = some (fr27, cs27, nx27, hp27.map fun x => some x.2) := by kernel_rfl
theorem seg28 : (go3 1 st27).map (Go.AE.look (hp28.map (·.1))) = some (fr28, cs28, nx28, hp28.map fun x => some x.2) := by kernel_rfl
theorem seg30 : (go4 30 st29).map (Go.AE.look (hp30.map (·.1))) = some (fr30, cs30, nx30, hp30.map fun x => some x.2) := by kernel_rfl
theorem seg32 : (go4 7 st31).map (Go.AE.look (hp32.map (·.1))) = some (fr32, cs32, nx32, hp32.map fun x => some x.2) := by kernel_rfl
end Go.Proofs.YthghfccdllafbaaGreatDoor
