import Derived.Test.YthghfccdllafbaaGreatDoorK1
import Derived.Test.YthghfccdllafbaaGreatDoorSt0
set_option maxRecDepth 100000
namespace Go.Proofs.YthghfccdllafbaaGreatDoor
open Go Go.AE Seg
theorem seg2 : (go0 1606 st1).map (Go.AE.look (hp2.map (·.1))) = some (fr2, cs2, nx2, hp2.map fun x => some x.2) := by kernel_rfl
theorem seg3 : (go0 1331 st2).map (Go.AE.look (hp3.map (·.1))) = some (fr3, cs3, nx3, hp3.map fun x => some x.2) := by kernel_rfl
theorem seg4 : (go0 2553 st3).map (Go.AE.look (hp4.map (·.1))) = some (fr4, cs4, nx4, hp4.map fun x => some x.2) := by kernel_rfl
theorem seg5 : (go0 2800 st4).map (Go.AE.look (hp5.map (·.1))) = some (fr5, cs5, nx5, hp5.map fun x => some x.2) := by kernel_rfl
theorem seg6 : (go0 2766 st5).map (Go.AE.look (hp6.map (·.1))) = some (fr6, cs6, nx6, hp6.map fun x => some x.2) := by kernel_rfl
theorem seg7 : (go0 3000 st6).map (Go.AE.look (hp7.map (·.1))) = some (fr7, cs7, nx7, hp7.map fun x => some x.2) := by kernel_rfl
end Go.Proofs.YthghfccdllafbaaGreatDoor
