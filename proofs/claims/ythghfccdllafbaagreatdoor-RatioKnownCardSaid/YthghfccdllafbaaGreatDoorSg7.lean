import Derived.Test.YthghfccdllafbaaGreatDoorK1
import Derived.Test.YthghfccdllafbaaGreatDoorSt0
set_option maxRecDepth 100000
namespace Go.Proofs.YthghfccdllafbaaGreatDoor
open Go Go.AE Seg
theorem seg54 : (go9 2772 st53).map (Go.AE.look (hp54.map (·.1))) = some (fr54, cs54, nx54, hp54.map fun x => some x.2) := by kernel_rfl
theorem seg55 : (go9 1147 st54).map (Go.AE.look (hp55.map (·.1))) = some (fr55, cs55, nx55, hp55.map fun x => some x.2) := by kernel_rfl
theorem seg56 : (go9 580 st55).map (Go.AE.look (hp56.map (·.1))) = some (fr56, cs56, nx56, hp56.map fun x => some x.2) := by kernel_rfl
theorem seg57 : (go9 64 st56).map (Go.AE.look (hp57.map (·.1))) = some (fr57, cs57, nx57, hp57.map fun x => some x.2) := by kernel_rfl
theorem seg59 : (go9 1766 st58).map (Go.AE.look (hp59.map (·.1))) = some (fr59, cs59, nx59, hp59.map fun x => some x.2) := by kernel_rfl
theorem seg60 : (go9 3000 st59).map (Go.AE.look (hp60.map (·.1))) = some (fr60, cs60, nx60, hp60.map fun x => some x.2) := by kernel_rfl
end Go.Proofs.YthghfccdllafbaaGreatDoor
