import Derived.Test.YthghfccdllafbaaGreatDoorK1
import Derived.Test.YthghfccdllafbaaGreatDoorSt0
import Derived.Test.YthghfccdllafbaaGreatDoorSt1
set_option maxRecDepth 100000
namespace Go.Proofs.YthghfccdllafbaaGreatDoor
open Go Go.AE Seg
theorem seg84 : (go15 1904 st83).map (Go.AE.look (hp84.map (·.1))) = some (fr84, cs84, nx84, hp84.map fun x => some x.2) := by kernel_rfl
theorem seg85 : (go15 1 st84).map (Go.AE.look (hp85.map (·.1))) = some (fr85, cs85, nx85, hp85.map fun x => some x.2) := by kernel_rfl
theorem seg87 : (go16 7 st86).map (Go.AE.look (hp87.map (·.1))) = some (fr87, cs87, nx87, hp87.map fun x => some x.2) := by kernel_rfl
theorem seg89 : (go16 1770 st88).map (Go.AE.look (hp89.map (·.1))) = some (fr89, cs89, nx89, hp89.map fun x => some x.2) := by kernel_rfl
theorem seg91 : (go17 1758 st90).map (Go.AE.look (hp91.map (·.1))) = some (fr91, cs91, nx91, hp91.map fun x => some x.2) := by kernel_rfl
theorem seg92 : (go18 84 st87).map (Go.AE.look (hp92.map (·.1))) = some (fr92, cs92, nx92, hp92.map fun x => some x.2) := by kernel_rfl
end Go.Proofs.YthghfccdllafbaaGreatDoor
