import Derived.Test.YthghfccdllafbaaGreatDoorK1
import Derived.Test.YthghfccdllafbaaGreatDoorSt0
import Derived.Test.YthghfccdllafbaaGreatDoorSt2
set_option maxRecDepth 100000
namespace Go.Proofs.YthghfccdllafbaaGreatDoor
open Go Go.AE Seg
theorem seg147 : (go24 106 st146).map (Go.AE.look (hp147.map (·.1))) = some (fr147, cs147, nx147, hp147.map fun x => some x.2) := by kernel_rfl
theorem seg148 : (go25 165 st143).map (Go.AE.look (hp148.map (·.1))) = some (fr148, cs148, nx148, hp148.map fun x => some x.2) := by kernel_rfl
theorem seg150 : (go25 2301 st149).map (Go.AE.look (hp150.map (·.1))) = some (fr150, cs150, nx150, hp150.map fun x => some x.2) := by kernel_rfl
theorem seg151 : (go25 2681 st150).map (Go.AE.look (hp151.map (·.1))) = some (fr151, cs151, nx151, hp151.map fun x => some x.2) := by kernel_rfl
theorem seg152 : (go25 3000 st151).map (Go.AE.look (hp152.map (·.1))) = some (fr152, cs152, nx152, hp152.map fun x => some x.2) := by kernel_rfl
theorem seg153 : (go25 136 st152).map (Go.AE.look (hp153.map (·.1))) = some (fr153, cs153, nx153, hp153.map fun x => some x.2) := by kernel_rfl
end Go.Proofs.YthghfccdllafbaaGreatDoor
