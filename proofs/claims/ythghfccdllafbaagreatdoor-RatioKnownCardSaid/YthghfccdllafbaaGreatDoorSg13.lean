import Derived.Test.YthghfccdllafbaaGreatDoorK1
import Derived.Test.YthghfccdllafbaaGreatDoorSt1
set_option maxRecDepth 100000
namespace Go.Proofs.YthghfccdllafbaaGreatDoor
open Go Go.AE Seg
theorem seg100 : (go20 2011 st99).map (Go.AE.look (hp100.map (·.1))) = some (fr100, cs100, nx100, hp100.map fun x => some x.2) := by kernel_rfl
theorem seg101 : (go20 2068 st100).map (Go.AE.look (hp101.map (·.1))) = some (fr101, cs101, nx101, hp101.map fun x => some x.2) := by kernel_rfl
theorem seg102 : (go20 2505 st101).map (Go.AE.look (hp102.map (·.1))) = some (fr102, cs102, nx102, hp102.map fun x => some x.2) := by kernel_rfl
theorem seg103 : (go20 2985 st102).map (Go.AE.look (hp103.map (·.1))) = some (fr103, cs103, nx103, hp103.map fun x => some x.2) := by kernel_rfl
theorem seg104 : (go20 1016 st103).map (Go.AE.look (hp104.map (·.1))) = some (fr104, cs104, nx104, hp104.map fun x => some x.2) := by kernel_rfl
theorem seg105 : (go20 2918 st104).map (Go.AE.look (hp105.map (·.1))) = some (fr105, cs105, nx105, hp105.map fun x => some x.2) := by kernel_rfl
end Go.Proofs.YthghfccdllafbaaGreatDoor
