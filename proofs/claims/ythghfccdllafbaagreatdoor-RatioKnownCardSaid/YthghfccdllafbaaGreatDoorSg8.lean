import Derived.Test.YthghfccdllafbaaGreatDoorK1
import Derived.Test.YthghfccdllafbaaGreatDoorSt0
set_option maxRecDepth 100000
namespace Go.Proofs.YthghfccdllafbaaGreatDoor
open Go Go.AE Seg
theorem seg61 : (go9 2969 st60).map (Go.AE.look (hp61.map (·.1))) = some (fr61, cs61, nx61, hp61.map fun x => some x.2) := by kernel_rfl
theorem seg62 : (go9 2985 st61).map (Go.AE.look (hp62.map (·.1))) = some (fr62, cs62, nx62, hp62.map fun x => some x.2) := by kernel_rfl
theorem seg63 : (go9 47 st62).map (Go.AE.look (hp63.map (·.1))) = some (fr63, cs63, nx63, hp63.map fun x => some x.2) := by kernel_rfl
theorem seg64 : (go10 169 st57).map (Go.AE.look (hp64.map (·.1))) = some (fr64, cs64, nx64, hp64.map fun x => some x.2) := by kernel_rfl
theorem seg66 : (go10 3000 st65).map (Go.AE.look (hp66.map (·.1))) = some (fr66, cs66, nx66, hp66.map fun x => some x.2) := by kernel_rfl
theorem seg67 : (go10 2675 st66).map (Go.AE.look (hp67.map (·.1))) = some (fr67, cs67, nx67, hp67.map fun x => some x.2) := by kernel_rfl
end Go.Proofs.YthghfccdllafbaaGreatDoor
