import Derived.Test.YthghfccdllafbaaGreatDoorK1
import Derived.Test.YthghfccdllafbaaGreatDoorSt0
import Derived.Test.YthghfccdllafbaaGreatDoorSt2
set_option maxRecDepth 100000
namespace Go.Proofs.YthghfccdllafbaaGreatDoor
open Go Go.AE Seg
theorem seg132 : (go22 386 st131).map (Go.AE.look (hp132.map (·.1))) = some (fr132, cs132, nx132, hp132.map fun x => some x.2) := by kernel_rfl
theorem seg133 : (go22 130 st132).map (Go.AE.look (hp133.map (·.1))) = some (fr133, cs133, nx133, hp133.map fun x => some x.2) := by kernel_rfl
theorem seg135 : (go22 2170 st134).map (Go.AE.look (hp135.map (·.1))) = some (fr135, cs135, nx135, hp135.map fun x => some x.2) := by kernel_rfl
theorem seg137 : (go23 1862 st136).map (Go.AE.look (hp137.map (·.1))) = some (fr137, cs137, nx137, hp137.map fun x => some x.2) := by kernel_rfl
theorem seg138 : (go23 3000 st137).map (Go.AE.look (hp138.map (·.1))) = some (fr138, cs138, nx138, hp138.map fun x => some x.2) := by kernel_rfl
theorem seg139 : (go23 3000 st138).map (Go.AE.look (hp139.map (·.1))) = some (fr139, cs139, nx139, hp139.map fun x => some x.2) := by kernel_rfl
end Go.Proofs.YthghfccdllafbaaGreatDoor
