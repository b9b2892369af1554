import Derived.Test.YthghfccdllafbaaGreatDoorK1
import Derived.Test.YthghfccdllafbaaGreatDoorSt2
import Derived.Test.YthghfccdllafbaaGreatDoorSt3
set_option maxRecDepth 100000
namespace Go.Proofs.YthghfccdllafbaaGreatDoor
open Go Go.AE Seg
theorem seg154 : (go25 45 st153).map (Go.AE.look (hp154.map (·.1))) = some (fr154, cs154, nx154, hp154.map fun x => some x.2) := by kernel_rfl
theorem seg155 : (go26 39 st148).map (Go.AE.look (hp155.map (·.1))) = some (fr155, cs155, nx155, hp155.map fun x => some x.2) := by kernel_rfl
end Go.Proofs.YthghfccdllafbaaGreatDoor
