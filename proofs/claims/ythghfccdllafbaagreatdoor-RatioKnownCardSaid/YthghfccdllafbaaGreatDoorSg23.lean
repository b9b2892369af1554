import Derived.Test.YthghfccdllafbaaGreatDoorK1
import Derived.Test.YthghfccdllafbaaGreatDoorSt4
import Derived.Test.YthghfccdllafbaaGreatDoorSt0
import Derived.Test.YthghfccdllafbaaGreatDoorSt1
set_option maxRecDepth 100000
namespace Go.Proofs.YthghfccdllafbaaGreatDoor
open Go Go.AE Seg
theorem seg70 : (go10 31 st69).map (Go.AE.look (hp70.map (·.1))) = some (fr70, cs70, nx70, hp70.map fun x => some x.2) := by kernel_rfl
theorem seg1071 : (go11 20 st64).map (Go.AE.look (hp1071.map (·.1))) = some (fr1071, cs1071, nx1071, hp1071.map fun x => some x.2) := by kernel_rfl
end Go.Proofs.YthghfccdllafbaaGreatDoor
