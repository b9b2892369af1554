import Derived.Test.YthghfccdllafbaaGreatDoorK1
import Derived.Test.YthghfccdllafbaaGreatDoorSt4
import Derived.Test.YthghfccdllafbaaGreatDoorSt0
import Derived.Test.YthghfccdllafbaaGreatDoorSt1
set_option maxRecDepth 100000
namespace Go.Proofs.YthghfccdllafbaaGreatDoor
open Go Go.AE Seg
theorem seg72 : (go12 213 st12).map (Go.AE.look (hp72.map (·.1))) = some (fr72, cs72, nx72, hp72.map fun x => some x.2) := by kernel_rfl
theorem seg74 : (go12 1904 st73).map (Go.AE.look (hp74.map (·.1))) = some (fr74, cs74, nx74, hp74.map fun x => some x.2) := by kernel_rfl
end Go.Proofs.YthghfccdllafbaaGreatDoor
