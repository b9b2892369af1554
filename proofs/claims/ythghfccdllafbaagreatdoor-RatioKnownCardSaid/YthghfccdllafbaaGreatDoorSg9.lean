import Derived.Test.YthghfccdllafbaaGreatDoorK1
import Derived.Test.YthghfccdllafbaaGreatDoorSt4
import Derived.Test.YthghfccdllafbaaGreatDoorSt0
import Derived.Test.YthghfccdllafbaaGreatDoorSt1
set_option maxRecDepth 100000
namespace Go.Proofs.YthghfccdllafbaaGreatDoor
open Go Go.AE Seg
theorem seg68 : (go10 3000 st67).map (Go.AE.look (hp68.map (·.1))) = some (fr68, cs68, nx68, hp68.map fun x => some x.2) := by kernel_rfl
theorem seg69 : (go10 320 st68).map (Go.AE.look (hp69.map (·.1))) = some (fr69, cs69, nx69, hp69.map fun x => some x.2) := by kernel_rfl
end Go.Proofs.YthghfccdllafbaaGreatDoor
