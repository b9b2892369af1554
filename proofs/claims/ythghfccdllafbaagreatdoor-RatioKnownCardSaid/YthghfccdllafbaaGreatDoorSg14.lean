import Derived.Test.YthghfccdllafbaaGreatDoorK1
import Derived.Test.YthghfccdllafbaaGreatDoorSt0
import Derived.Test.YthghfccdllafbaaGreatDoorSt1
set_option maxRecDepth 100000
namespace Go.Proofs.YthghfccdllafbaaGreatDoor
open Go Go.AE Seg
theorem seg106 : (go20 2171 st105).map (Go.AE.look (hp106.map (·.1))) = some (fr106, cs106, nx106, hp106.map fun x => some x.2) := by kernel_rfl
theorem seg107 : (go20 1843 st106).map (Go.AE.look (hp107.map (·.1))) = some (fr107, cs107, nx107, hp107.map fun x => some x.2) := by kernel_rfl
theorem seg108 : (go20 1486 st107).map (Go.AE.look (hp108.map (·.1))) = some (fr108, cs108, nx108, hp108.map fun x => some x.2) := by kernel_rfl
theorem seg110 : (go20 1831 st109).map (Go.AE.look (hp110.map (·.1))) = some (fr110, cs110, nx110, hp110.map fun x => some x.2) := by kernel_rfl
theorem seg111 : (go20 390 st110).map (Go.AE.look (hp111.map (·.1))) = some (fr111, cs111, nx111, hp111.map fun x => some x.2) := by kernel_rfl
end Go.Proofs.YthghfccdllafbaaGreatDoor
