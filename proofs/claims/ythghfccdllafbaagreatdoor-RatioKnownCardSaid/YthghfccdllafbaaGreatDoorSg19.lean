import Derived.Test.YthghfccdllafbaaGreatDoorK1
import Derived.Test.YthghfccdllafbaaGreatDoorSt0
import Derived.Test.YthghfccdllafbaaGreatDoorSt2
set_option maxRecDepth 100000
namespace Go.Proofs.YthghfccdllafbaaGreatDoor
open Go Go.AE Seg
theorem seg140 : (go23 2938 st139).map (Go.AE.look (hp140.map (·.1))) = some (fr140, cs140, nx140, hp140.map fun x => some x.2) := by kernel_rfl
theorem seg141 : (go23 53 st140).map (Go.AE.look (hp141.map (·.1))) = some (fr141, cs141, nx141, hp141.map fun x => some x.2) := by kernel_rfl
theorem seg142 : (go24 226 st133).map (Go.AE.look (hp142.map (·.1))) = some (fr142, cs142, nx142, hp142.map fun x => some x.2) := by kernel_rfl
theorem seg143 : (go24 191 st142).map (Go.AE.look (hp143.map (·.1))) = some (fr143, cs143, nx143, hp143.map fun x => some x.2) := by kernel_rfl
theorem seg145 : (go24 3000 st144).map (Go.AE.look (hp145.map (·.1))) = some (fr145, cs145, nx145, hp145.map fun x => some x.2) := by kernel_rfl
theorem seg146 : (go24 1735 st145).map (Go.AE.look (hp146.map (·.1))) = some (fr146, cs146, nx146, hp146.map fun x => some x.2) := by kernel_rfl
end Go.Proofs.YthghfccdllafbaaGreatDoor
