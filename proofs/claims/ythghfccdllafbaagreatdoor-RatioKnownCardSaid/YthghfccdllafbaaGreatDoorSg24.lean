import Derived.Test.YthghfccdllafbaaGreatDoorK1
import Derived.Test.YthghfccdllafbaaGreatDoorSt5
import Derived.Test.YthghfccdllafbaaGreatDoorSt4
import Derived.Test.YthghfccdllafbaaGreatDoorSt0
import Derived.Test.YthghfccdllafbaaGreatDoorSt1
set_option maxRecDepth 100000
namespace Go.Proofs.YthghfccdllafbaaGreatDoor
open Go Go.AE Seg
theorem seg1072 : (go11 18 st1071).map (Go.AE.look (hp1072.map (·.1))) = some (fr1072, cs1072, nx1072, hp1072.map fun x => some x.2) := by kernel_rfl
theorem seg71 : (go11 1 st1073).map (Go.AE.look (hp71.map (·.1))) = some (fr71, cs71, nx71, hp71.map fun x => some x.2) := by kernel_rfl
end Go.Proofs.YthghfccdllafbaaGreatDoor
