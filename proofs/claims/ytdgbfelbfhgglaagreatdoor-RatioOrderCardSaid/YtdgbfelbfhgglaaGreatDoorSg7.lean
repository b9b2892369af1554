import Derived.Test.YtdgbfelbfhgglaaGreatDoorPK1
import Derived.Test.YtdgbfelbfhgglaaGreatDoorSt0
import Derived.Test.YtdgbfelbfhgglaaGreatDoorSt1
set_option linter.unusedVariables false
set_option linter.unusedSimpArgs false
set_option maxRecDepth 100000
namespace Go.Proofs.YtdgbfelbfhgglaaGreatDoor.Cn
open Go Go.AE Seg
theorem seg22 : (go4 7 st21).map (Go.AE.look (hp22.map (·.1))) = some (fr22, cs22, nx22, hp22.map fun x => some x.2) := by kernel_rfl
theorem seg24 : (go4 1770 st23).map (Go.AE.look (hp24.map (·.1))) = some (fr24, cs24, nx24, hp24.map fun x => some x.2) := by kernel_rfl
theorem seg76 : (go13 2000 st75).map (Go.AE.look (hp76.map (·.1))) = some (fr76, cs76, nx76, hp76.map fun x => some x.2) := by kernel_rfl
theorem seg77 : (go13 2000 st76).map (Go.AE.look (hp77.map (·.1))) = some (fr77, cs77, nx77, hp77.map fun x => some x.2) := by kernel_rfl
end Go.Proofs.YtdgbfelbfhgglaaGreatDoor.Cn
