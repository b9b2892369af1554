import Derived.Test.YtdgbfelbfhgglaaGreatDoorPK1
import Derived.Test.YtdgbfelbfhgglaaGreatDoorSt0
set_option linter.unusedVariables false
set_option linter.unusedSimpArgs false
set_option maxRecDepth 100000
namespace Go.Proofs.YtdgbfelbfhgglaaGreatDoor.Cn
open Go Go.AE Seg
theorem seg5 : (go0 308 st4).map (Go.AE.look (hp5.map (·.1))) = some (fr5, cs5, nx5, hp5.map fun x => some x.2) := by kernel_rfl
theorem seg7 : (go1 60 st6).map (Go.AE.look (hp7.map (·.1))) = some (fr7, cs7, nx7, hp7.map fun x => some x.2) := by kernel_rfl
theorem seg66 : (go11 1018 st65).map (Go.AE.look (hp66.map (·.1))) = some (fr66, cs66, nx66, hp66.map fun x => some x.2) := by kernel_rfl
theorem seg67 : (go11 2000 st66).map (Go.AE.look (hp67.map (·.1))) = some (fr67, cs67, nx67, hp67.map fun x => some x.2) := by kernel_rfl
end Go.Proofs.YtdgbfelbfhgglaaGreatDoor.Cn
