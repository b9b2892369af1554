import Derived.Test.YtdgbfelbfhgglaaGreatDoorPK1
import Derived.Test.YtdgbfelbfhgglaaGreatDoorSt0
set_option linter.unusedVariables false
set_option linter.unusedSimpArgs false
set_option maxRecDepth 100000
namespace Go.Proofs.YtdgbfelbfhgglaaGreatDoor.Cn
open Go Go.AE Seg
theorem seg42 : (go10 219 st41).map (Go.AE.look (hp42.map (·.1))) = some (fr42, cs42, nx42, hp42.map fun x => some x.2) := by kernel_rfl
theorem seg43 : (go10 166 st42).map (Go.AE.look (hp43.map (·.1))) = some (fr43, cs43, nx43, hp43.map fun x => some x.2) := by kernel_rfl
end Go.Proofs.YtdgbfelbfhgglaaGreatDoor.Cn
