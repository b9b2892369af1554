import Derived.Test.YtdgbfelbfhgglaaGreatDoorPK1
import Derived.Test.YtdgbfelbfhgglaaGreatDoorSt0
set_option linter.unusedVariables false
set_option linter.unusedSimpArgs false
set_option maxRecDepth 100000
namespace Go.Proofs.YtdgbfelbfhgglaaGreatDoor.Cn
open Go Go.AE Seg
theorem seg40 : (go10 1828 st39).map (Go.AE.look (hp40.map (·.1))) = some (fr40, cs40, nx40, hp40.map fun x => some x.2) := by kernel_rfl
theorem seg41 : (go10 432 st40).map (Go.AE.look (hp41.map (·.1))) = some (fr41, cs41, nx41, hp41.map fun x => some x.2) := by kernel_rfl
theorem seg44 : (go10 162 st43).map (Go.AE.look (hp44.map (·.1))) = some (fr44, cs44, nx44, hp44.map fun x => some x.2) := by kernel_rfl
theorem seg45 : (go10 151 st44).map (Go.AE.look (hp45.map (·.1))) = some (fr45, cs45, nx45, hp45.map fun x => some x.2) := by kernel_rfl
end Go.Proofs.YtdgbfelbfhgglaaGreatDoor.Cn
