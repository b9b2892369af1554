import Derived.Test.YtdgbfelbfhgglaaGreatDoorPK1
import Derived.Test.YtdgbfelbfhgglaaGreatDoorSt0
set_option linter.unusedVariables false
set_option linter.unusedSimpArgs false
set_option maxRecDepth 100000
namespace Go.Proofs.YtdgbfelbfhgglaaGreatDoor.Cn
open Go Go.AE Seg
theorem seg33 : (go8 508 st32).map (Go.AE.look (hp33.map (·.1))) = some (fr33, cs33, nx33, hp33.map fun x => some x.2) := by kernel_rfl
theorem seg35 : (go9 1738 st34).map (Go.AE.look (hp35.map (·.1))) = some (fr35, cs35, nx35, hp35.map fun x => some x.2) := by kernel_rfl
theorem seg64 : (go11 1008 st63).map (Go.AE.look (hp64.map (·.1))) = some (fr64, cs64, nx64, hp64.map fun x => some x.2) := by kernel_rfl
theorem seg65 : (go11 2000 st64).map (Go.AE.look (hp65.map (·.1))) = some (fr65, cs65, nx65, hp65.map fun x => some x.2) := by kernel_rfl
end Go.Proofs.YtdgbfelbfhgglaaGreatDoor.Cn
