import Derived.Test.YtdgbfelbfhgglaaGreatDoorPK1
import Derived.Test.YtdgbfelbfhgglaaGreatDoorSt1
set_option linter.unusedVariables false
set_option linter.unusedSimpArgs false
set_option maxRecDepth 100000
namespace Go.Proofs.YtdgbfelbfhgglaaGreatDoor.Cn
open Go Go.AE Seg
theorem seg80 : (go13 1245 st79).map (Go.AE.look (hp80.map (·.1))) = some (fr80, cs80, nx80, hp80.map fun x => some x.2) := by kernel_rfl
theorem seg81 : (go13 75 st80).map (Go.AE.look (hp81.map (·.1))) = some (fr81, cs81, nx81, hp81.map fun x => some x.2) := by kernel_rfl
end Go.Proofs.YtdgbfelbfhgglaaGreatDoor.Cn
