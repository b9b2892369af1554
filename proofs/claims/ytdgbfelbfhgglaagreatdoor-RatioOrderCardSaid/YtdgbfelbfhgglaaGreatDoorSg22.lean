import Derived.Test.YtdgbfelbfhgglaaGreatDoorPK1
import Derived.Test.YtdgbfelbfhgglaaGreatDoorSt0
set_option linter.unusedVariables false
set_option linter.unusedSimpArgs false
set_option maxRecDepth 100000
namespace Go.Proofs.YtdgbfelbfhgglaaGreatDoor.Cn
open Go Go.AE Seg
theorem seg56 : (go10 596 st55).map (Go.AE.look (hp56.map (·.1))) = some (fr56, cs56, nx56, hp56.map fun x => some x.2) := by kernel_rfl
theorem seg58 : (go10 107 st57).map (Go.AE.look (hp58.map (·.1))) = some (fr58, cs58, nx58, hp58.map fun x => some x.2) := by kernel_rfl
theorem seg59 : (go10 1 st58).map (Go.AE.look (hp59.map (·.1))) = some (fr59, cs59, nx59, hp59.map fun x => some x.2) := by kernel_rfl
theorem seg61 : (go11 96 st60).map (Go.AE.look (hp61.map (·.1))) = some (fr61, cs61, nx61, hp61.map fun x => some x.2) := by kernel_rfl
end Go.Proofs.YtdgbfelbfhgglaaGreatDoor.Cn
