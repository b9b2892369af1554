import Derived.Test.YtdgbfelbfhgglaaGreatDoorPK1
import Derived.Test.YtdgbfelbfhgglaaGreatDoorSt0
set_option linter.unusedVariables false
set_option linter.unusedSimpArgs false
set_option maxRecDepth 100000
namespace Go.Proofs.YtdgbfelbfhgglaaGreatDoor.Cn
open Go Go.AE Seg
theorem seg11 : (go1 1292 st10).map (Go.AE.look (hp11.map (·.1))) = some (fr11, cs11, nx11, hp11.map fun x => some x.2) := by kernel_rfl
theorem seg12 : (go2 1 st7).map (Go.AE.look (hp12.map (·.1))) = some (fr12, cs12, nx12, hp12.map fun x => some x.2) := by kernel_rfl
theorem seg70 : (go12 169 st56).map (Go.AE.look (hp70.map (·.1))) = some (fr70, cs70, nx70, hp70.map fun x => some x.2) := by kernel_rfl
theorem seg72 : (go12 1747 st71).map (Go.AE.look (hp72.map (·.1))) = some (fr72, cs72, nx72, hp72.map fun x => some x.2) := by kernel_rfl
end Go.Proofs.YtdgbfelbfhgglaaGreatDoor.Cn
