import Derived.Test.YtdgbfelbfhgglaaGreatDoorPK1
import Derived.Test.YtdgbfelbfhgglaaGreatDoorSt0
import Derived.Test.YtdgbfelbfhgglaaGreatDoorSt1
set_option linter.unusedVariables false
set_option linter.unusedSimpArgs false
set_option maxRecDepth 100000
namespace Go.Proofs.YtdgbfelbfhgglaaGreatDoor.Cn
open Go Go.AE Seg
theorem seg28 : (go6 24 st27).map (Go.AE.look (hp28.map (·.1))) = some (fr28, cs28, nx28, hp28.map fun x => some x.2) := by kernel_rfl
theorem seg29 : (go7 2 st20).map (Go.AE.look (hp29.map (·.1))) = some (fr29, cs29, nx29, hp29.map fun x => some x.2) := by kernel_rfl
theorem seg78 : (go13 45 st77).map (Go.AE.look (hp78.map (·.1))) = some (fr78, cs78, nx78, hp78.map fun x => some x.2) := by kernel_rfl
theorem seg79 : (go13 2000 st78).map (Go.AE.look (hp79.map (·.1))) = some (fr79, cs79, nx79, hp79.map fun x => some x.2) := by kernel_rfl
end Go.Proofs.YtdgbfelbfhgglaaGreatDoor.Cn
