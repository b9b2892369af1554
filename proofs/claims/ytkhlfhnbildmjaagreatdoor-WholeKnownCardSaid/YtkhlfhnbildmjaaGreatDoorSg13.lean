import Derived.Test.YtkhlfhnbildmjaaGreatDoorPK1
import Derived.Test.YtkhlfhnbildmjaaGreatDoorSt0
set_option linter.unusedVariables false
set_option linter.unusedSimpArgs false
set_option maxRecDepth 100000
namespace Go.Proofs.YtkhlfhnbildmjaaGreatDoor
open Go Go.AE Seg
theorem seg28 : (go0 3000 st27).map (Go.AE.look (hp28.map (·.1))) = some (fr28, cs28, nx28, hp28.map fun x => some x.2) := by kernel_rfl
theorem seg29 : (go0 3000 st28).map (Go.AE.look (hp29.map (·.1))) = some (fr29, cs29, nx29, hp29.map fun x => some x.2) := by kernel_rfl
end Go.Proofs.YtkhlfhnbildmjaaGreatDoor
