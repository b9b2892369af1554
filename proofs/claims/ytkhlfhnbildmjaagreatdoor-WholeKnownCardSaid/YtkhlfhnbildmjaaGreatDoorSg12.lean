import Derived.Test.YtkhlfhnbildmjaaGreatDoorPK1
import Derived.Test.YtkhlfhnbildmjaaGreatDoorSt0
set_option linter.unusedVariables false
set_option linter.unusedSimpArgs false
set_option maxRecDepth 100000
namespace Go.Proofs.YtkhlfhnbildmjaaGreatDoor
open Go Go.AE Seg
theorem seg26 : (go0 3000 st25).map (Go.AE.look (hp26.map (·.1))) = some (fr26, cs26, nx26, hp26.map fun x => some x.2) := by kernel_rfl
theorem seg27 : (go0 3000 st26).map (Go.AE.look (hp27.map (·.1))) = some (fr27, cs27, nx27, hp27.map fun x => some x.2) := by kernel_rfl
end Go.Proofs.YtkhlfhnbildmjaaGreatDoor
