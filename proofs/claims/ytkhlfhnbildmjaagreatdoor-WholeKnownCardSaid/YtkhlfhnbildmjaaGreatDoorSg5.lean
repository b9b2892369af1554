import Derived.Test.YtkhlfhnbildmjaaGreatDoorPK1
import Derived.Test.YtkhlfhnbildmjaaGreatDoorSt0
set_option linter.unusedVariables false
set_option linter.unusedSimpArgs false
set_option maxRecDepth 100000
namespace Go.Proofs.YtkhlfhnbildmjaaGreatDoor
open Go Go.AE Seg
theorem seg12 : (go0 3000 st11).map (Go.AE.look (hp12.map (·.1))) = some (fr12, cs12, nx12, hp12.map fun x => some x.2) := by kernel_rfl
theorem seg13 : (go0 3000 st12).map (Go.AE.look (hp13.map (·.1))) = some (fr13, cs13, nx13, hp13.map fun x => some x.2) := by kernel_rfl
end Go.Proofs.YtkhlfhnbildmjaaGreatDoor
