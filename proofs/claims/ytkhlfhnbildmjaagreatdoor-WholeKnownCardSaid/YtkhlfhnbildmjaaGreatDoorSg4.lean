import Derived.Test.YtkhlfhnbildmjaaGreatDoorPK1
import Derived.Test.YtkhlfhnbildmjaaGreatDoorSt0
set_option linter.unusedVariables false
set_option linter.unusedSimpArgs false
set_option maxRecDepth 100000
namespace Go.Proofs.YtkhlfhnbildmjaaGreatDoor
open Go Go.AE Seg
theorem seg10 : (go0 3000 st9).map (Go.AE.look (hp10.map (·.1))) = some (fr10, cs10, nx10, hp10.map fun x => some x.2) := by kernel_rfl
theorem seg11 : (go0 3000 st10).map (Go.AE.look (hp11.map (·.1))) = some (fr11, cs11, nx11, hp11.map fun x => some x.2) := by kernel_rfl
end Go.Proofs.YtkhlfhnbildmjaaGreatDoor
