import Derived.Test.YtkhlfhnbildmjaaGreatDoorPK1
import Derived.Test.YtkhlfhnbildmjaaGreatDoorSt0
set_option linter.unusedVariables false
set_option linter.unusedSimpArgs false
set_option maxRecDepth 100000
namespace Go.Proofs.YtkhlfhnbildmjaaGreatDoor
open Go Go.AE Seg
theorem seg14 : (go0 3000 st13).map (Go.AE.look (hp14.map (·.1))) = some (fr14, cs14, nx14, hp14.map fun x => some x.2) := by kernel_rfl
theorem seg15 : (go0 3000 st14).map (Go.AE.look (hp15.map (·.1))) = some (fr15, cs15, nx15, hp15.map fun x => some x.2) := by kernel_rfl
end Go.Proofs.YtkhlfhnbildmjaaGreatDoor
