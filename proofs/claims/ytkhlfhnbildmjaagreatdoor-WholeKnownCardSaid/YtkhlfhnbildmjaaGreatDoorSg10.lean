import Derived.Test.YtkhlfhnbildmjaaGreatDoorPK1
import Derived.Test.YtkhlfhnbildmjaaGreatDoorSt0
set_option linter.unusedVariables false
set_option linter.unusedSimpArgs false
set_option maxRecDepth 100000
namespace Go.Proofs.YtkhlfhnbildmjaaGreatDoor
open Go Go.AE Seg
theorem seg22 : (go0 3000 st21).map (Go.AE.look (hp22.map (·.1))) = some (fr22, cs22, nx22, hp22.map fun x => some x.2) := by kernel_rfl
theorem seg23 : (go0 3000 st22).map (Go.AE.look (hp23.map (·.1))) = some (fr23, cs23, nx23, hp23.map fun x => some x.2) := by kernel_rfl
end Go.Proofs.YtkhlfhnbildmjaaGreatDoor
