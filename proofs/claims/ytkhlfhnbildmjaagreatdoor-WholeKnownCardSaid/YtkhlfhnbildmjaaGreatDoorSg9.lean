import Derived.Test.YtkhlfhnbildmjaaGreatDoorPK1
import Derived.Test.YtkhlfhnbildmjaaGreatDoorSt0
set_option linter.unusedVariables false
set_option linter.unusedSimpArgs false
set_option maxRecDepth 100000
namespace Go.Proofs.YtkhlfhnbildmjaaGreatDoor
open Go Go.AE Seg
theorem seg20 : (go0 3000 st19).map (Go.AE.look (hp20.map (·.1))) = some (fr20, cs20, nx20, hp20.map fun x => some x.2) := by kernel_rfl
theorem seg21 : (go0 3000 st20).map (Go.AE.look (hp21.map (·.1))) = some (fr21, cs21, nx21, hp21.map fun x => some x.2) := by kernel_rfl
end Go.Proofs.YtkhlfhnbildmjaaGreatDoor
