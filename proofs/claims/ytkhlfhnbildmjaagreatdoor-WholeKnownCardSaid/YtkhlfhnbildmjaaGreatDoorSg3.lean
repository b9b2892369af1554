import Derived.Test.YtkhlfhnbildmjaaGreatDoorPK1
import Derived.Test.YtkhlfhnbildmjaaGreatDoorSt0
set_option linter.unusedVariables false
set_option linter.unusedSimpArgs false
set_option maxRecDepth 100000
namespace Go.Proofs.YtkhlfhnbildmjaaGreatDoor
open Go Go.AE Seg
theorem seg8 : (go0 1511 st7).map (Go.AE.look (hp8.map (·.1))) = some (fr8, cs8, nx8, hp8.map fun x => some x.2) := by kernel_rfl
theorem seg9 : (go0 3000 st8).map (Go.AE.look (hp9.map (·.1))) = some (fr9, cs9, nx9, hp9.map fun x => some x.2) := by kernel_rfl
end Go.Proofs.YtkhlfhnbildmjaaGreatDoor
