import Derived.Test.YtkhlfhnbildmjaaGreatDoorPK1
import Derived.Test.YtkhlfhnbildmjaaGreatDoorSt0
set_option linter.unusedVariables false
set_option linter.unusedSimpArgs false
set_option maxRecDepth 100000
namespace Go.Proofs.YtkhlfhnbildmjaaGreatDoor
open Go Go.AE Seg
theorem seg4 : (go0 3000 st3).map (Go.AE.look (hp4.map (·.1))) = some (fr4, cs4, nx4, hp4.map fun x => some x.2) := by kernel_rfl
theorem seg5 : (go0 3000 st4).map (Go.AE.look (hp5.map (·.1))) = some (fr5, cs5, nx5, hp5.map fun x => some x.2) := by kernel_rfl
end Go.Proofs.YtkhlfhnbildmjaaGreatDoor
