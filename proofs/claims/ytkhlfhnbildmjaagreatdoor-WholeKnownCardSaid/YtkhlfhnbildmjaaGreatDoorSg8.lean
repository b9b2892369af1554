import Derived.Test.YtkhlfhnbildmjaaGreatDoorPK1
import Derived.Test.YtkhlfhnbildmjaaGreatDoorSt0
set_option linter.unusedVariables false
set_option linter.unusedSimpArgs false
set_option maxRecDepth 100000
namespace Go.Proofs.YtkhlfhnbildmjaaGreatDoor
open Go Go.AE Seg
theorem seg18 : (go0 3000 st17).map (Go.AE.look (hp18.map (·.1))) = some (fr18, cs18, nx18, hp18.map fun x => some x.2) := by kernel_rfl
theorem seg19 : (go0 3000 st18).map (Go.AE.look (hp19.map (·.1))) = some (fr19, cs19, nx19, hp19.map fun x => some x.2) := by kernel_rfl
end Go.Proofs.YtkhlfhnbildmjaaGreatDoor
