import Derived.Test.YtkhlfhnbildmjaaGreatDoorPK1
import Derived.Test.YtkhlfhnbildmjaaGreatDoorSt0
set_option linter.unusedVariables false
set_option linter.unusedSimpArgs false
set_option maxRecDepth 100000
namespace Go.Proofs.YtkhlfhnbildmjaaGreatDoor
open Go Go.AE Seg
theorem seg16 : (go0 3000 st15).map (Go.AE.look (hp16.map (·.1))) = some (fr16, cs16, nx16, hp16.map fun x => some x.2) := by kernel_rfl
theorem seg17 : (go0 3000 st16).map (Go.AE.look (hp17.map (·.1))) = some (fr17, cs17, nx17, hp17.map fun x => some x.2) := by kernel_rfl
end Go.Proofs.YtkhlfhnbildmjaaGreatDoor
