import Derived.Test.YtkhlfhnbildmjaaGreatDoorPK1
import Derived.Test.YtkhlfhnbildmjaaGreatDoorSt0
set_option linter.unusedVariables false
set_option linter.unusedSimpArgs false
set_option maxRecDepth 100000
namespace Go.Proofs.YtkhlfhnbildmjaaGreatDoor
open Go Go.AE Seg
theorem seg24 : (go0 3000 st23).map (Go.AE.look (hp24.map (·.1))) = some (fr24, cs24, nx24, hp24.map fun x => some x.2) := by kernel_rfl
theorem seg25 : (go0 3000 st24).map (Go.AE.look (hp25.map (·.1))) = some (fr25, cs25, nx25, hp25.map fun x => some x.2) := by kernel_rfl
end Go.Proofs.YtkhlfhnbildmjaaGreatDoor
