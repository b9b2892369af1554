import Derived.Test.YtkhlfhnbildmjaaGreatDoorPK1
import Derived.Test.YtkhlfhnbildmjaaGreatDoorSt0
set_option linter.unusedVariables false
set_option linter.unusedSimpArgs false
set_option maxRecDepth 100000
namespace Go.Proofs.YtkhlfhnbildmjaaGreatDoor
open Go Go.AE Seg
theorem seg6 : (go0 1872 st5).map (Go.AE.look (hp6.map (·.1))) = some (fr6, cs6, nx6, hp6.map fun x => some x.2) := by kernel_rfl
theorem seg7 : (go0 601 st6).map (Go.AE.look (hp7.map (·.1))) = some (fr7, cs7, nx7, hp7.map fun x => some x.2) := by kernel_rfl
end Go.Proofs.YtkhlfhnbildmjaaGreatDoor
