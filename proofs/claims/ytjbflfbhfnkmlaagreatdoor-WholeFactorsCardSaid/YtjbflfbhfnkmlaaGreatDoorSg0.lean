import Derived.Test.YtjbflfbhfnkmlaaGreatDoorPK1
set_option linter.unusedVariables false
set_option linter.unusedSimpArgs false
set_option maxRecDepth 100000
namespace Go.Proofs.YtjbflfbhfnkmlaaGreatDoor.Cn
open Go Go.AE Seg
theorem seg2 : (go0 3000 st1).map (Go.AE.look (hp2.map (·.1))) = some (fr2, cs2, nx2, hp2.map fun x => some x.2) := by kernel_rfl
theorem seg3 : (go0 3000 st2).map (Go.AE.look (hp3.map (·.1))) = some (fr3, cs3, nx3, hp3.map fun x => some x.2) := by kernel_rfl
theorem seg4 : (go0 2046 st3).map (Go.AE.look (hp4.map (·.1))) = some (fr4, cs4, nx4, hp4.map fun x => some x.2) := by kernel_rfl
theorem seg5 : (go0 639 st4).map (Go.AE.look (hp5.map (·.1))) = some (fr5, cs5, nx5, hp5.map fun x => some x.2) := by kernel_rfl
end Go.Proofs.YtjbflfbhfnkmlaaGreatDoor.Cn
