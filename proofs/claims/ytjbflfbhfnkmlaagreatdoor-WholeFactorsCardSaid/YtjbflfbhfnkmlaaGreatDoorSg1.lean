import Derived.Test.YtjbflfbhfnkmlaaGreatDoorPK1
set_option linter.unusedVariables false
set_option linter.unusedSimpArgs false
set_option maxRecDepth 100000
namespace Go.Proofs.YtjbflfbhfnkmlaaGreatDoor.Cn
open Go Go.AE Seg
theorem seg6 : (go0 2132 st5).map (Go.AE.look (hp6.map (·.1))) = some (fr6, cs6, nx6, hp6.map fun x => some x.2) := by kernel_rfl
theorem seg7 : (go0 3000 st6).map (Go.AE.look (hp7.map (·.1))) = some (fr7, cs7, nx7, hp7.map fun x => some x.2) := by kernel_rfl
theorem seg8 : (go0 3000 st7).map (Go.AE.look (hp8.map (·.1))) = some (fr8, cs8, nx8, hp8.map fun x => some x.2) := by kernel_rfl
theorem seg9 : (go0 2747 st8).map (Go.AE.look (hp9.map (·.1))) = some (fr9, cs9, nx9, hp9.map fun x => some x.2) := by kernel_rfl
end Go.Proofs.YtjbflfbhfnkmlaaGreatDoor.Cn
