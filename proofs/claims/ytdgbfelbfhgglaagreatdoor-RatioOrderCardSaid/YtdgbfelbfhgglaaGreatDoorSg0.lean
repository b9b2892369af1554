import Derived.Test.YtdgbfelbfhgglaaGreatDoorPK1
import Derived.Test.YtdgbfelbfhgglaaGreatDoorSt0
set_option linter.unusedVariables false
set_option linter.unusedSimpArgs false
set_option maxRecDepth 100000
namespace Go.Proofs.YtdgbfelbfhgglaaGreatDoor.Cn
open Go Go.AE Seg
theorem seg2 : (go0 210 st1).map (Go.AE.look (hp2.map (·.1))) = some (fr2, cs2, nx2, hp2.map fun x => some x.2) := by kernel_rfl
theorem seg4 : (go0 1597 st3).map (Go.AE.look (hp4.map (·.1))) = some (fr4, cs4, nx4, hp4.map fun x => some x.2) := by kernel_rfl
theorem seg9 : (go1 1987 st8).map (Go.AE.look (hp9.map (·.1))) = some (fr9, cs9, nx9, hp9.map fun x => some x.2) := by kernel_rfl
theorem seg10 : (go1 2000 st9).map (Go.AE.look (hp10.map (·.1))) = some (fr10, cs10, nx10, hp10.map fun x => some x.2) := by kernel_rfl
theorem seg54 : (go10 1988 st53).map (Go.AE.look (hp54.map (·.1))) = some (fr54, cs54, nx54, hp54.map fun x => some x.2) := by kernel_rfl
theorem seg55 : (go10 2000 st54).map (Go.AE.look (hp55.map (·.1))) = some (fr55, cs55, nx55, hp55.map fun x => some x.2) := by kernel_rfl
end Go.Proofs.YtdgbfelbfhgglaaGreatDoor.Cn
