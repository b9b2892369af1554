import Derived.Test.YtdgbfelbfhgglaaGreatDoorPK1
import Derived.Test.YtdgbfelbfhgglaaGreatDoorSt0
set_option linter.unusedVariables false
set_option linter.unusedSimpArgs false
set_option maxRecDepth 100000
namespace Go.Proofs.YtdgbfelbfhgglaaGreatDoor.Cn
open Go Go.AE Seg
theorem seg16 : (go3 1521 st15).map (Go.AE.look (hp16.map (·.1))) = some (fr16, cs16, nx16, hp16.map fun x => some x.2) := by kernel_rfl
theorem seg17 : (go3 383 st16).map (Go.AE.look (hp17.map (·.1))) = some (fr17, cs17, nx17, hp17.map fun x => some x.2) := by kernel_rfl
theorem seg68 : (go11 928 st67).map (Go.AE.look (hp68.map (·.1))) = some (fr68, cs68, nx68, hp68.map fun x => some x.2) := by kernel_rfl
theorem seg69 : (go11 47 st68).map (Go.AE.look (hp69.map (·.1))) = some (fr69, cs69, nx69, hp69.map fun x => some x.2) := by kernel_rfl
end Go.Proofs.YtdgbfelbfhgglaaGreatDoor.Cn
