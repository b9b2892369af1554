import Derived.Test.YtdgbfelbfhgglaaGreatDoorPK1
import Derived.Test.YtdgbfelbfhgglaaGreatDoorSt0
set_option linter.unusedVariables false
set_option linter.unusedSimpArgs false
set_option maxRecDepth 100000
namespace Go.Proofs.YtdgbfelbfhgglaaGreatDoor.Cn
open Go Go.AE Seg
theorem seg50 : (go10 2000 st49).map (Go.AE.look (hp50.map (·.1))) = some (fr50, cs50, nx50, hp50.map fun x => some x.2) := by kernel_rfl
theorem seg51 : (go10 1043 st50).map (Go.AE.look (hp51.map (·.1))) = some (fr51, cs51, nx51, hp51.map fun x => some x.2) := by kernel_rfl
theorem seg62 : (go11 1670 st61).map (Go.AE.look (hp62.map (·.1))) = some (fr62, cs62, nx62, hp62.map fun x => some x.2) := by kernel_rfl
theorem seg63 : (go11 2000 st62).map (Go.AE.look (hp63.map (·.1))) = some (fr63, cs63, nx63, hp63.map fun x => some x.2) := by kernel_rfl
end Go.Proofs.YtdgbfelbfhgglaaGreatDoor.Cn
