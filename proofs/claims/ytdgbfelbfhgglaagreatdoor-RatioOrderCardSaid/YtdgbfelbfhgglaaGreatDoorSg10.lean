import Derived.Test.YtdgbfelbfhgglaaGreatDoorPK1
import Derived.Test.YtdgbfelbfhgglaaGreatDoorSt0
import Derived.Test.YtdgbfelbfhgglaaGreatDoorSt1
set_option linter.unusedVariables false
set_option linter.unusedSimpArgs false
set_option maxRecDepth 100000
namespace Go.Proofs.YtdgbfelbfhgglaaGreatDoor.Cn
open Go Go.AE Seg
theorem seg30 : (go8 169 st14).map (Go.AE.look (hp30.map (·.1))) = some (fr30, cs30, nx30, hp30.map fun x => some x.2) := by kernel_rfl
theorem seg32 : (go8 1549 st31).map (Go.AE.look (hp32.map (·.1))) = some (fr32, cs32, nx32, hp32.map fun x => some x.2) := by kernel_rfl
theorem seg38 : (go9 267 st37).map (Go.AE.look (hp38.map (·.1))) = some (fr38, cs38, nx38, hp38.map fun x => some x.2) := by kernel_rfl
theorem seg39 : (go10 1515 st30).map (Go.AE.look (hp39.map (·.1))) = some (fr39, cs39, nx39, hp39.map fun x => some x.2) := by kernel_rfl
theorem seg73 : (go12 913 st72).map (Go.AE.look (hp73.map (·.1))) = some (fr73, cs73, nx73, hp73.map fun x => some x.2) := by kernel_rfl
theorem seg75 : (go13 1630 st74).map (Go.AE.look (hp75.map (·.1))) = some (fr75, cs75, nx75, hp75.map fun x => some x.2) := by kernel_rfl
end Go.Proofs.YtdgbfelbfhgglaaGreatDoor.Cn
