import Derived.Test.YtdgbfelbfhgglaaGreatDoorPK1
import Derived.Test.YtdgbfelbfhgglaaGreatDoorSt0
set_option linter.unusedVariables false
set_option linter.unusedSimpArgs false
set_option maxRecDepth 100000
namespace Go.Proofs.YtdgbfelbfhgglaaGreatDoor.Cn
open Go Go.AE Seg
theorem seg36 : (go9 168 st35).map (Go.AE.look (hp36.map (·.1))) = some (fr36, cs36, nx36, hp36.map fun x => some x.2) := by kernel_rfl
theorem seg37 : (go9 129 st36).map (Go.AE.look (hp37.map (·.1))) = some (fr37, cs37, nx37, hp37.map fun x => some x.2) := by kernel_rfl
theorem seg52 : (go10 1377 st51).map (Go.AE.look (hp52.map (·.1))) = some (fr52, cs52, nx52, hp52.map fun x => some x.2) := by kernel_rfl
theorem seg53 : (go10 1753 st52).map (Go.AE.look (hp53.map (·.1))) = some (fr53, cs53, nx53, hp53.map fun x => some x.2) := by kernel_rfl
end Go.Proofs.YtdgbfelbfhgglaaGreatDoor.Cn
