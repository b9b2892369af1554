import Derived.Test.YtdgbfelbfhgglaaGreatDoorPK1
import Derived.Test.YtdgbfelbfhgglaaGreatDoorSt0
set_option linter.unusedVariables false
set_option linter.unusedSimpArgs false
set_option maxRecDepth 100000
namespace Go.Proofs.YtdgbfelbfhgglaaGreatDoor.Cn
open Go Go.AE Seg
theorem seg46 : (go10 74 st45).map (Go.AE.look (hp46.map (·.1))) = some (fr46, cs46, nx46, hp46.map fun x => some x.2) := by kernel_rfl
theorem seg47 : (go10 1242 st46).map (Go.AE.look (hp47.map (·.1))) = some (fr47, cs47, nx47, hp47.map fun x => some x.2) := by kernel_rfl
theorem seg48 : (go10 1864 st47).map (Go.AE.look (hp48.map (·.1))) = some (fr48, cs48, nx48, hp48.map fun x => some x.2) := by kernel_rfl
theorem seg49 : (go10 1836 st48).map (Go.AE.look (hp49.map (·.1))) = some (fr49, cs49, nx49, hp49.map fun x => some x.2) := by kernel_rfl
end Go.Proofs.YtdgbfelbfhgglaaGreatDoor.Cn
