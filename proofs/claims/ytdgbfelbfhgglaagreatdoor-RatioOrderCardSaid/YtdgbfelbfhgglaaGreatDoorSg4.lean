import Derived.Test.YtdgbfelbfhgglaaGreatDoorPK1
import Derived.Test.YtdgbfelbfhgglaaGreatDoorSt0
import Derived.Test.YtdgbfelbfhgglaaGreatDoorSt1
set_option linter.unusedVariables false
set_option linter.unusedSimpArgs false
set_option maxRecDepth 100000
namespace Go.Proofs.YtdgbfelbfhgglaaGreatDoor.Cn
open Go Go.AE Seg
theorem seg13 : (go2 1 st12).map (Go.AE.look (hp13.map (·.1))) = some (fr13, cs13, nx13, hp13.map fun x => some x.2) := by kernel_rfl
theorem seg14 : (go3 266 st2).map (Go.AE.look (hp14.map (·.1))) = some (fr14, cs14, nx14, hp14.map fun x => some x.2) := by kernel_rfl
theorem seg18 : (go3 1 st17).map (Go.AE.look (hp18.map (·.1))) = some (fr18, cs18, nx18, hp18.map fun x => some x.2) := by kernel_rfl
theorem seg20 : (go4 30 st19).map (Go.AE.look (hp20.map (·.1))) = some (fr20, cs20, nx20, hp20.map fun x => some x.2) := by kernel_rfl
theorem seg26 : (go5 1796 st25).map (Go.AE.look (hp26.map (·.1))) = some (fr26, cs26, nx26, hp26.map fun x => some x.2) := by kernel_rfl
theorem seg27 : (go6 84 st22).map (Go.AE.look (hp27.map (·.1))) = some (fr27, cs27, nx27, hp27.map fun x => some x.2) := by kernel_rfl
theorem seg82 : (go13 31 st81).map (Go.AE.look (hp82.map (·.1))) = some (fr82, cs82, nx82, hp82.map fun x => some x.2) := by kernel_rfl
theorem seg83 : (go14 38 st70).map (Go.AE.look (hp83.map (·.1))) = some (fr83, cs83, nx83, hp83.map fun x => some x.2) := by kernel_rfl
theorem seg84 : (go14 1 st1083).map (Go.AE.look (hp84.map (·.1))) = some (fr84, cs84, nx84, hp84.map fun x => some x.2) := by kernel_rfl
end Go.Proofs.YtdgbfelbfhgglaaGreatDoor.Cn
