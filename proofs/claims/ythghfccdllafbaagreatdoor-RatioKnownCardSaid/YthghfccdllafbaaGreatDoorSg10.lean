import Derived.Test.YthghfccdllafbaaGreatDoorK1
import Derived.Test.YthghfccdllafbaaGreatDoorSt0
import Derived.Test.YthghfccdllafbaaGreatDoorSt1
set_option maxRecDepth 100000
namespace Go.Proofs.YthghfccdllafbaaGreatDoor
open Go Go.AE Seg
theorem seg75 : (go12 1 st74).map (Go.AE.look (hp75.map (·.1))) = some (fr75, cs75, nx75, hp75.map fun x => some x.2) := by kernel_rfl
theorem seg77 : (go13 60 st76).map (Go.AE.look (hp77.map (·.1))) = some (fr77, cs77, nx77, hp77.map fun x => some x.2) := by kernel_rfl
theorem seg79 : (go13 3000 st78).map (Go.AE.look (hp79.map (·.1))) = some (fr79, cs79, nx79, hp79.map fun x => some x.2) := by kernel_rfl
theorem seg80 : (go13 2071 st79).map (Go.AE.look (hp80.map (·.1))) = some (fr80, cs80, nx80, hp80.map fun x => some x.2) := by kernel_rfl
theorem seg81 : (go14 2 st77).map (Go.AE.look (hp81.map (·.1))) = some (fr81, cs81, nx81, hp81.map fun x => some x.2) := by kernel_rfl
theorem seg82 : (go15 265 st72).map (Go.AE.look (hp82.map (·.1))) = some (fr82, cs82, nx82, hp82.map fun x => some x.2) := by kernel_rfl
end Go.Proofs.YthghfccdllafbaaGreatDoor
