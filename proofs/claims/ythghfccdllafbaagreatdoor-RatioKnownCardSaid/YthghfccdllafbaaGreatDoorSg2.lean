import Derived.Test.YthghfccdllafbaaGreatDoorK1
import Derived.Test.YthghfccdllafbaaGreatDoorSt0
set_option maxRecDepth 100000
namespace Go.Proofs.YthghfccdllafbaaGreatDoor
open Go Go.AE Seg
theorem seg16 : (go0 1904 st15).map (Go.AE.look (hp16.map (·.1))) = some (fr16, cs16, nx16, hp16.map fun x => some x.2) := by kernel_rfl
theorem seg17 : (go0 1 st16).map (Go.AE.look (hp17.map (·.1))) = some (fr17, cs17, nx17, hp17.map fun x => some x.2) := by kernel_rfl
theorem seg19 : (go1 60 st18).map (Go.AE.look (hp19.map (·.1))) = some (fr19, cs19, nx19, hp19.map fun x => some x.2) := by kernel_rfl
theorem seg21 : (go1 3000 st20).map (Go.AE.look (hp21.map (·.1))) = some (fr21, cs21, nx21, hp21.map fun x => some x.2) := by kernel_rfl
theorem seg22 : (go1 2279 st21).map (Go.AE.look (hp22.map (·.1))) = some (fr22, cs22, nx22, hp22.map fun x => some x.2) := by kernel_rfl
theorem seg23 : (go2 1 st19).map (Go.AE.look (hp23.map (·.1))) = some (fr23, cs23, nx23, hp23.map fun x => some x.2) := by kernel_rfl
end Go.Proofs.YthghfccdllafbaaGreatDoor
