import Derived.Test.YthghfccdllafbaaGreatDoorK1
import Derived.Test.YthghfccdllafbaaGreatDoorSt2
set_option maxRecDepth 100000
namespace Go.Proofs.YthghfccdllafbaaGreatDoor
open Go Go.AE Seg
theorem seg126 : (go22 2618 st125).map (Go.AE.look (hp126.map (·.1))) = some (fr126, cs126, nx126, hp126.map fun x => some x.2) := by kernel_rfl
theorem seg127 : (go22 3000 st126).map (Go.AE.look (hp127.map (·.1))) = some (fr127, cs127, nx127, hp127.map fun x => some x.2) := by kernel_rfl
theorem seg128 : (go22 3000 st127).map (Go.AE.look (hp128.map (·.1))) = some (fr128, cs128, nx128, hp128.map fun x => some x.2) := by kernel_rfl
theorem seg129 : (go22 2992 st128).map (Go.AE.look (hp129.map (·.1))) = some (fr129, cs129, nx129, hp129.map fun x => some x.2) := by kernel_rfl
theorem seg130 : (go22 1002 st129).map (Go.AE.look (hp130.map (·.1))) = some (fr130, cs130, nx130, hp130.map fun x => some x.2) := by kernel_rfl
theorem seg131 : (go22 1986 st130).map (Go.AE.look (hp131.map (·.1))) = some (fr131, cs131, nx131, hp131.map fun x => some x.2) := by kernel_rfl
end Go.Proofs.YthghfccdllafbaaGreatDoor
