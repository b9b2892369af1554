import Derived.Test.YthghfccdllafbaaGreatDoorK1
import Derived.Test.YthghfccdllafbaaGreatDoorSt0
import Derived.Test.YthghfccdllafbaaGreatDoorSt1
set_option maxRecDepth 100000
namespace Go.Proofs.YthghfccdllafbaaGreatDoor
open Go Go.AE Seg
theorem seg113 : (go21 152 st112).map (Go.AE.look (hp113.map (·.1))) = some (fr113, cs113, nx113, hp113.map fun x => some x.2) := by kernel_rfl
theorem seg115 : (go21 2119 st114).map (Go.AE.look (hp115.map (·.1))) = some (fr115, cs115, nx115, hp115.map fun x => some x.2) := by kernel_rfl
theorem seg116 : (go21 295 st115).map (Go.AE.look (hp116.map (·.1))) = some (fr116, cs116, nx116, hp116.map fun x => some x.2) := by kernel_rfl
theorem seg117 : (go22 3000 st113).map (Go.AE.look (hp117.map (·.1))) = some (fr117, cs117, nx117, hp117.map fun x => some x.2) := by kernel_rfl
theorem seg118 : (go22 929 st117).map (Go.AE.look (hp118.map (·.1))) = some (fr118, cs118, nx118, hp118.map fun x => some x.2) := by kernel_rfl
theorem seg119 : (go22 1348 st118).map (Go.AE.look (hp119.map (·.1))) = some (fr119, cs119, nx119, hp119.map fun x => some x.2) := by kernel_rfl
end Go.Proofs.YthghfccdllafbaaGreatDoor
