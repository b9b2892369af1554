import Derived.Test.YthghfccdllafbaaGreatDoorK1
import Derived.Test.YthghfccdllafbaaGreatDoorSt0
import Derived.Test.YthghfccdllafbaaGreatDoorSt1
set_option maxRecDepth 100000
namespace Go.Proofs.YthghfccdllafbaaGreatDoor
open Go Go.AE Seg
theorem seg93 : (go18 24 st92).map (Go.AE.look (hp93.map (·.1))) = some (fr93, cs93, nx93, hp93.map fun x => some x.2) := by kernel_rfl
theorem seg94 : (go19 237 st82).map (Go.AE.look (hp94.map (·.1))) = some (fr94, cs94, nx94, hp94.map fun x => some x.2) := by kernel_rfl
theorem seg96 : (go19 1905 st95).map (Go.AE.look (hp96.map (·.1))) = some (fr96, cs96, nx96, hp96.map fun x => some x.2) := by kernel_rfl
theorem seg97 : (go20 209 st94).map (Go.AE.look (hp97.map (·.1))) = some (fr97, cs97, nx97, hp97.map fun x => some x.2) := by kernel_rfl
theorem seg98 : (go20 276 st97).map (Go.AE.look (hp98.map (·.1))) = some (fr98, cs98, nx98, hp98.map fun x => some x.2) := by kernel_rfl
theorem seg99 : (go20 175 st98).map (Go.AE.look (hp99.map (·.1))) = some (fr99, cs99, nx99, hp99.map fun x => some x.2) := by kernel_rfl
end Go.Proofs.YthghfccdllafbaaGreatDoor
