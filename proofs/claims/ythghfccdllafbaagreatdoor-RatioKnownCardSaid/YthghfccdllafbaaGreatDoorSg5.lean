import Derived.Test.YthghfccdllafbaaGreatDoorK1
import Derived.Test.YthghfccdllafbaaGreatDoorSt0
set_option maxRecDepth 100000
namespace Go.Proofs.YthghfccdllafbaaGreatDoor
open Go Go.AE Seg
theorem seg42 : (go8 1822 st41).map (Go.AE.look (hp42.map (·.1))) = some (fr42, cs42, nx42, hp42.map fun x => some x.2) := by kernel_rfl
theorem seg43 : (go8 168 st42).map (Go.AE.look (hp43.map (·.1))) = some (fr43, cs43, nx43, hp43.map fun x => some x.2) := by kernel_rfl
theorem seg44 : (go8 312 st43).map (Go.AE.look (hp44.map (·.1))) = some (fr44, cs44, nx44, hp44.map fun x => some x.2) := by kernel_rfl
theorem seg45 : (go9 2994 st40).map (Go.AE.look (hp45.map (·.1))) = some (fr45, cs45, nx45, hp45.map fun x => some x.2) := by kernel_rfl
theorem seg46 : (go9 838 st45).map (Go.AE.look (hp46.map (·.1))) = some (fr46, cs46, nx46, hp46.map fun x => some x.2) := by kernel_rfl
theorem seg47 : (go9 199 st46).map (Go.AE.look (hp47.map (·.1))) = some (fr47, cs47, nx47, hp47.map fun x => some x.2) := by kernel_rfl
end Go.Proofs.YthghfccdllafbaaGreatDoor
