import Derived.Test.YthghfccdllafbaaGreatDoorK1
import Derived.Test.YthghfccdllafbaaGreatDoorSt1
import Derived.Test.YthghfccdllafbaaGreatDoorSt2
set_option maxRecDepth 100000
namespace Go.Proofs.YthghfccdllafbaaGreatDoor
open Go Go.AE Seg
theorem seg120 : (go22 3000 st119).map (Go.AE.look (hp120.map (·.1))) = some (fr120, cs120, nx120, hp120.map fun x => some x.2) := by kernel_rfl
theorem seg121 : (go22 265 st120).map (Go.AE.look (hp121.map (·.1))) = some (fr121, cs121, nx121, hp121.map fun x => some x.2) := by kernel_rfl
theorem seg122 : (go22 2340 st121).map (Go.AE.look (hp122.map (·.1))) = some (fr122, cs122, nx122, hp122.map fun x => some x.2) := by kernel_rfl
theorem seg123 : (go22 2567 st122).map (Go.AE.look (hp123.map (·.1))) = some (fr123, cs123, nx123, hp123.map fun x => some x.2) := by kernel_rfl
theorem seg124 : (go22 2404 st123).map (Go.AE.look (hp124.map (·.1))) = some (fr124, cs124, nx124, hp124.map fun x => some x.2) := by kernel_rfl
theorem seg125 : (go22 2840 st124).map (Go.AE.look (hp125.map (·.1))) = some (fr125, cs125, nx125, hp125.map fun x => some x.2) := by kernel_rfl
end Go.Proofs.YthghfccdllafbaaGreatDoor
