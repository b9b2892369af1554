import Derived.Test.YthghfccdllafbaaGreatDoorK1
import Derived.Test.YthghfccdllafbaaGreatDoorSt0
set_option maxRecDepth 100000
namespace Go.Proofs.YthghfccdllafbaaGreatDoor
open Go Go.AE Seg
theorem seg34 : (go4 1770 st33).map (Go.AE.look (hp34.map (·.1))) = some (fr34, cs34, nx34, hp34.map fun x => some x.2) := by kernel_rfl
theorem seg36 : (go5 1796 st35).map (Go.AE.look (hp36.map (·.1))) = some (fr36, cs36, nx36, hp36.map fun x => some x.2) := by kernel_rfl
theorem seg37 : (go6 84 st32).map (Go.AE.look (hp37.map (·.1))) = some (fr37, cs37, nx37, hp37.map fun x => some x.2) := by kernel_rfl
theorem seg38 : (go6 24 st37).map (Go.AE.look (hp38.map (·.1))) = some (fr38, cs38, nx38, hp38.map fun x => some x.2) := by kernel_rfl
theorem seg39 : (go7 2 st30).map (Go.AE.look (hp39.map (·.1))) = some (fr39, cs39, nx39, hp39.map fun x => some x.2) := by kernel_rfl
theorem seg40 : (go8 169 st25).map (Go.AE.look (hp40.map (·.1))) = some (fr40, cs40, nx40, hp40.map fun x => some x.2) := by kernel_rfl
end Go.Proofs.YthghfccdllafbaaGreatDoor
