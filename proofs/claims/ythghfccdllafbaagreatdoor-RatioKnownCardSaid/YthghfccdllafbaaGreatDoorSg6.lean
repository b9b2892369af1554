import Derived.Test.YthghfccdllafbaaGreatDoorK1
import Derived.Test.YthghfccdllafbaaGreatDoorSt0
set_option maxRecDepth 100000
namespace Go.Proofs.YthghfccdllafbaaGreatDoor
open Go Go.AE Seg
theorem seg48 : (go9 258 st47).map (Go.AE.look (hp48.map (·.1))) = some (fr48, cs48, nx48, hp48.map fun x => some x.2) := by kernel_rfl
theorem seg49 : (go9 258 st48).map (Go.AE.look (hp49.map (·.1))) = some (fr49, cs49, nx49, hp49.map fun x => some x.2) := by kernel_rfl
theorem seg50 : (go9 3000 st49).map (Go.AE.look (hp50.map (·.1))) = some (fr50, cs50, nx50, hp50.map fun x => some x.2) := by kernel_rfl
theorem seg51 : (go9 3000 st50).map (Go.AE.look (hp51.map (·.1))) = some (fr51, cs51, nx51, hp51.map fun x => some x.2) := by kernel_rfl
theorem seg52 : (go9 2136 st51).map (Go.AE.look (hp52.map (·.1))) = some (fr52, cs52, nx52, hp52.map fun x => some x.2) := by kernel_rfl
theorem seg53 : (go9 3000 st52).map (Go.AE.look (hp53.map (·.1))) = some (fr53, cs53, nx53, hp53.map fun x => some x.2) := by kernel_rfl
end Go.Proofs.YthghfccdllafbaaGreatDoor
