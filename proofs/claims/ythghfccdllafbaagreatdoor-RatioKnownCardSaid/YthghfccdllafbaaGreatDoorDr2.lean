import Derived.Test.YthghfccdllafbaaGreatDoorK1
import Derived.Test.YthghfccdllafbaaGreatDoorSt5
set_option maxRecDepth 100000
namespace Go.Proofs.YthghfccdllafbaaGreatDoor
open Go Go.AE Seg
theorem pc1073x10 : diter (dstep Tryz.prog 10 (retOf nest11) (mkH nx1072 hp1072).next ops1073) 6 xx1073x9 = some xx1073x10 := by kernel_rfl
theorem pc1073x11 : diter (dstep Tryz.prog 10 (retOf nest11) (mkH nx1072 hp1072).next ops1073) 6 xx1073x10 = some xx1073x11 := by kernel_rfl
theorem pc1073x12 : diter (dstep Tryz.prog 10 (retOf nest11) (mkH nx1072 hp1072).next ops1073) 6 xx1073x11 = some xx1073x12 := by kernel_rfl
theorem pc1073x13 : diter (dstep Tryz.prog 10 (retOf nest11) (mkH nx1072 hp1072).next ops1073) 1 xx1073x12 = some xx1073x13 := by kernel_rfl
end Go.Proofs.YthghfccdllafbaaGreatDoor
