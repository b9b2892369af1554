import Derived.Test.YthghfccdllafbaaGreatDoorK1
import Derived.Test.YthghfccdllafbaaGreatDoorSt5
set_option maxRecDepth 100000
namespace Go.Proofs.YthghfccdllafbaaGreatDoor
open Go Go.AE Seg
theorem pc1073x1 : diter (dstep Tryz.prog 10 (retOf nest11) (mkH nx1072 hp1072).next ops1073) 6 xx1073x0 = some xx1073x1 := by kernel_rfl
theorem pc1073x2 : diter (dstep Tryz.prog 10 (retOf nest11) (mkH nx1072 hp1072).next ops1073) 6 xx1073x1 = some xx1073x2 := by kernel_rfl
theorem pc1073x3 : diter (dstep Tryz.prog 10 (retOf nest11) (mkH nx1072 hp1072).next ops1073) 6 xx1073x2 = some xx1073x3 := by kernel_rfl
theorem pc1073x4 : diter (dstep Tryz.prog 10 (retOf nest11) (mkH nx1072 hp1072).next ops1073) 6 xx1073x3 = some xx1073x4 := by kernel_rfl
theorem pc1073x5 : diter (dstep Tryz.prog 10 (retOf nest11) (mkH nx1072 hp1072).next ops1073) 6 xx1073x4 = some xx1073x5 := by kernel_rfl
end Go.Proofs.YthghfccdllafbaaGreatDoor
