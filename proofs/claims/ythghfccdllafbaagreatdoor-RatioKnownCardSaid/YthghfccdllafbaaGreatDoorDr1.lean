import Derived.Test.YthghfccdllafbaaGreatDoorK1
import Derived.Test.YthghfccdllafbaaGreatDoorSt5
set_option maxRecDepth 100000
namespace Go.Proofs.YthghfccdllafbaaGreatDoor
open Go Go.AE Seg
theorem pc1073x6 : diter (dstep Tryz.prog 10 (retOf nest11) (mkH nx1072 hp1072).next ops1073) 6 xx1073x5 = some xx1073x6 := by kernel_rfl
theorem pc1073x7 : diter (dstep Tryz.prog 10 (retOf nest11) (mkH nx1072 hp1072).next ops1073) 6 xx1073x6 = some xx1073x7 := by kernel_rfl
theorem pc1073x8 : diter (dstep Tryz.prog 10 (retOf nest11) (mkH nx1072 hp1072).next ops1073) 6 xx1073x7 = some xx1073x8 := by kernel_rfl
theorem pc1073x9 : diter (dstep Tryz.prog 10 (retOf nest11) (mkH nx1072 hp1072).next ops1073) 6 xx1073x8 = some xx1073x9 := by kernel_rfl
end Go.Proofs.YthghfccdllafbaaGreatDoor
