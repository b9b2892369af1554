import Derived.Test.YthghfccdllafbaaGreatDoorK1
import Derived.Test.YthghfccdllafbaaGreatDoorSt5
import Derived.Test.YthghfccdllafbaaGreatDoorDr0
import Derived.Test.YthghfccdllafbaaGreatDoorDr1
import Derived.Test.YthghfccdllafbaaGreatDoorDr2
set_option maxRecDepth 100000
namespace Go.Proofs.YthghfccdllafbaaGreatDoor
open Go Go.AE Seg
theorem ha1073 : hasAlloc ops1073 = false := by kernel_rfl
theorem sz1073 : ops1073.size = 73 := by kernel_rfl
theorem it1073 : diter (dstep Tryz.prog 10 (retOf nest11) (mkH nx1072 hp1072).next ops1073) (73) xx1073x0 = some xx1073x13 := diter_add pc1073x1 (diter_add pc1073x2 (diter_add pc1073x3 (diter_add pc1073x4 (diter_add pc1073x5 (diter_add pc1073x6 (diter_add pc1073x7 (diter_add pc1073x8 (diter_add pc1073x9 (diter_add pc1073x10 (diter_add pc1073x11 (diter_add pc1073x12 (pc1073x13))))))))))))
theorem dall1073 : adrawAll Tryz.prog 10 (retOf nest11) ops1073 fr1072.tmps (mkH nx1072 hp1072) = some (xx1073x13.2.2.1, xx1073x13.2.2.2) := by
  refine drawAll_of_pieces (n := 73) (by kernel_rfl) ?_ (by rw [sz1073]; decide) (by kernel_rfl)
  rw [ha1073, sz1073]
  exact it1073
theorem td1073 : fr1072.todo = .code (.region 9 ops1073 true) :: fr1073.todo := by kernel_rfl
theorem md1073 : fr1072.mode = .run := by kernel_rfl
theorem fg1073 : (xx1073x13.2.2.2.next, (hp1073.map (·.1)).map xx1073x13.2.2.2.get) = (nx1073, hp1073.map fun x => some x.2) := by kernel_rfl
theorem fe1073 : ({ fr1072 with tmps := xx1073x13.2.2.1, todo := fr1073.todo } : Frame) = fr1073 := by kernel_rfl
theorem ce1073 : cs1072 = cs1073 := by kernel_rfl
end Go.Proofs.YthghfccdllafbaaGreatDoor
