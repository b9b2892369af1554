import Derived.Test.YtdgbfelbfhgglaaGreatDoorPK1
import Derived.Test.YtdgbfelbfhgglaaGreatDoorDx
set_option linter.unusedVariables false
set_option linter.unusedSimpArgs false
set_option maxRecDepth 100000
namespace Go.Proofs.YtdgbfelbfhgglaaGreatDoor.Cn
open Go Go.AE Seg
theorem pc1083x1 : diter (dstep Tryz.prog 10 (retOf nest14) (mkH nx83 hp83).next ops1083) 6 xx1083x0 = some xx1083x1 := by kernel_rfl
theorem pc1083x2 : diter (dstep Tryz.prog 10 (retOf nest14) (mkH nx83 hp83).next ops1083) 6 xx1083x1 = some xx1083x2 := by kernel_rfl
theorem pc1083x3 : diter (dstep Tryz.prog 10 (retOf nest14) (mkH nx83 hp83).next ops1083) 6 xx1083x2 = some xx1083x3 := by kernel_rfl
theorem pc1083x4 : diter (dstep Tryz.prog 10 (retOf nest14) (mkH nx83 hp83).next ops1083) 6 xx1083x3 = some xx1083x4 := by kernel_rfl
theorem pc1083x5 : diter (dstep Tryz.prog 10 (retOf nest14) (mkH nx83 hp83).next ops1083) 6 xx1083x4 = some xx1083x5 := by kernel_rfl
theorem pc1083x6 : diter (dstep Tryz.prog 10 (retOf nest14) (mkH nx83 hp83).next ops1083) 6 xx1083x5 = some xx1083x6 := by kernel_rfl
theorem pc1083x7 : diter (dstep Tryz.prog 10 (retOf nest14) (mkH nx83 hp83).next ops1083) 6 xx1083x6 = some xx1083x7 := by kernel_rfl
theorem pc1083x8 : diter (dstep Tryz.prog 10 (retOf nest14) (mkH nx83 hp83).next ops1083) 6 xx1083x7 = some xx1083x8 := by kernel_rfl
theorem pc1083x9 : diter (dstep Tryz.prog 10 (retOf nest14) (mkH nx83 hp83).next ops1083) 6 xx1083x8 = some xx1083x9 := by kernel_rfl
theorem pc1083x10 : diter (dstep Tryz.prog 10 (retOf nest14) (mkH nx83 hp83).next ops1083) 6 xx1083x9 = some xx1083x10 := by kernel_rfl
theorem pc1083x11 : diter (dstep Tryz.prog 10 (retOf nest14) (mkH nx83 hp83).next ops1083) 6 xx1083x10 = some xx1083x11 := by kernel_rfl
theorem pc1083x12 : diter (dstep Tryz.prog 10 (retOf nest14) (mkH nx83 hp83).next ops1083) 6 xx1083x11 = some xx1083x12 := by kernel_rfl
theorem pc1083x13 : diter (dstep Tryz.prog 10 (retOf nest14) (mkH nx83 hp83).next ops1083) 1 xx1083x12 = some xx1083x13 := by kernel_rfl
theorem ha1083 : hasAlloc ops1083 = false := by kernel_rfl
theorem sz1083 : ops1083.size = 73 := by kernel_rfl
theorem it1083 : diter (dstep Tryz.prog 10 (retOf nest14) (mkH nx83 hp83).next ops1083) (73) xx1083x0 = some xx1083x13 := diter_add pc1083x1 (diter_add pc1083x2 (diter_add pc1083x3 (diter_add pc1083x4 (diter_add pc1083x5 (diter_add pc1083x6 (diter_add pc1083x7 (diter_add pc1083x8 (diter_add pc1083x9 (diter_add pc1083x10 (diter_add pc1083x11 (diter_add pc1083x12 (pc1083x13))))))))))))
theorem dall1083 : adrawAll Tryz.prog 10 (retOf nest14) ops1083 fr83.tmps (mkH nx83 hp83) = some (xx1083x13.2.2.1, xx1083x13.2.2.2) := by
  refine drawAll_of_pieces (n := 73) (by kernel_rfl) ?_ (by rw [sz1083]; decide) (by kernel_rfl)
  rw [ha1083, sz1083]
  exact it1083
theorem td1083 : fr83.todo = .code (.region 9 ops1083 true) :: fr1083.todo := by kernel_rfl
theorem md1083 : fr83.mode = .run := by kernel_rfl
theorem fg1083 : (xx1083x13.2.2.2.next, (hp1083.map (·.1)).map xx1083x13.2.2.2.get) = (nx1083, hp1083.map fun x => some x.2) := by kernel_rfl
theorem fe1083 : ({ fr83 with tmps := xx1083x13.2.2.1, todo := fr1083.todo } : Frame) = fr1083 := by kernel_rfl
theorem ce1083 : cs83 = cs1083 := by kernel_rfl
end Go.Proofs.YtdgbfelbfhgglaaGreatDoor.Cn
