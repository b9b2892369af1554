import Derived.Test.YthghfccdllafbaaGreatDoorK1
import Derived.Test.YthghfccdllafbaaGreatDoorSt4
import Derived.Test.YthghfccdllafbaaGreatDoorSt0
import Derived.Test.YthghfccdllafbaaGreatDoorSt1
set_option maxRecDepth 100000
namespace Go.Proofs.YthghfccdllafbaaGreatDoor
open Go Go.AE Seg
noncomputable def ta21x : Array Value := #[(.agg #[(str [49]),(str [56])]),(.int .i64 (.ofNat 0))]
noncomputable def tv21x : Value := (str [48])
noncomputable def hk21x := toldOr gl 46 ta21x tv21x hk21
noncomputable def nest21x := acallD Tryz.prog 10 hk21x 1000000 12
noncomputable def dr21x := adrawC Tryz.prog 10 (retOf nest21x)
noncomputable def stp21x := bstep Tryz.prog 10 hk21x nest21x dr21x
noncomputable abbrev go21x (n : Nat) (s : AS) : Option AS := iter stp21x n s
theorem seg1112 : (go21 149 st108).map (Go.AE.look (hp1112.map (·.1))) = some (fr1112, cs1112, nx1112, hp1112.map fun x => some x.2) := by kernel_rfl
theorem seg1114 : (go21 1923 st1113).map (Go.AE.look (hp1114.map (·.1))) = some (fr1114, cs1114, nx1114, hp1114.map fun x => some x.2) := by kernel_rfl
theorem seg112 : (go21x 1 st1112).map (Go.AE.look (hp112.map (·.1))) = some (fr112, cs112, 1157, hp112.map fun x => some x.2) := by kernel_rfl
end Go.Proofs.YthghfccdllafbaaGreatDoor
