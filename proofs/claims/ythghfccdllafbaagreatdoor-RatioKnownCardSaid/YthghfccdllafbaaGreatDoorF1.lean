import Derived.Test.YthghfccdllafbaaGreatDoorRows
import Derived.Conc.Holds
import Derived.KernelRfl
set_option maxRecDepth 100000
namespace Go.Proofs.YthghfccdllafbaaGreatDoor
open Go
theorem and_tr {a b : Bool} (h : a = true) (h' : b = true) : (a && b) = true := by rw [h, h']; rfl
set_option maxHeartbeats 4000000 in
theorem facts : joinedFacts Tryz.prog 3 Tryz.f3 Rows.ratioKnownSpec Rows.ratioKnownRow = true := by
  unfold joinedFacts
  repeat' (with_reducible apply and_tr)
  all_goals (as_aux_lemma => kernel_rfl)
end Go.Proofs.YthghfccdllafbaaGreatDoor
