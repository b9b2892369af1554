import Derived.Test.YtjbflfbhfnkmlaaGreatDoorRows
import Derived.Conc.Holds
import Derived.KernelRfl
set_option linter.unusedVariables false
set_option linter.unusedSimpArgs false
set_option maxRecDepth 100000
namespace Go.Proofs.YtjbflfbhfnkmlaaGreatDoor
open Go
theorem and_tr {a b : Bool} (h : a = true) (h' : b = true) : (a && b) = true := by rw [h, h']; rfl
set_option maxHeartbeats 4000000 in
theorem factsWholeFactors : joinedFacts Tryz.prog 6 Tryz.f6 Rows.wholeFactorsSpec Rows.wholeFactorsRow = true := by
  unfold joinedFacts
  repeat' (with_reducible apply and_tr)
  all_goals (as_aux_lemma => kernel_rfl)
end Go.Proofs.YtjbflfbhfnkmlaaGreatDoor
