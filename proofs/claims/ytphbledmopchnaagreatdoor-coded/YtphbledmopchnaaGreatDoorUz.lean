import Derived.Test.YtphbledmopchnaaGreatDoorRows
import Derived.Test.YtphbledmopchnaaGreatDoorChecked
import Derived.JoinedCond
import Derived.KernelRfl
import Derived.WalkKit
/-
  The closed facts of Coded's first row, one by one.
-/
namespace Go.Proofs.YtphbledmopchnaaGreatDoor
open Go.ChangeShapes Go.WideShapes Go.ChangeAt Go.RowKit

set_option maxHeartbeats 40000000 in
set_option maxRecDepth 100000 in
theorem closedW : joinedFacts Tryz.pinned.checked.prog 3 Tryz.f3 (OpenSpec.ofChange Rows.codedSpec).bare Rows.codedRow = true := by
  unfold joinedFacts
  iterate 31 refine Bool.and_eq_true_iff.2 ⟨?_, ?_⟩
  all_goals (as_aux_lemma => kernel_rfl)

end Go.Proofs.YtphbledmopchnaaGreatDoor
