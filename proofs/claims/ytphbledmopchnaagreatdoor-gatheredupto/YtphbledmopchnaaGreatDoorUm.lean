import Derived.Test.YtphbledmopchnaaGreatDoorRows
import Derived.Test.YtphbledmopchnaaGreatDoorChecked
import Derived.JoinedCond
import Derived.KernelRfl
import Derived.WalkKit
/-
  The closed facts of Gathered's row, one by one.
-/
namespace Go.Proofs.YtphbledmopchnaaGreatDoor
open Go.ChangeShapes Go.WideShapes Go.ChangeAt Go.RowKit

set_option maxHeartbeats 40000000 in
set_option maxRecDepth 100000 in
theorem closedF : joinedFacts Tryz.pinned.checked.prog 4 Tryz.f4 (Rows.OpenSpec.upto Rows.gatheredSpec).bare Rows.gatheredUptoRow = true := by
  unfold joinedFacts
  iterate 31 refine Bool.and_eq_true_iff.2 ⟨?_, ?_⟩
  all_goals (as_aux_lemma => kernel_rfl)

end Go.Proofs.YtphbledmopchnaaGreatDoor
