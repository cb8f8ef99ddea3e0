/-
  The closed facts of Gathered's first row, one by one.
-/
import Derived.Test.YtphbledmopchnaaGreatDoorRows
import Derived.Test.YtphbledmopchnaaGreatDoorChecked
import Derived.JoinedCond
import Derived.KernelRfl
import Derived.WalkKit
namespace Go.Proofs.YtphbledmopchnaaGreatDoor
open Go.ChangeShapes Go.WideShapes Go.ChangeAt Go.RowKit

set_option maxHeartbeats 40000000 in
set_option maxRecDepth 100000 in
theorem closedV : joinedFacts Tryz.pinned.checked.prog 4 Tryz.f4 (OpenSpec.ofChange Rows.gatheredSpec).bare Rows.gatheredRow = true := by
  unfold joinedFacts
  iterate 31 refine Bool.and_eq_true_iff.2 ⟨?_, ?_⟩
  all_goals (as_aux_lemma => kernel_rfl)

end Go.Proofs.YtphbledmopchnaaGreatDoor
