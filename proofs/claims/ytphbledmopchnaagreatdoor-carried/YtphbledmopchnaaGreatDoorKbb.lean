import Derived.JoinedCond
import Derived.KernelRfl
import Derived.Test.YtphbledmopchnaaGreatDoorChecked
import Derived.Test.YtphbledmopchnaaGreatDoorRows
import Derived.WalkKit
set_option maxHeartbeats 40000000
set_option maxRecDepth 100000
namespace Go.Proofs.YtphbledmopchnaaGreatDoor.Sd
open Go.ChangeShapes Go.WideShapes Go.ChangeAt Go.RowKit
theorem U7:joinedFacts Tryz.pinned.checked.prog 8 Tryz.f8 (OpenSpec.ofChange Rows.carriedSpec).bare Rows.carriedRow=true:=by
 unfold joinedFacts
 iterate 31 refine Bool.and_eq_true_iff.2 ⟨?_,?_⟩
 all_goals(as_aux_lemma=>kernel_rfl)
end Go.Proofs.YtphbledmopchnaaGreatDoor.Sd
