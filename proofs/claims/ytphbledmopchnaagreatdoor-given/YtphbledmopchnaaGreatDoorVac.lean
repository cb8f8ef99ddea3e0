import Derived.Test.YtphbledmopchnaaGreatDoorVaa
import Derived.JoinedCond
import Derived.Test.YtphbledmopchnaaGreatDoorChecked
import Derived.Test.YtphbledmopchnaaGreatDoorRows
set_option maxHeartbeats 40000000
set_option maxRecDepth 100000
set_option linter.all false
namespace Go.Proofs.YtphbledmopchnaaGreatDoor.Sd
open Go.ChangeShapes Go.WideShapes Go.ChangeAt Go.RowKit
def qj4:joinedFacts Tryz.pinned.checked.prog 10 Tryz.f10 (OpenSpec.ofChange Rows.givenSpec).bare Rows.givenRow=true:=by
 unfold joinedFacts;iterate 31 refine Bool.and_eq_true_iff.2 ⟨?_,?_⟩
 all_goals(as_aux_lemma=>kernel_rfl)
