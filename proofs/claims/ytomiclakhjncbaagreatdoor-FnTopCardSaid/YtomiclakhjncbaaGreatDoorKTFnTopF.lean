import Derived.Test.YtomiclakhjncbaaGreatDoorJT0a
import Derived.Test.YtomiclakhjncbaaGreatDoorRows
namespace Go.Proofs.YtomiclakhjncbaaGreatDoor.fnTop
open Go Go.Proofs.Tryz
set_option maxRecDepth 100000
set_option maxHeartbeats 12800000
theorem facts:joinedFacts Tryz.checked.prog 9 Tryz.f9 (OpenSpec.ofChange Rows.fnTopSpec).bare Rows.fnTopRow=true:=by
 unfold joinedFacts
 repeat' (with_reducible refine Bool.and_eq_true_iff.2 ⟨?_,?_⟩)
 all_goals (as_aux_lemma=>kernel_rfl)
end Go.Proofs.YtomiclakhjncbaaGreatDoor.fnTop
