import Derived.Test.YtomiclakhjncbaaGreatDoorJC0a
import Derived.Test.YtomiclakhjncbaaGreatDoorRows
namespace Go.Proofs.YtomiclakhjncbaaGreatDoor.fnCutOff
open Go Go.Proofs.Tryz
set_option maxRecDepth 100000
set_option maxHeartbeats 12800000
theorem facts:joinedFacts Tryz.checked.prog 8 Tryz.f8 (OpenSpec.ofChange Rows.fnCutOffSpec).bare Rows.fnCutOffRow=true:=by
 unfold joinedFacts
 repeat' (with_reducible refine Bool.and_eq_true_iff.2 ⟨?_,?_⟩)
 all_goals (as_aux_lemma=>kernel_rfl)
end Go.Proofs.YtomiclakhjncbaaGreatDoor.fnCutOff
