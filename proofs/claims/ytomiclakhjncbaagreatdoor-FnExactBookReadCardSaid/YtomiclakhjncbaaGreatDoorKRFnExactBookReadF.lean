import Derived.Test.YtomiclakhjncbaaGreatDoorRows
import Derived.JoinedCond
import Derived.KernelRfl
namespace Go.Proofs.YtomiclakhjncbaaGreatDoor.fnExactBookRead
open Go Go.Proofs.Tryz
set_option maxRecDepth 100000
set_option maxHeartbeats 12800000
theorem facts:joinedFacts Tryz.checked.prog 4 Tryz.f4 (OpenSpec.ofChange Rows.fnExactBookReadSpec).bare Rows.fnExactBookReadRow=true:=by
 unfold joinedFacts
 repeat' (with_reducible refine Bool.and_eq_true_iff.2 ⟨?_,?_⟩)
 all_goals (as_aux_lemma=>kernel_rfl)
end Go.Proofs.YtomiclakhjncbaaGreatDoor.fnExactBookRead
