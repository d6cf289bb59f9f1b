import Derived.Test.YtfpafnefpmmofaaGreatDoorJW0a
import Derived.Test.YtfpafnefpmmofaaGreatDoorRows
namespace Go.Proofs.YtfpafnefpmmofaaGreatDoor.fnExactSwitchRun
open Go Go.Proofs.Tryz
set_option maxRecDepth 100000
set_option maxHeartbeats 12800000
theorem facts:joinedFacts Tryz.checked.prog 3 Tryz.f3 (OpenSpec.ofChange Rows.fnExactSwitchRunSpec).bare Rows.fnExactSwitchRunRow=true:=by
 unfold joinedFacts
 repeat' (with_reducible refine Bool.and_eq_true_iff.2 ⟨?_,?_⟩)
 all_goals (as_aux_lemma=>kernel_rfl)
end Go.Proofs.YtfpafnefpmmofaaGreatDoor.fnExactSwitchRun
