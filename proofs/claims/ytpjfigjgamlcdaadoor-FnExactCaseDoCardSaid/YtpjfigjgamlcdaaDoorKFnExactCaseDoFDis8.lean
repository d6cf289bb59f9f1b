/- The contract of stepOf: the step of a kind. -/
import Derived.Test.YtpjfigjgamlcdaaDoorJFnExactCaseDo3a
import Derived.Laws.EntriesVeiled
namespace Go.Proofs.YtpjfigjgamlcdaaDoor
open Go.RowKit
set_option maxRecDepth 100000

set_option maxHeartbeats 800000 in
theorem stepOf0 (w : World) : Calls Tryd.prog 46 #[.int .i64 0] w fun e w' => e = .returned ((.func (.func 83) #[] #[])) ∧ Below w.heap.size w w' := by
  go_enter Tryd.func46, Tryd.ntmps46
  go_wp2
  go_ret
  exact ⟨rfl, by go_grown⟩
set_option maxHeartbeats 800000 in
theorem stepOf1 (w : World) : Calls Tryd.prog 46 #[.int .i64 1] w fun e w' => e = .returned ((.func (.func 84) #[] #[])) ∧ Below w.heap.size w w' := by
  go_enter Tryd.func46, Tryd.ntmps46
  go_wp2
  go_ret
  exact ⟨rfl, by go_grown⟩
set_option maxHeartbeats 800000 in
theorem stepOf2 (w : World) : Calls Tryd.prog 46 #[.int .i64 2] w fun e w' => e = .returned ((.func (.func 85) #[] #[])) ∧ Below w.heap.size w w' := by
  go_enter Tryd.func46, Tryd.ntmps46
  go_wp2
  go_ret
  exact ⟨rfl, by go_grown⟩
set_option maxHeartbeats 800000 in
theorem stepOf3 (w : World) : Calls Tryd.prog 46 #[.int .i64 3] w fun e w' => e = .returned ((.func (.func 86) #[] #[])) ∧ Below w.heap.size w w' := by
  go_enter Tryd.func46, Tryd.ntmps46
  go_wp2
  go_ret
  exact ⟨rfl, by go_grown⟩
set_option maxHeartbeats 800000 in
theorem stepOf4 (w : World) : Calls Tryd.prog 46 #[.int .i64 4] w fun e w' => e = .returned ((.func (.func 87) #[] #[])) ∧ Below w.heap.size w w' := by
  go_enter Tryd.func46, Tryd.ntmps46
  go_wp2
  go_ret
  exact ⟨rfl, by go_grown⟩
set_option maxHeartbeats 800000 in
theorem stepOf5 (w : World) : Calls Tryd.prog 46 #[.int .i64 5] w fun e w' => e = .returned ((.func (.func 88) #[] #[])) ∧ Below w.heap.size w w' := by
  go_enter Tryd.func46, Tryd.ntmps46
  go_wp2
  go_ret
  exact ⟨rfl, by go_grown⟩
set_option maxHeartbeats 800000 in
theorem stepOf6 (w : World) : Calls Tryd.prog 46 #[.int .i64 6] w fun e w' => e = .returned ((.func (.func 89) #[] #[])) ∧ Below w.heap.size w w' := by
  go_enter Tryd.func46, Tryd.ntmps46
  go_wp2
  go_ret
  exact ⟨rfl, by go_grown⟩
set_option maxHeartbeats 800000 in
theorem stepOf7 (w : World) : Calls Tryd.prog 46 #[.int .i64 7] w fun e w' => e = .returned ((.func (.func 90) #[] #[])) ∧ Below w.heap.size w w' := by
  go_enter Tryd.func46, Tryd.ntmps46
  go_wp2
  go_ret
  exact ⟨rfl, by go_grown⟩
set_option maxHeartbeats 800000 in
theorem stepOf8 (w : World) : Calls Tryd.prog 46 #[.int .i64 8] w fun e w' => e = .returned ((.func (.func 91) #[] #[])) ∧ Below w.heap.size w w' := by
  go_enter Tryd.func46, Tryd.ntmps46
  go_wp2
  go_ret
  exact ⟨rfl, by go_grown⟩
set_option maxHeartbeats 800000 in
theorem stepOf9 (w : World) : Calls Tryd.prog 46 #[.int .i64 9] w fun e w' => e = .returned ((.func (.func 92) #[] #[])) ∧ Below w.heap.size w w' := by
  go_enter Tryd.func46, Tryd.ntmps46
  go_wp2
  go_ret
  exact ⟨rfl, by go_grown⟩

end Go.Proofs.YtpjfigjgamlcdaaDoor
