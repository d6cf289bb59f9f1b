/- The contract of stepOf: the step of a kind. -/
import Derived.Test.YtenbhmmknejcjaaDoorJP93a
import Derived.Laws.EntriesVeiled
namespace Go.Proofs.YtenbhmmknejcjaaDoor
open Go.RowKit
set_option maxRecDepth 100000

set_option maxHeartbeats 800000 in
theorem stepOf0 (w : World) : Calls Tryd.prog 31 #[.int .i64 0] w fun e w' => e = .returned ((.func (.func 58) #[] #[])) ∧ Below w.heap.size w w' := by
  go_enter Tryd.func31, Tryd.ntmps31
  go_wp2
  go_ret
  exact ⟨rfl, by go_grown⟩
set_option maxHeartbeats 800000 in
theorem stepOf1 (w : World) : Calls Tryd.prog 31 #[.int .i64 1] w fun e w' => e = .returned ((.func (.func 59) #[] #[])) ∧ Below w.heap.size w w' := by
  go_enter Tryd.func31, Tryd.ntmps31
  go_wp2
  go_ret
  exact ⟨rfl, by go_grown⟩
set_option maxHeartbeats 800000 in
theorem stepOf2 (w : World) : Calls Tryd.prog 31 #[.int .i64 2] w fun e w' => e = .returned ((.func (.func 60) #[] #[])) ∧ Below w.heap.size w w' := by
  go_enter Tryd.func31, Tryd.ntmps31
  go_wp2
  go_ret
  exact ⟨rfl, by go_grown⟩
set_option maxHeartbeats 800000 in
theorem stepOf3 (w : World) : Calls Tryd.prog 31 #[.int .i64 3] w fun e w' => e = .returned ((.func (.func 61) #[] #[])) ∧ Below w.heap.size w w' := by
  go_enter Tryd.func31, Tryd.ntmps31
  go_wp2
  go_ret
  exact ⟨rfl, by go_grown⟩
set_option maxHeartbeats 800000 in
theorem stepOf4 (w : World) : Calls Tryd.prog 31 #[.int .i64 4] w fun e w' => e = .returned ((.func (.func 62) #[] #[])) ∧ Below w.heap.size w w' := by
  go_enter Tryd.func31, Tryd.ntmps31
  go_wp2
  go_ret
  exact ⟨rfl, by go_grown⟩
set_option maxHeartbeats 800000 in
theorem stepOf5 (w : World) : Calls Tryd.prog 31 #[.int .i64 5] w fun e w' => e = .returned ((.func (.func 63) #[] #[])) ∧ Below w.heap.size w w' := by
  go_enter Tryd.func31, Tryd.ntmps31
  go_wp2
  go_ret
  exact ⟨rfl, by go_grown⟩
set_option maxHeartbeats 800000 in
theorem stepOf6 (w : World) : Calls Tryd.prog 31 #[.int .i64 6] w fun e w' => e = .returned ((.func (.func 64) #[] #[])) ∧ Below w.heap.size w w' := by
  go_enter Tryd.func31, Tryd.ntmps31
  go_wp2
  go_ret
  exact ⟨rfl, by go_grown⟩
set_option maxHeartbeats 800000 in
theorem stepOf7 (w : World) : Calls Tryd.prog 31 #[.int .i64 7] w fun e w' => e = .returned ((.func (.func 65) #[] #[])) ∧ Below w.heap.size w w' := by
  go_enter Tryd.func31, Tryd.ntmps31
  go_wp2
  go_ret
  exact ⟨rfl, by go_grown⟩
set_option maxHeartbeats 800000 in
theorem stepOf8 (w : World) : Calls Tryd.prog 31 #[.int .i64 8] w fun e w' => e = .returned ((.func (.func 66) #[] #[])) ∧ Below w.heap.size w w' := by
  go_enter Tryd.func31, Tryd.ntmps31
  go_wp2
  go_ret
  exact ⟨rfl, by go_grown⟩
set_option maxHeartbeats 800000 in
theorem stepOf9 (w : World) : Calls Tryd.prog 31 #[.int .i64 9] w fun e w' => e = .returned ((.func (.func 67) #[] #[])) ∧ Below w.heap.size w w' := by
  go_enter Tryd.func31, Tryd.ntmps31
  go_wp2
  go_ret
  exact ⟨rfl, by go_grown⟩

end Go.Proofs.YtenbhmmknejcjaaDoor
