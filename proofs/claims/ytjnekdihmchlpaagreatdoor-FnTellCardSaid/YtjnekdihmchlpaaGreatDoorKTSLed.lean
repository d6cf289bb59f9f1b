/- The contracts of the specification's l07Acct, EntryOk, BalanceOf, Back, Worth, LedgerOk. -/
import Derived.Test.YtjnekdihmchlpaaGreatDoorJT1a
import Derived.Handy
import Derived.Deep.RegionHeld3
namespace Go.Proofs.YtjnekdihmchlpaaGreatDoor
open Go.RowKit
set_option maxRecDepth 100000

set_option maxHeartbeats 400000 in
theorem acct_any (a : Int) (w : World) :
    Calls Tryz.prog 61 #[.int .i64 a] w fun e w' => e = .returned (.bool (acctOk a)) ∧ w' = w := by
  go_enter Tryz.func61, Tryz.ntmps61
  go_wp2_with fail
  refine (in_any _ _ _ _).mono ?_
  rintro e w1 ⟨rfl, hw⟩
  rw [hw]
  go_wp2
  go_ret
  exact ⟨rfl, rfl⟩
theorem acct_is {a : Int} {q : Bool} (h : acctOk a = q) (w : World) : Calls Tryz.prog 61 #[.int .i64 a] w fun e w' => e = .returned (.bool q) ∧ w' = w := by rw [← h]; exact acct_any a w

set_option maxHeartbeats 800000 in
theorem sBack_any (a b c m : Int) (w : World) :
    Calls Tryz.prog 136 #[.agg #[.int .i64 a, .int .i64 b, .int .i64 c, .int .i64 m]] w fun e w' => e = .returned (.agg #[.int .i64 b, .int .i64 a, .int .i64 c, .int .i64 m]) ∧ Below w.heap.size w w' := by
  go_enter Tryz.func136, Tryz.ntmps136
  go_wp2
  go_returns
  refine ⟨rfl, ?_⟩
  go_grown



theorem digs_is {c : Int} (w : World) (d : Int) (h : digs c = d) : Calls Tryz.prog 62 #[.int .i64 c] w fun e w' => e = .returned (.int .i64 d) ∧ Below w.heap.size w w' := by rw [← h]; exact sDigits_any c w


end Go.Proofs.YtjnekdihmchlpaaGreatDoor
