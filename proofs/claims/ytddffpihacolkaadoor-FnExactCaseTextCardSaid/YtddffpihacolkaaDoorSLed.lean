/- The contracts of the specification's l07Acct, EntryOk, BalanceOf, Back, Worth, LedgerOk. -/
import Derived.Test.YtddffpihacolkaaDoorLns
import Derived.Handy
import Derived.Deep.RegionHeld3
namespace Go.Proofs.YtddffpihacolkaaDoor
open Go.RowKit
set_option maxRecDepth 100000

set_option maxHeartbeats 400000 in
theorem acct_any (a : Int) (w : World) :
    Calls Tryd.prog 18 #[.int .i64 a] w fun e w' => e = .returned (.bool (acctOk a)) ∧ w' = w := by
  go_enter Tryd.func18, Tryd.ntmps18
  go_wp2_with fail
  refine (in_any _ _ _ _).mono ?_
  rintro e w1 ⟨rfl, hw⟩
  rw [hw]
  go_wp2
  go_ret
  exact ⟨rfl, rfl⟩
theorem acct_is {a : Int} {q : Bool} (h : acctOk a = q) (w : World) : Calls Tryd.prog 18 #[.int .i64 a] w fun e w' => e = .returned (.bool q) ∧ w' = w := by rw [← h]; exact acct_any a w




theorem digs_is {c : Int} (w : World) (d : Int) (h : digs c = d) : Calls Tryd.prog 20 #[.int .i64 c] w fun e w' => e = .returned (.int .i64 d) ∧ Below w.heap.size w w' := by rw [← h]; exact sDigits_any c w


end Go.Proofs.YtddffpihacolkaaDoor
