/- The contracts of the program's accountOk, EntryOk, Back, keyOf, BalanceOf, Worth, lineOk. -/
import Derived.Test.YtkdodamdjajbiaaLns
import Derived.Handy
import Derived.Deep.RegionWith
import Derived.Deep.RegionHeld3
namespace Go.Proofs.Ytkdodamdjajbiaa
open Go.RowKit
set_option maxRecDepth 100000

set_option maxHeartbeats 400000 in
theorem iAcct_any (a : Int) (w : World) :
    Calls Try.prog 65 #[.int .i64 a] w fun e w' => e = .returned (.bool (acctOk a)) ∧ w' = w := by
  by_cases h1 : 1 ≤ a
  · by_cases h2 : a ≤ 9999
    · have HE : Hid (acctOk a = true) := by simp [Hid, acctOk, h1, h2]
      go_enter Try.func65, Try.ntmps65
      go_wp2
      go_ret
      exact ⟨one_bool HE.out.symm, rfl⟩
    · have HE : Hid (acctOk a = false) := by simp [Hid, acctOk, h1, h2]
      go_enter Try.func65, Try.ntmps65
      go_wp2
      go_ret
      exact ⟨one_bool HE.out.symm, rfl⟩
  · have HE : Hid (acctOk a = false) := by simp [Hid, acctOk]; omega
    go_enter Try.func65, Try.ntmps65
    go_wp2
    go_ret
    exact ⟨one_bool HE.out.symm, rfl⟩
theorem iAcct_is {a : Int} {q : Bool} (h : acctOk a = q) (w : World) : Calls Try.prog 65 #[.int .i64 a] w fun e w' => e = .returned (.bool q) ∧ w' = w := by rw [← h]; exact iAcct_any a w





end Go.Proofs.Ytkdodamdjajbiaa
