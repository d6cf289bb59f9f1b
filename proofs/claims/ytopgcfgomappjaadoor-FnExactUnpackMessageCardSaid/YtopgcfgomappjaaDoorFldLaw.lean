/- The laws' own small functions over fields: how much one takes, its copy, whether two are the same. -/
import Derived.Test.YtopgcfgomappjaaDoorAid
import Derived.Test.YtopgcfgomappjaaDoorMsgP
import Derived.Handy
namespace Go.Proofs.YtopgcfgomappjaaDoor
open Go.RowKit

def leftF (l : List UInt8) (left : Int) : Int := if left - (l.length : Int) < 0 then -1 else left - (l.length : Int)

set_option maxHeartbeats 400000 in
theorem szField_any (n : Int) (l : List UInt8) (left : Int) (w : World) (hl : left ≤ 1048576 ∧ 0 ≤ left) (hm : l.length ≤ 9223372036854775807) :
    Calls Tryd.prog 42 #[.agg #[.int .i64 n, .string ⟨l.toArray⟩], .int .i64 left] w fun e w' => e = .returned (.int .i64 (leftF l left)) ∧ Below w.heap.size w w' := by
  by_cases h : left - (l.length : Int) < 0
  · have HE : Hid (leftF l left = -1) := if_pos h
    go_enter Tryd.func42, Tryd.ntmps42
    go_wp2
    go_ret
    exact ⟨one_int HE.out.symm, (Below.refl _ _).alloc (Nat.le_refl _) _⟩
  · have HE : Hid (leftF l left = left - (l.length : Int)) := if_neg h
    go_enter Tryd.func42, Tryd.ntmps42
    go_wp2
    go_ret
    exact ⟨one_int HE.out.symm, (Below.refl _ _).alloc (Nat.le_refl _) _⟩

set_option maxHeartbeats 400000 in
theorem toField_any (n : Int) (l : List UInt8) (w : World) :
    Calls Tryd.prog 49 #[.agg #[.int .i64 n, .string ⟨l.toArray⟩]] w fun e w' => e = .returned (.agg #[.int .i64 n, .string ⟨l.toArray⟩]) ∧ Below w.heap.size w w' := by
  go_enter Tryd.func49, Tryd.ntmps49
  go_wp2
  go_returns
  refine ⟨rfl, ?_⟩
  go_grown

end Go.Proofs.YtopgcfgomappjaaDoor
