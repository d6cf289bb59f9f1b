/- The laws' own small functions over authorizations: how much they take, their copies, whether two lists are the same. -/
import Derived.Test.YtpjfigjgamlcdaaDoorAuOwn
import Derived.Deep.RegionWith
namespace Go.Proofs.YtpjfigjgamlcdaaDoor
open Go.RowKit
set_option maxRecDepth 100000

def leftA (l : List UInt8) (left : Int) : Int := if left - (l.length : Int) < 0 then -1 else left - (l.length : Int)

set_option maxHeartbeats 400000 in
theorem szAuth_any (a : Au) (left : Int) (w : World) (hl : left ≤ 1048576 ∧ 0 ≤ left) (hm : a.ref.length ≤ 9223372036854775807) :
    Calls Tryd.prog 35 #[auv a, .int .i64 left] w fun e w' => e = .returned (.int .i64 (leftA a.ref left)) ∧ Below w.heap.size w w' := by
  obtain ⟨r, i, c, m, d, u⟩ := a
  simp only [auv] at hm ⊢
  by_cases h : left - (r.length : Int) < 0
  · have HE : Hid (leftA r left = -1) := if_pos h
    go_enter Tryd.func35, Tryd.ntmps35
    go_wp2
    go_ret
    exact ⟨one_int HE.out.symm, (Below.refl _ _).alloc (Nat.le_refl _) _⟩
  · have HE : Hid (leftA r left = left - (r.length : Int)) := if_neg h
    go_enter Tryd.func35, Tryd.ntmps35
    go_wp2
    go_ret
    exact ⟨one_int HE.out.symm, (Below.refl _ _).alloc (Nat.le_refl _) _⟩

set_option maxHeartbeats 1600000 in
theorem toAuth_any (a : Au) (w : World) :
    Calls Tryd.prog 37 #[auv a] w fun e w' => e = .returned (auv a) ∧ Below w.heap.size w w' := by
  obtain ⟨r, i, c, m, d, u⟩ := a
  simp only [auv]
  go_enter Tryd.func37, Tryd.ntmps37
  go_wp2
  go_returns
  refine ⟨rfl, ?_⟩
  go_grown





end Go.Proofs.YtpjfigjgamlcdaaDoor
