/- The contracts of the small functions that the specification's Block calls. -/
import Derived.Test.YtbncdhfmhokgeaaFPiece
import Derived.Deep.RegionLaw
namespace Go.Proofs.Ytbncdhfmhokgeaa
open Go.RowKit
set_option maxRecDepth 100000

set_option maxHeartbeats 400000 in
theorem in6_any (x a b : Int) (w : World) :
    Calls Try.prog 25 #[.int .i64 x, .int .i64 a, .int .i64 b] w fun e w' => e = .returned (.bool (decide (a ≤ x) && decide (x ≤ b))) ∧ w' = w := by
  by_cases h0 : a ≤ x
  · go_enter Try.func25, Try.ntmps25
    go_wp2
    go_ret
    exact ⟨one_bool (by simp [h0]), rfl⟩
  · go_enter Try.func25, Try.ntmps25
    go_wp2
    go_ret
    exact ⟨one_bool (by simp; intro h; omega), rfl⟩
theorem in_rec (r : List UInt8) : (decide ((1 : Int) ≤ (r.length : Int)) && decide ((r.length : Int) ≤ 3000)) = recOk r := by
  unfold recOk
  congr 1 <;> (rw [decide_eq_decide]; omega)

theorem be4_cells' (n : Nat) (h : n ≤ 3000) : #[Value.int .u8 ((n : Int) / 16777216), .int .u8 ((n : Int) / 65536 % 256), .int .u8 ((n : Int) / 256 % 256), .int .u8 ((n : Int) % 256)] = ((be4 n).map cell).toArray := by
  have h1 := be4_cells n (by omega)
  have b : (n : Int) / 65536 % 256 = (n : Int) / 65536 := by omega
  rw [← h1, b]
set_option maxHeartbeats 400000 in
theorem l06Len_any (n : Nat) (w : World) (hn : n ≤ 3000) :
    Calls Try.prog 26 #[.int .i64 n] w fun e w' => e = .returned (.slice (some ⟨w.heap.size, 0, none⟩) 4 4) ∧ w' = w.alloc (.cells ((be4 n).map cell).toArray 5) := by
  have HE : Hid _ := be4_cells' n hn
  go_enter Try.func26, Try.ntmps26
  go_wp2
  go_ret
  exact ⟨rfl, by rw [← HE.out]⟩

end Go.Proofs.Ytbncdhfmhokgeaa
