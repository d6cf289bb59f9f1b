/- The laws' own comparison of eight numbers. -/
import Derived.Test.YtkdodamdjajbiaaRpCnt
namespace Go.Proofs.Ytkdodamdjajbiaa
open Go.RowKit
set_option maxRecDepth 100000

theorem A8.newF (w : World) (f : Nat → Int) (t : TypeId) : A8 w.heap.size f (w.alloc (.cells #[.int .i64 (f 0), .int .i64 (f 1), .int .i64 (f 2), .int .i64 (f 3), .int .i64 (f 4), .int .i64 (f 5), .int .i64 (f 6), .int .i64 (f 7)] t)) :=
  ⟨by simp [go_sem], by simp [go_sem], by simp [go_sem], by simp [go_sem], by simp [go_sem], by simp [go_sem], by simp [go_sem], by simp [go_sem], by simp [go_sem], by simp [go_sem], by simp [go_sem], by simp [go_sem], by simp [go_sem], by simp [go_sem], by simp [go_sem], by simp [go_sem]⟩
set_option maxHeartbeats 6400000 in
theorem eqA8_any (f : Nat → Int) (w : World) : Calls Try.prog 16 #[.agg #[.int .i64 (f 0), .int .i64 (f 1), .int .i64 (f 2), .int .i64 (f 3), .int .i64 (f 4), .int .i64 (f 5), .int .i64 (f 6), .int .i64 (f 7)], .agg #[.int .i64 (f 0), .int .i64 (f 1), .int .i64 (f 2), .int .i64 (f 3), .int .i64 (f 4), .int .i64 (f 5), .int .i64 (f 6), .int .i64 (f 7)]] w fun e w' => e = .returned (.bool true) ∧ Below w.heap.size w w' := by
  obtain ⟨V, hV⟩ : ∃ V, V = w.alloc (.cells #[.int .i64 (f 0), .int .i64 (f 1), .int .i64 (f 2), .int .i64 (f 3), .int .i64 (f 4), .int .i64 (f 5), .int .i64 (f 6), .int .i64 (f 7)] 43) := ⟨_, rfl⟩
  obtain ⟨W, hW⟩ : ∃ W, W = V.alloc (.cells #[.int .i64 (f 0), .int .i64 (f 1), .int .i64 (f 2), .int .i64 (f 3), .int .i64 (f 4), .int .i64 (f 5), .int .i64 (f 6), .int .i64 (f 7)] 43) := ⟨_, rfl⟩
  have bV : Below w.heap.size w V := by rw [hV]; exact (Below.refl _ _).alloc (Nat.le_refl _) _
  have bW : Below V.heap.size V W := by rw [hW]; exact (Below.refl _ _).alloc (Nat.le_refl _) _
  have hs : V.heap.size = w.heap.size + 1 := by rw [hV]; simp
  have h1 : A8 w.heap.size f W := A8.below (u := V) (by rw [hV]; exact A8.newF w f _) bW
  have h2 : A8 (w.heap.size + 1) f W := by rw [← hs, hW]; exact A8.newF V f _
  have HB : Hid (Below w.heap.size w W) := next bV bW
  have H1 : Hid (A8 w.heap.size f W) := h1
  have H2 : Hid (A8 (w.heap.size + 1) f W) := h2
  have HW : Hid (W = (w.alloc (.cells #[.int .i64 (f 0), .int .i64 (f 1), .int .i64 (f 2), .int .i64 (f 3), .int .i64 (f 4), .int .i64 (f 5), .int .i64 (f 6), .int .i64 (f 7)] 43)).alloc (.cells #[.int .i64 (f 0), .int .i64 (f 1), .int .i64 (f 2), .int .i64 (f 3), .int .i64 (f 4), .int .i64 (f 5), .int .i64 (f 6), .int .i64 (f 7)] 43)) := by rw [Hid, hW, hV]
  clear hV hW bV bW hs h1 h2
  go_enter Try.func16, Try.ntmps16
  go_upto_region 1 with fail
  rw [← HW.out]
  clear HW
  go_wp2_with fail
  go_loopw [5] (fun i wr => ∃ k : Nat, k ≤ 8 ∧ i = .int .i64 (k : Int) ∧ Below W.heap.size W wr) (fun i _ => 8 - (intOf i).toNat)
  case atStart => exact ⟨0, by omega, rfl, Below.refl _ _⟩
  case round =>
    obtain ⟨k, hk, rfl, hbr⟩ := hrel
    have HBR : Hid (Below W.heap.size W wr) := hbr
    by_cases hlt : k < 8
    · have hki : (k : Int) < 8 := by omega
      have hk7 : k ≤ 7 := by omega
      obtain ⟨c1, -⟩ := (H1.out.below hbr).at k hk7
      obtain ⟨c2, -⟩ := (H2.out.below hbr).at k hk7
      clear hbr
      obtain ⟨n, hn⟩ : ∃ n, f k = n := ⟨_, rfl⟩
      rw [hn] at c1 c2
      clear hn
      go_upto_region 4 with fail
      go_region_with (fail)
      all_goals
        go_wp2
        go_roundw
        case rel => exact ⟨k + 1, by omega, by go_num, next HBR.out ((Below.refl _ _).drew)⟩
        case measure => simp [intOf]; omega
    · have hki : ¬ (k : Int) < 8 := by omega
      clear hbr
      go_wp2
      go_ret
      exact ⟨rfl, next HB.out HBR.out⟩

end Go.Proofs.Ytkdodamdjajbiaa
