/- What is drawn as an amount. -/
import Derived.Test.YtjjmjnbnoeaifaaDoorDrawPick
namespace Go.Proofs.YtjjmjnbnoeaifaaDoor
open Go.RowKit


set_option maxHeartbeats 1000000 in
theorem amount_any {B : Nat} (g : Nat) (w : World) (hc : Cursor B w g) :
    Calls Tryd.prog 31 #[.pointer (some ⟨g, 0, none⟩)] w fun e w' => ∃ x : Int, e = .returned (.int .i64 x) ∧ Fits x ∧ Cursor B w' g ∧ w.grownBy w' (some g) := by
  go_enter Tryd.func31, Tryd.ntmps31
  go_wp2_with fail
  refine (below_any _ _ _ hc (by omega)).mono ?_
  rintro e w1 ⟨x, rfl, x0, x1, c1, g1⟩
  have hx := x1 (by omega)
  clear x1
  rcases (show x = 0 ∨ x = 1 ∨ x = 2 ∨ (x ≠ 0 ∧ x ≠ 1 ∧ x ≠ 2) from by omega) with rfl | rfl | rfl | ⟨n0, n1, n2⟩
  · go_wp2_with fail
    refine (pickInt_any _ _ _ [0, 1, -1, 1000000000000, -1000000000000, 99, 100, 5] _ (cursor_alloc c1 _) (cursor_ne c1) (lit_cells w1 [0, 1, -1, 1000000000000, -1000000000000, 99, 100, 5] _ rfl) (by decide) (by decide)).mono ?_
    rintro e w2 ⟨y, rfl, hy, c2, g2⟩
    go_wp2
    go_ret
    exact ⟨y, rfl, (by decide : ∀ z ∈ [(0 : Int), 1, -1, 1000000000000, -1000000000000, 99, 100, 5], -9223372036854775808 ≤ z ∧ z ≤ 9223372036854775807) y hy, c2, g1.trans ((grown_alloc _ _ _).trans g2)⟩
  · go_wp2_with fail
    refine (once_any _ _ _ c1 (by omega)).mono ?_
    rintro e w2 ⟨y, rfl, c2, g2⟩
    cases y
    · go_wp2_with fail
      refine (below_any _ _ _ c2 (by omega)).mono ?_
      rintro e w3 ⟨z, rfl, z0, z1, c3, g3⟩
      have hz := z1 (by omega)
      go_wp2
      go_ret
      exact ⟨z, rfl, fits_small (by omega) (by omega), c3, (g1.trans g2).trans g3⟩
    · go_wp2_with fail
      refine (pickInt_any _ _ _ [1000000000001, -1000000000001, 9223372036854775807, -9223372036854775808] _ (cursor_alloc c2 _) (cursor_ne c2) (lit_cells w2 [1000000000001, -1000000000001, 9223372036854775807, -9223372036854775808] _ rfl) (by decide) (by decide)).mono ?_
      rintro e w3 ⟨z, rfl, hz, c3, g3⟩
      go_wp2
      go_ret
      exact ⟨z, rfl, (by decide : ∀ z ∈ [(1000000000001 : Int), -1000000000001, 9223372036854775807, -9223372036854775808], -9223372036854775808 ≤ z ∧ z ≤ 9223372036854775807) z hz, c3, (g1.trans g2).trans ((grown_alloc _ _ _).trans g3)⟩
  · go_wp2_with fail
    refine (below_any _ _ _ c1 (by omega)).mono ?_
    rintro e w3 ⟨z, rfl, z0, z1, c3, g3⟩
    have hz := z1 (by omega)
    go_wp2
    go_ret
    exact ⟨-z, rfl, fits_small (by omega) (by omega), c3, g1.trans g3⟩
  · have k0 : (x == 0) = false := by simpa using n0
    have k1 : (x == 1) = false := by simpa using n1
    have k2 : (x == 2) = false := by simpa using n2
    go_wp2_with fail
    refine (below_any _ _ _ c1 (by omega)).mono ?_
    rintro e w3 ⟨z, rfl, z0, z1, c3, g3⟩
    have hz := z1 (by omega)
    go_wp2
    go_ret
    exact ⟨z, rfl, fits_small (by omega) (by omega), c3, g1.trans g3⟩

end Go.Proofs.YtjjmjnbnoeaifaaDoor
