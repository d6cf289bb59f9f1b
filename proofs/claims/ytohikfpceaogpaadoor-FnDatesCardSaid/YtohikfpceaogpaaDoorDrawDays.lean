/- What is drawn for chapter 2: days and dates, whatever the bytes. -/
import Derived.Test.YtohikfpceaogpaaDoorDrawn
import Derived.Test.YtohikfpceaogpaaDoorDLeaf
namespace Go.Proofs.YtohikfpceaogpaaDoor
open Go.RowKit

theorem bel_g {w w' : World} {g : Nat} (hg : w.grownBy w' (some g)) (h : g ≤ w.heap.size) : Below g w w' := (Below.refl g w).grown hg h (fun k hk => by cases hk; exact Nat.le_refl _)

set_option maxHeartbeats 1000000 in
theorem day_any {B : Nat} (g : Nat) (w : World) (hc : Cursor B w g) :
    Calls Tryd.prog 22 #[.pointer (some ⟨g, 0, none⟩)] w fun e w' => ∃ x : Int, e = .returned (.int .i64 x) ∧ (-1 ≤ x ∧ x ≤ 80001) ∧ Cursor B w' g ∧ w.grownBy w' (some g) := by
  go_enter Tryd.func22, Tryd.ntmps22
  go_wp2_with fail
  refine (once_any _ _ _ hc (by omega)).mono ?_
  rintro e w1 ⟨y, rfl, c1, g1⟩
  cases y
  · go_wp2_with fail
    refine (below_any _ _ _ c1 (by omega)).mono ?_
    rintro e w3 ⟨z, rfl, z0, z1, c3, g3⟩
    have hz := z1 (by omega)
    clear z1
    go_wp2
    go_ret
    exact ⟨9000 + z, rfl, by omega, c3, g1.trans g3⟩
  · go_wp2_with fail
    refine (pickInt_any _ _ _ [-1, 0, 80000, 80001, 59, 60, 366, 36524, 36525] _ (cursor_alloc c1 _) (cursor_ne c1) (lit_cells w1 [-1, 0, 80000, 80001, 59, 60, 366, 36524, 36525] _ rfl) (by decide) (by decide)).mono ?_
    rintro e w3 ⟨z, rfl, hz, c3, g3⟩
    go_wp2
    go_ret
    exact ⟨z, rfl, (by decide : ∀ z ∈ [(-1 : Int), 0, 80000, 80001, 59, 60, 366, 36524, 36525], -1 ≤ z ∧ z ≤ 80001) z hz, c3, g1.trans ((grown_alloc _ _ _).trans g3)⟩

end Go.Proofs.YtohikfpceaogpaaDoor
