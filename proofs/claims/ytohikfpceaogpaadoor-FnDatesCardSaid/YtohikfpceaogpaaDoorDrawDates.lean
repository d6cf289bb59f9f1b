/- What is drawn for dates: a day, a date, whatever the bytes. -/
import Derived.Test.YtohikfpceaogpaaDoorDrawDays
import Derived.Test.YtohikfpceaogpaaDoorDDate
namespace Go.Proofs.YtohikfpceaogpaaDoor
open Go.RowKit

theorem dateV_bd (d : Int) : 0 ≤ dateV d ∧ dateV d ≤ 22991231 := by
  cases h : dOk d
  · rw [dateV_no h]; omega
  · have := date_bd h; omega

set_option maxHeartbeats 800000 in
theorem drawDate_any (a : Option Addr) (len cap : Nat) (zs : List Int) (w : World) (hr : IsRow .u8 w a len cap zs) (hn : len ≤ 1048576) :
    Calls Tryd.prog 9 #[.slice a len cap] w fun e w' => ∃ d : Int, e = .returned (.int .i64 d) ∧ (-1 ≤ d ∧ d ≤ 80001) ∧ Below w.heap.size w w' := by
  go_enter Tryd.func9, Tryd.ntmps9
  go_wp2_with fail
  refine (new_any _ _ _ _ _ hr hn).mono ?_
  rintro e w1 ⟨rfl, c1, b1⟩
  go_wp2_with fail
  refine (day_any _ _ c1).mono ?_
  rintro e w2 ⟨d, rfl, hd, c2, g2⟩
  go_wp2
  go_ret
  exact ⟨d, rfl, hd, bel_grown b1 g2 (Nat.le_refl _)⟩

set_option maxHeartbeats 800000 in
theorem drawDay_any (a : Option Addr) (len cap : Nat) (zs : List Int) (w : World) (hr : IsRow .u8 w a len cap zs) (hn : len ≤ 1048576) :
    Calls Tryd.prog 12 #[.slice a len cap] w fun e w' => ∃ y : Int, e = .returned (.int .i64 y) ∧ (-20240101 ≤ y ∧ y ≤ 22991231) ∧ Below w.heap.size w w' := by
  go_enter Tryd.func12, Tryd.ntmps12
  go_wp2_with fail
  refine (new_any _ _ _ _ _ hr hn).mono ?_
  rintro e w1 ⟨rfl, c1, b1⟩
  go_wp2_with fail
  refine (once_any _ _ _ c1 (by omega)).mono ?_
  rintro e w2 ⟨q, rfl, c2, g2⟩
  have b2 := bel_grown b1 g2 (Nat.le_refl _)
  cases q
  · go_wp2_with fail
    refine (day_any _ _ c2).mono ?_
    rintro e w3 ⟨d, rfl, hd, c3, g3⟩
    have b3 := bel_grown b2 g3 (Nat.le_refl _)
    go_wp2_with fail
    refine (sDateOf_any _ _).mono ?_
    rintro e w4 ⟨rfl, b4⟩
    have HB : Hid _ := dateV_bd d
    go_wp2
    go_ret
    exact ⟨dateV d, rfl, by have := HB.out; omega, next b3 b4⟩
  · go_wp2_with fail
    refine (pickInt_any _ _ _ [20000101, 20000229, 20010229, 21000229, 20241301, 20240431, 20240400, 19991231, 22190113, 22190114, 0, -20240101] _ (cursor_alloc c2 _) (cursor_ne c2) (lit_cells w2 [20000101, 20000229, 20010229, 21000229, 20241301, 20240431, 20240400, 19991231, 22190113, 22190114, 0, -20240101] _ rfl) (by decide) (by decide)).mono ?_
    rintro e w3 ⟨z, rfl, hz, c3, g3⟩
    go_wp2
    go_ret
    exact ⟨z, rfl, (by decide : ∀ z ∈ [(20000101 : Int), 20000229, 20010229, 21000229, 20241301, 20240431, 20240400, 19991231, 22190113, 22190114, 0, -20240101], -20240101 ≤ z ∧ z ≤ 22991231) z hz, bel_grown (b2.alloc b2.size _) g3 (Nat.le_refl _)⟩

end Go.Proofs.YtohikfpceaogpaaDoor
