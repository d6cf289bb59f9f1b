/- What is drawn for chapter 1: amounts, currencies, ratios: ints, whatever the bytes. -/
import Derived.Test.YtkhohbkdfgnmnaaDoorDraw
import Derived.Test.YtkhohbkdfgnmnaaDoorCur
namespace Go.Proofs.YtkhohbkdfgnmnaaDoor
open Go.RowKit

theorem lit_cells (w : World) (zs : List Int) (arr : Array Value) (h : arr = (zs.map (Value.int .i64)).toArray) :
    ∀ i, i < zs.length → (w.alloc (.cells arr 3)).cell? ⟨w.heap.size, i, none⟩ = some (.int .i64 (zs.getD i 0)) := by
  intro i hi
  subst h
  simp [List.getD_eq_getElem?_getD, hi]

theorem cursor_ne {B : Nat} {w : World} {g : Nat} (hc : Cursor B w g) : w.heap.size ≠ g := by
  have := cursor_bd hc; omega
theorem cursor_alloc {B : Nat} {w : World} {g : Nat} (hc : Cursor B w g) (o : Obj) : Cursor B (w.alloc o) g := cursor_below hc ((Below.refl _ _).alloc (Nat.le_refl _) _)
theorem grown_alloc (w : World) (o : Obj) (row : Option Nat) : w.grownBy (w.alloc o) row := World.grownBy_alloc w o row

set_option maxHeartbeats 800000 in
theorem pickInt_any {B : Nat} (g b cap : Nat) (zs : List Int) (w : World) (hc : Cursor B w g) (hbg : b ≠ g) (hz : ∀ i, i < zs.length → w.cell? ⟨b, i, none⟩ = some (.int .i64 (zs.getD i 0))) (h1 : 1 ≤ zs.length) (h2 : zs.length ≤ 1000) :
    Calls Tryd.prog 27 #[.pointer (some ⟨g, 0, none⟩), .slice (some ⟨b, 0, none⟩) zs.length cap] w fun e w' => ∃ x : Int, e = .returned (.int .i64 x) ∧ x ∈ zs ∧ Cursor B w' g ∧ w.grownBy w' (some g) := by
  go_enter Tryd.func27, Tryd.ntmps27
  go_wp2_with fail
  refine (below_any _ _ _ hc (by omega)).mono ?_
  rintro e w1 ⟨x, rfl, x0, x1, c1, g1⟩
  have hx := x1 (by omega)
  obtain ⟨k, rfl⟩ := Int.eq_ofNat_of_zero_le x0
  have hk : k < zs.length := by omega
  have cb : w1.cell? ⟨b, k, none⟩ = some (.int .i64 (zs.getD k 0)) := g1.cell (a := ⟨b, k, none⟩) (hz k hk) (by simpa using hbg)
  have hm : zs.getD k 0 ∈ zs := by simp [List.getD_eq_getElem?_getD, hk]
  generalize zs.getD k 0 = z at cb hm
  clear hz x1
  go_wp2
  go_ret
  exact ⟨z, rfl, hm, c1, g1⟩

/-- what is drawn as an int fits 64 bits -/
def Fits (x : Int) : Prop := -9223372036854775808 ≤ x ∧ x ≤ 9223372036854775807
theorem fits_wf {x : Int} (h : Fits x) : (Lit.int .i64 x).wf = true := by
  simp [Lit.wf, IntKind.min, IntKind.max, IntKind.signed, IntKind.bits]; exact h
theorem fits_small {x : Int} (h1 : -1000000000000 ≤ x) (h2 : x ≤ 1000000000000) : Fits x := ⟨by omega, by omega⟩

set_option maxHeartbeats 1000000 in
theorem amount_any {B : Nat} (g : Nat) (w : World) (hc : Cursor B w g) :
    Calls Tryd.prog 14 #[.pointer (some ⟨g, 0, none⟩)] w fun e w' => ∃ x : Int, e = .returned (.int .i64 x) ∧ Fits x ∧ Cursor B w' g ∧ w.grownBy w' (some g) := by
  go_enter Tryd.func14, Tryd.ntmps14
  go_wp2_with fail
  refine (below_any _ _ _ hc (by omega)).mono ?_
  rintro e w1 ⟨x, rfl, x0, x1, c1, g1⟩
  have hx := x1 (by omega)
  clear x1
  rcases (show x = 0 ∨ x = 1 ∨ x = 2 ∨ (x ≠ 0 ∧ x ≠ 1 ∧ x ≠ 2) from by omega) with rfl | rfl | rfl | ⟨n0, n1, n2⟩
  · go_wp2_with fail
    refine (pickInt_any _ _ _ [0, 1, -1, 1000000000000, -1000000000000, 99, 100, 5] _ (cursor_alloc c1 _) (cursor_ne c1) (lit_cells w1 [0, 1, -1, 1000000000000, -1000000000000, 99, 100, 5] _ rfl) (by decide) (by decide)).mono ?_
    rintro e w2 ⟨y, rfl, hy, c2, g2⟩
    go_wp2
    go_ret
    exact ⟨y, rfl, (by decide : ∀ z ∈ [(0 : Int), 1, -1, 1000000000000, -1000000000000, 99, 100, 5], -9223372036854775808 ≤ z ∧ z ≤ 9223372036854775807) y hy, c2, g1.trans ((grown_alloc _ _ _).trans g2)⟩
  · go_wp2_with fail
    refine (once_any _ _ _ c1 (by omega)).mono ?_
    rintro e w2 ⟨y, rfl, c2, g2⟩
    cases y
    · go_wp2_with fail
      refine (below_any _ _ _ c2 (by omega)).mono ?_
      rintro e w3 ⟨z, rfl, z0, z1, c3, g3⟩
      have hz := z1 (by omega)
      go_wp2
      go_ret
      exact ⟨z, rfl, fits_small (by omega) (by omega), c3, (g1.trans g2).trans g3⟩
    · go_wp2_with fail
      refine (pickInt_any _ _ _ [1000000000001, -1000000000001, 9223372036854775807, -9223372036854775808] _ (cursor_alloc c2 _) (cursor_ne c2) (lit_cells w2 [1000000000001, -1000000000001, 9223372036854775807, -9223372036854775808] _ rfl) (by decide) (by decide)).mono ?_
      rintro e w3 ⟨z, rfl, hz, c3, g3⟩
      go_wp2
      go_ret
      exact ⟨z, rfl, (by decide : ∀ z ∈ [(1000000000001 : Int), -1000000000001, 9223372036854775807, -9223372036854775808], -9223372036854775808 ≤ z ∧ z ≤ 9223372036854775807) z hz, c3, (g1.trans g2).trans ((grown_alloc _ _ _).trans g3)⟩
  · go_wp2_with fail
    refine (below_any _ _ _ c1 (by omega)).mono ?_
    rintro e w3 ⟨z, rfl, z0, z1, c3, g3⟩
    have hz := z1 (by omega)
    go_wp2
    go_ret
    exact ⟨-z, rfl, fits_small (by omega) (by omega), c3, g1.trans g3⟩
  · have k0 : (x == 0) = false := by simpa using n0
    have k1 : (x == 1) = false := by simpa using n1
    have k2 : (x == 2) = false := by simpa using n2
    go_wp2_with fail
    refine (below_any _ _ _ c1 (by omega)).mono ?_
    rintro e w3 ⟨z, rfl, z0, z1, c3, g3⟩
    have hz := z1 (by omega)
    go_wp2
    go_ret
    exact ⟨z, rfl, fits_small (by omega) (by omega), c3, g1.trans g3⟩

set_option maxHeartbeats 1000000 in
theorem cur1_any {B : Nat} (g : Nat) (w : World) (hc : Cursor B w g) :
    Calls Tryd.prog 15 #[.pointer (some ⟨g, 0, none⟩)] w fun e w' => ∃ x : Int, e = .returned (.int .i64 x) ∧ Fits x ∧ Cursor B w' g ∧ w.grownBy w' (some g) := by
  go_enter Tryd.func15, Tryd.ntmps15
  go_wp2_with fail
  refine (once_any _ _ _ hc (by omega)).mono ?_
  rintro e w1 ⟨y, rfl, c1, g1⟩
  cases y
  · go_wp2_with fail
    refine (sCurrencies_any _).mono ?_
    rintro e w2 ⟨rfl, rfl⟩
    have c2 := cursor_alloc c1 (.cells #[.int .i64 36, .int .i64 392, .int .i64 756, .int .i64 826, .int .i64 840, .int .i64 978, .int .i64 48, .int .i64 414] 3)
    go_wp2_with fail
    refine (below_any _ _ _ c2 (by omega)).mono ?_
    rintro e w3 ⟨x, rfl, x0, x1, c3, g3⟩
    have hx := x1 (by omega)
    obtain ⟨k, rfl⟩ := Int.eq_ofNat_of_zero_le x0
    have hk : k < 8 := by omega
    have cb : w3.cell? ⟨w1.heap.size, k, none⟩ = some (.int .i64 (curL.getD k 0)) := g3.cell (a := ⟨w1.heap.size, k, none⟩) (lit_cells w1 curL _ rfl k hk) (by simpa using cursor_ne c1)
    have hm : curL.getD k 0 ∈ curL := by have : k < curL.length := hk; simp [List.getD_eq_getElem?_getD, this]
    generalize curL.getD k 0 = z at cb hm
    clear x1
    go_wp2
    go_ret
    exact ⟨z, rfl, (by decide : ∀ z ∈ curL, -9223372036854775808 ≤ z ∧ z ≤ 9223372036854775807) z hm, c3, g1.trans ((grown_alloc _ _ _).trans g3)⟩
  · go_wp2_with fail
    refine (pickInt_any _ _ _ [0, -1, 37, 999] _ (cursor_alloc c1 _) (cursor_ne c1) (lit_cells w1 [0, -1, 37, 999] _ rfl) (by decide) (by decide)).mono ?_
    rintro e w3 ⟨z, rfl, hz, c3, g3⟩
    go_wp2
    go_ret
    exact ⟨z, rfl, (by decide : ∀ z ∈ [(0 : Int), -1, 37, 999], -9223372036854775808 ≤ z ∧ z ≤ 9223372036854775807) z hz, c3, g1.trans ((grown_alloc _ _ _).trans g3)⟩

end Go.Proofs.YtkhohbkdfgnmnaaDoor
