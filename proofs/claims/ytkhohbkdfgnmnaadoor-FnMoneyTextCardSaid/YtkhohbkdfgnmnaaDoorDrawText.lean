/- What is drawn for the texts of money. -/
import Derived.Test.YtkhohbkdfgnmnaaDoorDrawn
import Derived.Test.YtkhohbkdfgnmnaaDoorReadPlain
namespace Go.Proofs.YtkhohbkdfgnmnaaDoor
open Go.RowKit

theorem lit_strs (w : World) (zs : List (List UInt8)) (arr : Array Value) (h : arr = (zs.map fun l => Value.string ⟨l.toArray⟩).toArray) :
    ∀ i, i < zs.length → (w.alloc (.cells arr 9)).cell? ⟨w.heap.size, i, none⟩ = some (.string ⟨(zs.getD i []).toArray⟩) := by
  intro i hi
  subst h
  simp [List.getD_eq_getElem?_getD, hi]

set_option maxHeartbeats 800000 in
theorem pick_any {B : Nat} (g b cap : Nat) (zs : List (List UInt8)) (w : World) (hc : Cursor B w g) (hbg : b ≠ g) (hz : ∀ i, i < zs.length → w.cell? ⟨b, i, none⟩ = some (.string ⟨(zs.getD i []).toArray⟩)) (h1 : 1 ≤ zs.length) (h2 : zs.length ≤ 1000) :
    Calls Tryd.prog 25 #[.pointer (some ⟨g, 0, none⟩), .slice (some ⟨b, 0, none⟩) zs.length cap] w fun e w' => ∃ x : List UInt8, e = .returned (.string ⟨x.toArray⟩) ∧ x ∈ zs ∧ Cursor B w' g ∧ w.grownBy w' (some g) := by
  go_enter Tryd.func25, Tryd.ntmps25
  go_wp2_with fail
  refine (below_any _ _ _ hc (by omega)).mono ?_
  rintro e w1 ⟨x, rfl, x0, x1, c1, g1⟩
  have hx := x1 (by omega)
  obtain ⟨k, rfl⟩ := Int.eq_ofNat_of_zero_le x0
  have hk : k < zs.length := by omega
  have cb : w1.cell? ⟨b, k, none⟩ = some (.string ⟨(zs.getD k []).toArray⟩) := g1.cell (a := ⟨b, k, none⟩) (hz k hk) (by simpa using hbg)
  have hm : zs.getD k [] ∈ zs := by simp [List.getD_eq_getElem?_getD, hk]
  generalize zs.getD k [] = z at cb hm
  clear hz x1
  go_wp2
  go_ret
  exact ⟨z, rfl, hm, c1, g1⟩

set_option maxHeartbeats 400000 in
theorem drawMoneyText_any (a : Option Addr) (len cap : Nat) (zs : List Int) (w : World) (hr : IsRow .u8 w a len cap zs) (hn : len ≤ 1048576) :
    Calls Tryd.prog 7 #[.slice a len cap] w fun e w' => ∃ x y : Int, e = .returned (.tuple #[.int .i64 x, .int .i64 y]) ∧ Fits x ∧ Fits y ∧ Below w.heap.size w w' := by
  go_enter Tryd.func7, Tryd.ntmps7
  go_wp2_with fail
  refine (new_any _ _ _ _ _ hr hn).mono ?_
  rintro e w1 ⟨rfl, c1, b1⟩
  go_wp2_with fail
  refine (amount_any _ _ c1).mono ?_
  rintro e w2 ⟨x, rfl, fx, c2, g2⟩
  go_wp2_with fail
  refine (cur1_any _ _ c2).mono ?_
  rintro e w3 ⟨y, rfl, fy, c3, g3⟩
  go_wp2
  go_ret2
  exact ⟨x, y, rfl, fx, fy, bel_grown b1 (g2.trans g3) (Nat.le_refl _)⟩

theorem moneyT_len (x cur : Int) : (moneyT x cur).length ≤ 20 := by
  by_cases h : moneyT x cur = []
  · rw [h]; exact Nat.zero_le _
  · obtain ⟨hb, d, hd, hm⟩ := moneyT_ne h
    rw [hm]; exact (mtxt_len x d hb.1 hb.2 hd).1
def readL : List (List UInt8) := [[], [45], [49, 46, 48], [45, 48, 46, 48, 48], [46, 48, 53], [49, 46], [49, 44, 48, 48], [48, 46, 48, 53, 48]]

set_option maxHeartbeats 1000000 in
theorem drawReadMoney_any (a : Option Addr) (len cap : Nat) (zs : List Int) (w : World) (hr : IsRow .u8 w a len cap zs) (hn : len ≤ 1048576) :
    Calls Tryd.prog 11 #[.slice a len cap] w fun e w' => ∃ (l : List UInt8) (y : Int), e = .returned (.tuple #[.string ⟨l.toArray⟩, .int .i64 y]) ∧ l.length ≤ 1048576 ∧ Fits y ∧ Below w.heap.size w w' := by
  go_enter Tryd.func11, Tryd.ntmps11
  go_wp2_with fail
  refine (new_any _ _ _ _ _ hr hn).mono ?_
  rintro e w1 ⟨rfl, c1, b1⟩
  go_wp2_with fail
  refine (amount_any _ _ c1).mono ?_
  rintro e w2 ⟨x, rfl, fx, c2, g2⟩
  go_wp2_with fail
  refine (cur1_any _ _ c2).mono ?_
  rintro e w3 ⟨y, rfl, fy, c3, g3⟩
  have b3 := bel_grown b1 (g2.trans g3) (Nat.le_refl _)
  go_wp2_with fail
  refine (sMoneyText_any _ _ _).mono ?_
  rintro e w4 ⟨rfl, b4⟩
  have c4 := cursor_below c3 b4
  have b4' := next b3 b4
  have hl := moneyT_len x y
  clear c1 c2 c3 b1 b3 b4 g2 g3
  generalize moneyT x y = s at hl
  go_wp2_with fail
  refine (below_any _ _ _ c4 (by omega)).mono ?_
  rintro e w5 ⟨n, rfl, n0, n1, c5, g5⟩
  have hn6 := n1 (by omega)
  have b5 := bel_grown b4' g5 (Nat.le_refl _)
  clear n1 c4 b4' g5
  rcases (show n = 0 ∨ n = 1 ∨ (n ≠ 0 ∧ n ≠ 1) from by omega) with rfl | rfl | ⟨k0, k1⟩
  · have HA : Hid _ := ba_append [48] s
    go_wp2
    go_ret2
    exact ⟨48 :: s, y, by rw [show (⟨#[48]⟩ : ByteArray) ++ ⟨s.toArray⟩ = ⟨(48 :: s).toArray⟩ from HA.out]; rfl, by simp; omega, fy, b5⟩
  · go_wp2_with fail
    refine (pick_any _ _ _ readL _ (cursor_alloc c5 _) (cursor_ne c5) (lit_strs w5 readL _ rfl) (by decide) (by decide)).mono ?_
    rintro e w6 ⟨z, rfl, hz, c6, g6⟩
    go_wp2
    go_ret2
    exact ⟨z, y, rfl, (by decide : ∀ z ∈ readL, z.length ≤ 1048576) z hz, fy, bel_grown b5 ((grown_alloc _ _ _).trans g6) (Nat.le_refl _)⟩
  · have e0 : (n == 0) = false := by simpa using k0
    have e1 : (n == 1) = false := by simpa using k1
    go_wp2
    go_ret2
    exact ⟨s, y, rfl, by omega, fy, b5⟩

theorem read_back {v cur : Int} (h : moneyT v cur ≠ []) : implRead (moneyT v cur) cur = some v := by
  obtain ⟨hb, d, hd, hm⟩ := moneyT_ne h
  unfold implRead
  rw [hm, parse_mtxt v d hb.1 hb.2]
  simp only
  rw [if_pos hm]
theorem read_text {l : List UInt8} {cur v : Int} (hi : implRead l cur = some v) : moneyT v cur = l := by
  unfold implRead at hi
  split at hi
  · split at hi
    · rename_i h; cases hi; exact h
    · cases hi
  · cases hi

end Go.Proofs.YtkhohbkdfgnmnaaDoor
