/- What is drawn for PadNum, NumOf, PutVar and GetVar, whatever the bytes. -/
import Derived.Test.YtjjmjnbnoeaifaaDoorDrawT
import Derived.Test.YtjjmjnbnoeaifaaDoorDrawAmt
import Derived.Test.YtjjmjnbnoeaifaaDoorFPutV
namespace Go.Proofs.YtjjmjnbnoeaifaaDoor
open Go.RowKit

set_option maxHeartbeats 400000 in
theorem drawPN_any (a : Option Addr) (len cap : Nat) (zs : List Int) (w : World) (hr : IsRow .u8 w a len cap zs) (hn : len ≤ 1048576) :
    Calls Tryd.prog 14 #[.slice a len cap] w fun e w' => ∃ x n : Int, e = .returned (.tuple #[.int .i64 x, .int .i64 n]) ∧ Below w.heap.size w w' := by
  go_enter Tryd.func14, Tryd.ntmps14
  go_wp2_with fail
  refine (new_any _ _ _ _ _ hr hn).mono ?_
  rintro e w1 ⟨rfl, c1, b1⟩
  clear hr
  go_wp2_with fail
  refine (amount_any _ _ c1).mono ?_
  rintro e w2 ⟨x, rfl, _, c2, g2⟩
  go_wp2_with fail
  refine (below_any _ _ _ c2 (by omega)).mono ?_
  rintro e w3 ⟨n, rfl, n0, n1, c3, g3⟩
  have hn21 := n1 (by omega)
  have b3 := bel_grown b1 (g2.trans g3) (Nat.le_refl _)
  clear c1 c2 c3 b1 g2 g3 n1
  go_wp2
  go_ret2
  exact ⟨x, n - 1, rfl, b3⟩

set_option maxHeartbeats 400000 in
theorem drawNO_any (a : Option Addr) (len cap : Nat) (zs : List Int) (w : World) (hr : IsRow .u8 w a len cap zs) (hn : len ≤ 1048576) :
    Calls Tryd.prog 16 #[.slice a len cap] w fun e w' => ∃ l : List UInt8, e = .returned (.string ⟨l.toArray⟩) ∧ l.length ≤ 20 ∧ Below w.heap.size w w' := by
  go_enter Tryd.func16, Tryd.ntmps16
  go_wp2_with fail
  refine (new_any _ _ _ _ _ hr hn).mono ?_
  rintro e w1 ⟨rfl, c1, b1⟩
  clear hr
  go_wp2_with fail
  refine (below_any _ _ _ c1 (by omega)).mono ?_
  rintro e w2 ⟨n, rfl, n0, n1, c2, g2⟩
  have hn20 := n1 (by omega)
  obtain ⟨m, rfl⟩ := Int.eq_ofNat_of_zero_le n0
  have b2 := bel_grown b1 g2 (Nat.le_refl _)
  clear c1 b1 g2 n1
  go_wp2_with fail
  refine (textD_any _ m _ c2 (by omega)).mono ?_
  rintro e w3 ⟨l, rfl, hl, c3, b3, s3⟩
  go_wp2
  go_ret
  exact ⟨l, rfl, by omega, b2.trans b3⟩

theorem text_width {a b : ByteArray} {x y : Int} (h : a = b) (g : x = y) : Ending.returned (.tuple #[.string a, .int .i64 x]) = .returned (.tuple #[.string b, .int .i64 y]) := by rw [h, g]

set_option maxHeartbeats 1000000 in
theorem drawPV_any (a : Option Addr) (len cap : Nat) (zs : List Int) (w : World) (hr : IsRow .u8 w a len cap zs) (hn : len ≤ 1048576) :
    Calls Tryd.prog 8 #[.slice a len cap] w fun e w' => ∃ (l : List UInt8) (wd : Int), e = .returned (.tuple #[.string ⟨l.toArray⟩, .int .i64 wd]) ∧ l.length ≤ 1000 ∧ Below w.heap.size w w' := by
  go_enter Tryd.func8, Tryd.ntmps8
  go_wp2_with fail
  refine (new_any _ _ _ _ _ hr hn).mono ?_
  rintro e w1 ⟨rfl, c1, b1⟩
  clear hr
  go_wp2_with fail
  refine (below_any _ _ _ c1 (by omega)).mono ?_
  rintro e w2 ⟨n, rfl, n0, n1, c2, g2⟩
  have hn20 := n1 (by omega)
  obtain ⟨m, rfl⟩ := Int.eq_ofNat_of_zero_le n0
  go_wp2_with fail
  refine (below_any _ _ _ c2 (by omega)).mono ?_
  rintro e w3 ⟨z, rfl, z0, z1, c3, g3⟩
  have b3 := bel_grown b1 (g2.trans g3) (Nat.le_refl _)
  clear c1 c2 b1 g2 g3 n1 z1
  by_cases h0 : z = 0
  · subst h0
    go_wp2_with fail
    refine (below_any _ _ _ c3 (by omega)).mono ?_
    rintro e w4 ⟨y, rfl, y0, y1, c4, g4⟩
    have hy2 := y1 (by omega)
    obtain ⟨t, rfl⟩ := Int.eq_ofNat_of_zero_le y0
    have b4 := bel_grown b3 g4 (Nat.le_refl _)
    clear y1 c3 b3 g4
    go_wp2_with fail
    rw [show (99 : Int) + (t : Int) = ((99 + t : Nat) : Int) from by omega]
    refine (textD_any _ (99 + t) _ c4 (by omega)).mono ?_
    rintro e w5 ⟨l, rfl, hl, c5, b5', s5⟩
    have b5 := b4.trans b5'
    have hl2 : l.length ≤ 1000 := by omega
    clear c4 b4 b5' hl s5
    go_wp2_with fail
    refine (pickInt_any _ _ _ [2, 3, 2, 3, 1, 4] _ (cursor_alloc c5 _) (cursor_ne c5) (lit_cells w5 [2, 3, 2, 3, 1, 4] _ rfl) (by decide) (by decide)).mono ?_
    rintro e w6 ⟨x, rfl, _, c6, g6⟩
    have b6 := bel_grown (b5.alloc b5.size _) g6 (Nat.le_refl _)
    clear c5 b5 g6
    go_wp2
    go_ret2
    exact ⟨l, x, rfl, hl2, b6⟩
  · have h0' : (z == 0) = false := by simpa using h0
    by_cases h1 : z = 1
    · subst h1
      go_wp2_with fail
      refine (below_any _ _ _ c3 (by omega)).mono ?_
      rintro e w4 ⟨y, rfl, y0, y1, c4, g4⟩
      have hy2 := y1 (by omega)
      obtain ⟨t, rfl⟩ := Int.eq_ofNat_of_zero_le y0
      have b4 := bel_grown b3 g4 (Nat.le_refl _)
      clear y1 c3 b3 g4
      go_wp2_with fail
      rw [show (999 : Int) + (t : Int) = ((999 + t : Nat) : Int) from by omega]
      refine (textD_any _ (999 + t) _ c4 (by omega)).mono ?_
      rintro e w5 ⟨l, rfl, hl, c5, b5', s5⟩
      have b5 := b4.trans b5'
      have hl2 : l.length ≤ 1000 := by omega
      clear c4 b4 b5' hl s5
      go_wp2_with fail
      refine (pickInt_any _ _ _ [2, 3, 2, 3, 1, 4] _ (cursor_alloc c5 _) (cursor_ne c5) (lit_cells w5 [2, 3, 2, 3, 1, 4] _ rfl) (by decide) (by decide)).mono ?_
      rintro e w6 ⟨x, rfl, _, c6, g6⟩
      have b6 := bel_grown (b5.alloc b5.size _) g6 (Nat.le_refl _)
      clear c5 b5 g6
      go_wp2
      go_ret2
      exact ⟨l, x, rfl, hl2, b6⟩
    · have h1' : (z == 1) = false := by simpa using h1
      go_wp2_with fail
      refine (textD_any _ m _ c3 (by omega)).mono ?_
      rintro e w5 ⟨l, rfl, hl, c5, b5', s5⟩
      have b5 := b3.trans b5'
      have hl2 : l.length ≤ 1000 := by omega
      clear c3 b3 b5' hl s5
      go_wp2_with fail
      refine (pickInt_any _ _ _ [2, 3, 2, 3, 1, 4] _ (cursor_alloc c5 _) (cursor_ne c5) (lit_cells w5 [2, 3, 2, 3, 1, 4] _ rfl) (by decide) (by decide)).mono ?_
      rintro e w6 ⟨x, rfl, _, c6, g6⟩
      have b6 := bel_grown (b5.alloc b5.size _) g6 (Nat.le_refl _)
      clear c5 b5 g6
      go_wp2
      go_ret2
      exact ⟨l, x, rfl, hl2, b6⟩

theorem putV_len (l : List UInt8) (wd : Int) : ((putV l wd).getD []).length ≤ 18 + l.length := by
  unfold putV
  split
  · have := padT_len (x := l.length) (n := wd)
    simp; omega
  · simp
theorem three_str {a b : ByteArray} {x y : Int} (h : a = b) : Ending.returned (.tuple #[.string a, .int .i64 x, .int .i64 y]) = .returned (.tuple #[.string b, .int .i64 x, .int .i64 y]) := by rw [h]

set_option maxHeartbeats 1000000 in
theorem drawGV_any (a : Option Addr) (len cap : Nat) (zs : List Int) (w : World) (hr : IsRow .u8 w a len cap zs) (hn : len ≤ 1048576) :
    Calls Tryd.prog 11 #[.slice a len cap] w fun e w' => ∃ (l : List UInt8) (i wd : Int), e = .returned (.tuple #[.string ⟨l.toArray⟩, .int .i64 i, .int .i64 wd]) ∧ l.length ≤ 1000 ∧ Below w.heap.size w w' := by
  go_enter Tryd.func11, Tryd.ntmps11
  go_wp2_with fail
  refine (new_any _ _ _ _ _ hr hn).mono ?_
  rintro e w1 ⟨rfl, c1, b1⟩
  clear hr
  go_wp2_with fail
  refine (below_any _ _ _ c1 (by omega)).mono ?_
  rintro e w2 ⟨v, rfl, v0, v1, c2, g2⟩
  have hv2 := v1 (by omega)
  go_wp2_with fail
  refine (below_any _ _ _ c2 (by omega)).mono ?_
  rintro e w3 ⟨n, rfl, n0, n1, c3, g3⟩
  have hn20 := n1 (by omega)
  obtain ⟨m, rfl⟩ := Int.eq_ofNat_of_zero_le n0
  have b3 := bel_grown b1 (g2.trans g3) (Nat.le_refl _)
  clear c1 c2 b1 g2 g3 n1 v1
  go_wp2_with fail
  refine (textD_any _ m _ c3 (by omega)).mono ?_
  rintro e w4 ⟨d, rfl, hd, c4, b4', s4⟩
  have b4 := b3.trans b4'
  have hd20 : d.length ≤ 20 := by omega
  clear c3 b3 b4' s4 hd
  go_wp2_with fail
  refine (sPutVar_any d _ _ (by omega)).mono ?_
  rintro e w5 ⟨rfl, b5'⟩
  have c5 := cursor_below c4 b5'
  have b5 := next b4 b5'
  have hsl := putV_len d (2 + v)
  generalize (putV d (2 + v)).getD [] = s at hsl
  generalize (putV d (2 + v)).isSome = q1
  have hx : (⟨#[120]⟩ : ByteArray) ++ ⟨s.toArray⟩ = ⟨(120 :: s).toArray⟩ := ba_append [120] s
  have HX : Hid _ := hx
  have hpl : (120 :: s).length ≤ 50 := by simp; omega
  clear hx c4 b4 b5'
  go_wp2_with fail
  rw [HX.out]
  obtain ⟨p, hp⟩ : ∃ p, 120 :: s = p := ⟨_, rfl⟩
  rw [hp] at hpl ⊢
  clear hp HX hsl hd20
  refine (below_any _ _ _ c5 (by omega)).mono ?_
  rintro e w6 ⟨z, rfl, z0, z1, c6, g6⟩
  have b6 := bel_grown b5 g6 (Nat.le_refl _)
  clear c5 b5 g6 z1
  by_cases h0 : z = 0
  · subst h0
    go_wp2_with fail
    refine (below_any _ _ _ c6 (by omega)).mono ?_
    rintro e w7 ⟨y, rfl, y0, y1, c7, g7⟩
    have hyl := y1 (by omega)
    obtain ⟨t, rfl⟩ := Int.eq_ofNat_of_zero_le y0
    have b7 := bel_grown b6 g7 (Nat.le_refl _)
    have htl : (t : Int) ≤ (p.length : Int) := by omega
    have HP : Hid _ := ba_extract p 0 t
    have hql : ((p.drop 0).take (t - 0)).length ≤ 1000 := by simp; omega
    clear c6 b6 g7 y1 hyl
    go_wp2_with fail
    rw [HP.out]
    generalize (p.drop 0).take (t - 0) = r at hql
    refine (pickInt_any _ _ _ [1, 1, 1, 0, -1, 2] _ (cursor_alloc c7 _) (cursor_ne c7) (lit_cells w7 [1, 1, 1, 0, -1, 2] _ rfl) (by decide) (by decide)).mono ?_
    rintro e w8 ⟨x, rfl, _, c8, g8⟩
    have b8 := bel_grown (b7.alloc b7.size _) g8 (Nat.le_refl _)
    clear c7 b7 g8
    go_wp2
    go_ret3
    exact ⟨r, x, 2 + v, rfl, hql, b8⟩
  · have h0' : (z == 0) = false := by simpa using h0
    by_cases h1 : z = 1
    · subst h1
      go_wp2_with fail
      refine (pickInt_any _ _ _ [1, 4, 2, 3] _ (cursor_alloc c6 _) (cursor_ne c6) (lit_cells w6 [1, 4, 2, 3] _ rfl) (by decide) (by decide)).mono ?_
      rintro e w7 ⟨y, rfl, _, c7, g7⟩
      have b7 := bel_grown (b6.alloc b6.size _) g7 (Nat.le_refl _)
      clear c6 b6 g7
      go_wp2_with fail
      refine (pickInt_any _ _ _ [1, 1, 1, 0, -1, 2] _ (cursor_alloc c7 _) (cursor_ne c7) (lit_cells w7 [1, 1, 1, 0, -1, 2] _ rfl) (by decide) (by decide)).mono ?_
      rintro e w8 ⟨x, rfl, _, c8, g8⟩
      have b8 := bel_grown (b7.alloc b7.size _) g8 (Nat.le_refl _)
      clear c7 b7 g8
      go_wp2
      go_ret3
      exact ⟨p, x, y, rfl, by omega, b8⟩
    · have h1' : (z == 1) = false := by simpa using h1
      by_cases h2 : z = 2
      · subst h2
        go_wp2_with fail
        refine (pickInt_any _ _ _ [1, 1, 1, 0, -1, 2] _ (cursor_alloc c6 _) (cursor_ne c6) (lit_cells w6 [1, 1, 1, 0, -1, 2] _ rfl) (by decide) (by decide)).mono ?_
        rintro e w8 ⟨x, rfl, _, c8, g8⟩
        have b8 := bel_grown (b6.alloc b6.size _) g8 (Nat.le_refl _)
        clear c6 b6 g8
        go_wp2
        go_ret3
        exact ⟨[120, 65, 49, 98], x, 2 + v, rfl, by simp, b8⟩
      · have h2' : (z == 2) = false := by simpa using h2
        go_wp2_with fail
        refine (pickInt_any _ _ _ [1, 1, 1, 0, -1, 2] _ (cursor_alloc c6 _) (cursor_ne c6) (lit_cells w6 [1, 1, 1, 0, -1, 2] _ rfl) (by decide) (by decide)).mono ?_
        rintro e w8 ⟨x, rfl, _, c8, g8⟩
        have b8 := bel_grown (b6.alloc b6.size _) g8 (Nat.le_refl _)
        clear c6 b6 g8
        go_wp2
        go_ret3
        exact ⟨p, x, 2 + v, rfl, by omega, b8⟩

end Go.Proofs.YtjjmjnbnoeaifaaDoor
