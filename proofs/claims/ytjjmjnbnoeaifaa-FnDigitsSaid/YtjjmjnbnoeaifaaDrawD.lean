/- What is drawn for PutDigits and GetDigits: a text and two numbers, whatever the bytes. -/
import Derived.Test.YtjjmjnbnoeaifaaDrawT
import Derived.Test.YtjjmjnbnoeaifaaSPut
namespace Go.Proofs.Ytjjmjnbnoeaifaa
open Go.RowKit

set_option maxHeartbeats 800000 in
theorem drawPD_any (a : Option Addr) (len cap : Nat) (zs : List Int) (w : World) (hr : IsRow .u8 w a len cap zs) (hn : len ≤ 1048576) :
    Calls Try.prog 13 #[.slice a len cap] w fun e w' => ∃ l : List UInt8, e = .returned (.string ⟨l.toArray⟩) ∧ l.length ≤ 101 ∧ Below w.heap.size w w' := by
  go_enter Try.func13, Try.ntmps13
  go_wp2_with fail
  refine (new_any _ _ _ _ _ hr hn).mono ?_
  rintro e w1 ⟨rfl, c1, b1⟩
  clear hr
  go_wp2_with fail
  refine (below_any _ _ _ c1 (by omega)).mono ?_
  rintro e w2 ⟨n, rfl, n0, n1, c2, g2⟩
  have hn22 := n1 (by omega)
  obtain ⟨m, rfl⟩ := Int.eq_ofNat_of_zero_le n0
  clear n1
  go_wp2_with fail
  refine (once_any _ _ _ c2 (by omega)).mono ?_
  rintro e w3 ⟨q, rfl, c3, g3⟩
  have b3 := bel_grown b1 (g2.trans g3) (Nat.le_refl _)
  clear c1 c2 b1 g2 g3
  cases q
  · go_wp2_with fail
    refine (textD_any _ m _ c3 (by omega)).mono ?_
    rintro e w4 ⟨l, rfl, hl, c4, b4, s4⟩
    go_wp2
    go_ret
    exact ⟨l, rfl, by omega, b3.trans b4⟩
  · go_wp2_with fail
    refine (below_any _ _ _ c3 (by omega)).mono ?_
    rintro e w4 ⟨y, rfl, y0, y1, c4, g4⟩
    have hy2 := y1 (by omega)
    obtain ⟨t, rfl⟩ := Int.eq_ofNat_of_zero_le y0
    have b4 := bel_grown b3 g4 (Nat.le_refl _)
    clear y1 c3 b3 g4
    go_wp2_with fail
    rw [show (100 : Int) + (t : Int) = ((100 + t : Nat) : Int) from by omega]
    refine (textD_any _ (100 + t) _ c4 (by omega)).mono ?_
    rintro e w5 ⟨l, rfl, hl, c5, b5, s5⟩
    go_wp2
    go_ret
    exact ⟨l, rfl, by omega, b4.trans b5⟩

theorem xy_eq (s : List UInt8) : (⟨#[120]⟩ : ByteArray) ++ ⟨s.toArray⟩ ++ ⟨#[121]⟩ = ⟨(120 :: s ++ [121]).toArray⟩ := by
  rw [show (⟨#[120]⟩ : ByteArray) ++ ⟨s.toArray⟩ = ⟨(120 :: s).toArray⟩ from ba_append [120] s]
  exact ba_append (120 :: s) [121]
theorem three_eq {a b : ByteArray} {x y : Int} (h : a = b) : Ending.returned (.tuple #[.string a, .int .i64 x, .int .i64 y]) = .returned (.tuple #[.string b, .int .i64 x, .int .i64 y]) := by rw [h]

set_option maxHeartbeats 1600000 in
theorem drawGD_any (a : Option Addr) (len cap : Nat) (zs : List Int) (w : World) (hr : IsRow .u8 w a len cap zs) (hn : len ≤ 1048576) :
    Calls Try.prog 17 #[.slice a len cap] w fun e w' => ∃ (l : List UInt8) (i n : Int), e = .returned (.tuple #[.string ⟨l.toArray⟩, .int .i64 i, .int .i64 n]) ∧ l.length ≤ 101 ∧ Below w.heap.size w w' := by
  go_enter Try.func17, Try.ntmps17
  go_wp2_with fail
  refine (new_any _ _ _ _ _ hr hn).mono ?_
  rintro e w1 ⟨rfl, c1, b1⟩
  clear hr
  go_wp2_with fail
  refine (below_any _ _ _ c1 (by omega)).mono ?_
  rintro e w2 ⟨n, rfl, n0, n1, c2, g2⟩
  have hn12 := n1 (by omega)
  obtain ⟨m, rfl⟩ := Int.eq_ofNat_of_zero_le n0
  have b2 := bel_grown b1 g2 (Nat.le_refl _)
  clear n1 c1 b1 g2
  go_wp2_with fail
  refine (textD_any _ m _ c2 (by omega)).mono ?_
  rintro e w3 ⟨d, rfl, hd, c3, b3', s3⟩
  have b3 := b2.trans b3'
  subst hd
  clear c2 b2 b3' s3
  go_wp2_with fail
  refine (sPutDigits_any d _ (by omega)).mono ?_
  rintro e w4 ⟨rfl, b4'⟩
  have c4 := cursor_below c3 b4'
  have b4 := next b3 b4'
  have hsl := putD_len d
  generalize (putD d).getD [] = s at hsl
  generalize (putD d).isSome = q1
  clear c3 b3 b4'
  go_wp2_with fail
  refine (below_any _ _ _ c4 (by omega)).mono ?_
  rintro e w5 ⟨z, rfl, z0, z1, c5, g5⟩
  have hz8 := z1 (by omega)
  have b5 := bel_grown b4 g5 (Nat.le_refl _)
  have HXY : Hid _ := xy_eq s
  have hdl : (d.length : Int) ≤ 11 := by omega
  clear c4 b4 g5 z1
  by_cases h0 : z = 0
  · subst h0
    go_wp2_with fail
    refine (pickInt_any _ _ _ [-1, 101, (d.length : Int) + 1, (d.length : Int) + 2] _ (cursor_alloc c5 _) (cursor_ne c5) (lit_cells w5 [-1, 101, (d.length : Int) + 1, (d.length : Int) + 2] _ rfl) (by simp) (by simp)).mono ?_
    rintro e w6 ⟨y, rfl, _, c6, g6⟩
    have b6 := bel_grown (b5.alloc b5.size _) g6 (Nat.le_refl _)
    clear c5 b5 g6
    go_wp2
    go_ret3
    exact ⟨120 :: s ++ [121], 1, y, three_eq HXY.out, by simp; omega, b6⟩
  · have h0' : (z == 0) = false := by simpa using h0
    by_cases h1 : z = 1
    · subst h1
      go_wp2_with fail
      refine (pickInt_any _ _ _ [-1, 0, 2, 40] _ (cursor_alloc c5 _) (cursor_ne c5) (lit_cells w5 [-1, 0, 2, 40] _ rfl) (by decide) (by decide)).mono ?_
      rintro e w6 ⟨y, rfl, _, c6, g6⟩
      have b6 := bel_grown (b5.alloc b5.size _) g6 (Nat.le_refl _)
      clear c5 b5 g6
      go_wp2
      go_ret3
      exact ⟨120 :: s ++ [121], y, d.length, three_eq HXY.out, by simp; omega, b6⟩
    · have h1' : (z == 1) = false := by simpa using h1
      by_cases h2 : z = 2
      · subst h2
        have HX2 : Hid (((⟨#[120]⟩ : ByteArray) ++ (⟨s.toArray⟩ ++ ⟨[171].toArray⟩) ++ ⟨#[121]⟩) = ⟨(120 :: (s ++ [171]) ++ [121]).toArray⟩) := by rw [Hid, ba_append s [171]]; exact xy_eq (s ++ [171])
        have ht : (convert 22 9 (.slice (some ⟨w5.heap.size, 0, none⟩) 1 1)).run Try.prog (w5.alloc (.cells #[.int .u8 171] 5)) = .ok (.string ⟨[171].toArray⟩) (w5.alloc (.cells #[.int .u8 171] 5)) :=
          text_own (l := [171]) (World.ownsRow_lit w5 #[.int .u8 171] 1 (Nat.le_refl _) (by unfold maxLen; omega) rfl)
        go_wp2
        go_ret3
        exact ⟨120 :: (s ++ [171]) ++ [121], 1, d.length, three_eq HX2.out, by simp; omega, b5.alloc b5.size _⟩
      · have h2' : (z == 2) = false := by simpa using h2
        go_wp2
        go_ret3
        exact ⟨120 :: s ++ [121], 1, d.length, three_eq HXY.out, by simp; omega, b5⟩

end Go.Proofs.Ytjjmjnbnoeaifaa
