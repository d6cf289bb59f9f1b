/- What is drawn for GetSet: a text and a place, whatever the bytes. -/
import Derived.Test.YtjjmjnbnoeaifaaDrawS
namespace Go.Proofs.Ytjjmjnbnoeaifaa
open Go.RowKit

theorem xyz_eq (s : List UInt8) : (⟨#[120]⟩ : ByteArray) ++ ⟨s.toArray⟩ ++ ⟨#[121, 122]⟩ = ⟨(120 :: s ++ [121, 122]).toArray⟩ := by
  rw [show (⟨#[120]⟩ : ByteArray) ++ ⟨s.toArray⟩ = ⟨(120 :: s).toArray⟩ from ba_append [120] s]
  exact ba_append (120 :: s) [121, 122]
theorem text_place {a b : ByteArray} {x y : Int} (h : a = b) (g : x = y) : Ending.returned (.tuple #[.string a, .int .i64 x]) = .returned (.tuple #[.string b, .int .i64 y]) := by rw [h, g]
def eight : List UInt8 := [128, 0, 0, 0, 0, 0, 0, 0]

set_option maxHeartbeats 1000000 in
theorem drawGS_any (a : Option Addr) (len cap : Nat) (zs : List Int) (w : World) (hr : IsRow .u8 w a len cap zs) (hn : len ≤ 1048576) :
    Calls Try.prog 22 #[.slice a len cap] w fun e w' => ∃ (l : List UInt8) (i : Int), e = .returned (.tuple #[.string ⟨l.toArray⟩, .int .i64 i]) ∧ l.length ≤ 100 ∧ Below w.heap.size w w' := by
  go_enter Try.func22, Try.ntmps22
  go_wp2_with fail
  refine (new_any _ _ _ _ _ hr hn).mono ?_
  rintro e w1 ⟨rfl, c1, b1⟩
  clear hr
  go_wp2_with fail
  refine (nums_any _ _ c1).mono ?_
  rintro e w2 ⟨ao, c, xs, rfl, hl, hx, c2, b2', s2⟩
  have b2 := b1.trans b2'
  clear c1 b1 b2' s2
  go_wp2_with fail
  refine (sPutSet_any _ _ xs _ hx (by omega)).mono ?_
  rintro e w3 ⟨rfl, b3'⟩
  have c3 := cursor_below c2 b3'
  have b3 := next b2 b3'
  have hsl := putS_len xs
  generalize (putS xs).getD [] = s at hsl
  generalize (putS xs).isSome = q1
  clear c2 b2 b3' hx hl
  go_wp2_with fail
  refine (below_any _ _ _ c3 (by omega)).mono ?_
  rintro e w4 ⟨z, rfl, z0, z1, c4, g4⟩
  have b4 := bel_grown b3 g4 (Nat.le_refl _)
  clear c3 b3 g4 z1 z0
  by_cases h0 : z = 0
  · subst h0
    have HX2 : Hid (((⟨#[120]⟩ : ByteArray) ++ (⟨eight.toArray⟩ ++ ⟨s.toArray⟩) ++ ⟨#[121, 122]⟩) = ⟨(120 :: (eight ++ s) ++ [121, 122]).toArray⟩) := by rw [Hid, ba_append eight s]; exact xyz_eq (eight ++ s)
    have ht : (convert 22 9 (.slice (some ⟨w4.heap.size, 0, none⟩) 8 8)).run Try.prog (w4.alloc (.cells #[.int .u8 128, .int .u8 0, .int .u8 0, .int .u8 0, .int .u8 0, .int .u8 0, .int .u8 0, .int .u8 0] 5)) = .ok (.string ⟨eight.toArray⟩) (w4.alloc (.cells #[.int .u8 128, .int .u8 0, .int .u8 0, .int .u8 0, .int .u8 0, .int .u8 0, .int .u8 0, .int .u8 0] 5)) :=
      text_own (l := eight) (World.ownsRow_lit w4 #[.int .u8 128, .int .u8 0, .int .u8 0, .int .u8 0, .int .u8 0, .int .u8 0, .int .u8 0, .int .u8 0] 8 (Nat.le_refl _) (by unfold maxLen; omega) rfl)
    have hel : eight.length = 8 := rfl
    have HEL : Hid _ := hel
    generalize eight = v8 at ht hel HX2 HEL
    go_wp2
    go_ret2
    exact ⟨120 :: (v8 ++ s) ++ [121, 122], 1, text_place HX2.out rfl, by have := HEL.out; simp; omega, b4.alloc b4.size _⟩
  · have h0' : (z == 0) = false := by simpa using h0
    by_cases h1 : z = 1
    · subst h1
      go_wp2_with fail
      refine (below_any _ _ _ c4 (by omega)).mono ?_
      rintro e w5 ⟨y, rfl, y0, y1, c5, g5⟩
      have hyl := y1 (by omega)
      obtain ⟨t, rfl⟩ := Int.eq_ofNat_of_zero_le y0
      have b5 := bel_grown b4 g5 (Nat.le_refl _)
      have htl : (t : Int) ≤ (s.length : Int) := by omega
      have HP : Hid _ := ba_extract s 0 t
      have HX2 : Hid (((⟨#[120]⟩ : ByteArray) ++ (⟨s.toArray⟩ : ByteArray).extract 0 t ++ ⟨#[121, 122]⟩) = ⟨(120 :: (s.drop 0).take (t - 0) ++ [121, 122]).toArray⟩) := by rw [Hid, HP.out]; exact xyz_eq _
      clear c4 b4 g5 y1 hyl
      go_wp2
      go_ret2
      exact ⟨120 :: (s.drop 0).take (t - 0) ++ [121, 122], 1, text_place HX2.out rfl, by simp; omega, b5⟩
    · have h1' : (z == 1) = false := by simpa using h1
      by_cases h2 : z = 2
      · subst h2
        go_wp2_with fail
        refine (pickInt_any _ _ _ [-1, 1, (s.length : Int)] _ (cursor_alloc c4 _) (cursor_ne c4) (lit_cells w4 [-1, 1, (s.length : Int)] _ rfl) (by simp) (by simp)).mono ?_
        rintro e w5 ⟨y, rfl, _, c5, g5⟩
        have b5 := bel_grown (b4.alloc b4.size _) g5 (Nat.le_refl _)
        clear c4 b4 g5
        go_wp2
        go_ret2
        exact ⟨s, y, rfl, by omega, b5⟩
      · have h2' : (z == 2) = false := by simpa using h2
        have HX2 : Hid _ := xyz_eq s
        go_wp2
        go_ret2
        exact ⟨120 :: s ++ [121, 122], 1, text_place HX2.out rfl, by simp; omega, b4⟩

end Go.Proofs.Ytjjmjnbnoeaifaa
