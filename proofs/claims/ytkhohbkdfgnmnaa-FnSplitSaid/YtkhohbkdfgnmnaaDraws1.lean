/- The draws of chapter 1, whole. -/
import Derived.Test.YtkhohbkdfgnmnaaDrawMoney
import Derived.Test.YtkhohbkdfgnmnaaSSplit
import Derived.Test.YtkhohbkdfgnmnaaMarks
namespace Go.Proofs.Ytkhohbkdfgnmnaa
open Go.RowKit

theorem bel_grown {w w1 w2 : World} {g : Nat} (h : Below w.heap.size w w1) (hg : w1.grownBy w2 (some g)) (h0 : w.heap.size ≤ g) : Below w.heap.size w w2 :=
  h.grown hg h.size (fun k hk => by cases hk; exact h0)
theorem row_below {k : IntKind} {w w' : World} {a : Option Addr} {len cap : Nat} {zs : List Int} (h : IsRow k w a len cap zs) (hb : Below w.heap.size w w') : IsRow k w' a len cap zs := by
  rcases h with h | ⟨x, h1, h2, h3, h4, h5, h6⟩
  · exact .inl h
  · exact .inr ⟨x, h1, h2, h3, h4, fun i hi => (hb.cell (World.block_lt_of_cell? w _ (h5 i hi))).trans (h5 i hi), h6⟩

theorem ho_ne {w : World} {base g n : Nat} {v : Value} {xs : List Value} (h : w.ownsRow base 3 1 v n xs) (hg : g < base) : v.ownBlock = none ∨ v.ownBlock ≠ some g := by
  right; intro e; have := (h.lt g e).1; omega

set_option maxHeartbeats 400000 in
theorem big_any (a : Option Addr) (len cap : Nat) (w : World) :
    Calls Try.prog 14 #[.slice a len cap] w fun e w' => e = .returned (.bool (decide ((1048576 : Int) < (len : Int)))) ∧ w' = w := by
  go_enter Try.func14, Try.ntmps14
  go_wp2
  go_ret
  exact ⟨rfl, rfl⟩

set_option maxHeartbeats 400000 in
theorem drawPlus_any (a : Option Addr) (len cap : Nat) (zs : List Int) (w : World) (hr : IsRow .u8 w a len cap zs) (hn : len ≤ 1048576) :
    Calls Try.prog 15 #[.slice a len cap] w fun e w' => ∃ x y : Int, e = .returned (.tuple #[.int .i64 x, .int .i64 y]) ∧ Fits x ∧ Fits y ∧ Below w.heap.size w w' := by
  go_enter Try.func15, Try.ntmps15
  go_wp2_with fail
  refine (new_any _ _ _ _ _ hr hn).mono ?_
  rintro e w1 ⟨rfl, c1, b1⟩
  go_wp2_with fail
  refine (amount_any _ _ c1).mono ?_
  rintro e w2 ⟨x, rfl, fx, c2, g2⟩
  go_wp2_with fail
  refine (amount_any _ _ c2).mono ?_
  rintro e w3 ⟨y, rfl, fy, c3, g3⟩
  go_wp2
  go_ret2
  exact ⟨x, y, rfl, fx, fy, bel_grown b1 (g2.trans g3) (Nat.le_refl _)⟩

set_option maxHeartbeats 400000 in
theorem drawScale_any (a : Option Addr) (len cap : Nat) (zs : List Int) (w : World) (hr : IsRow .u8 w a len cap zs) (hn : len ≤ 1048576) :
    Calls Try.prog 22 #[.slice a len cap] w fun e w' => ∃ x y z : Int, e = .returned (.tuple #[.int .i64 x, .int .i64 y, .int .i64 z]) ∧ Fits x ∧ Fits y ∧ Fits z ∧ Below w.heap.size w w' := by
  go_enter Try.func22, Try.ntmps22
  go_wp2_with fail
  refine (new_any _ _ _ _ _ hr hn).mono ?_
  rintro e w1 ⟨rfl, c1, b1⟩
  go_wp2_with fail
  refine (amount_any _ _ c1).mono ?_
  rintro e w2 ⟨x, rfl, fx, c2, g2⟩
  go_wp2_with fail
  refine (ratio_any _ _ c2).mono ?_
  rintro e w3 ⟨y, rfl, fy, c3, g3⟩
  go_wp2_with fail
  refine (once_any _ _ _ c3 (by omega)).mono ?_
  rintro e w4 ⟨o, rfl, c4, g4⟩
  cases o
  · go_wp2_with fail
    refine (ratio_any _ _ c4).mono ?_
    rintro e w5 ⟨z, rfl, fz, c5, g5⟩
    go_wp2
    go_ret3
    exact ⟨x, y, z, rfl, fx, fy, fz, bel_grown b1 (((g2.trans g3).trans g4).trans g5) (Nat.le_refl _)⟩
  · go_wp2
    go_ret3
    exact ⟨x, y, 2, rfl, fx, fy, fits_small (by omega) (by omega), bel_grown b1 ((g2.trans g3).trans g4) (Nat.le_refl _)⟩

set_option maxHeartbeats 400000 in
theorem drawSplit_any (a : Option Addr) (len cap : Nat) (zs : List Int) (w : World) (hr : IsRow .u8 w a len cap zs) (hn : len ≤ 1048576) :
    Calls Try.prog 25 #[.slice a len cap] w fun e w' => ∃ x y : Int, e = .returned (.tuple #[.int .i64 x, .int .i64 y]) ∧ Fits x ∧ Fits y ∧ Below w.heap.size w w' := by
  go_enter Try.func25, Try.ntmps25
  go_wp2_with fail
  refine (new_any _ _ _ _ _ hr hn).mono ?_
  rintro e w1 ⟨rfl, c1, b1⟩
  go_wp2_with fail
  refine (amount_any _ _ c1).mono ?_
  rintro e w2 ⟨x, rfl, fx, c2, g2⟩
  go_wp2_with fail
  refine (pickInt_any _ _ _ [0, 1, 2, 3, 7, 100, 101, -1] _ (cursor_alloc c2 _) (cursor_ne c2) (lit_cells w2 [0, 1, 2, 3, 7, 100, 101, -1] _ rfl) (by decide) (by decide)).mono ?_
  rintro e w3 ⟨y, rfl, hy, c3, g3⟩
  go_wp2
  go_ret2
  exact ⟨x, y, rfl, fx, (by decide : ∀ z ∈ [(0 : Int), 1, 2, 3, 7, 100, 101, -1], -9223372036854775808 ≤ z ∧ z ≤ 9223372036854775807) y hy, bel_grown b1 (g2.trans ((grown_alloc _ _ _).trans g3)) (Nat.le_refl _)⟩

set_option maxHeartbeats 400000 in
theorem drawConvert_any (a : Option Addr) (len cap : Nat) (zs : List Int) (w : World) (hr : IsRow .u8 w a len cap zs) (hn : len ≤ 1048576) :
    Calls Try.prog 29 #[.slice a len cap] w fun e w' => ∃ x f t n d : Int, e = .returned (.tuple #[.int .i64 x, .int .i64 f, .int .i64 t, .int .i64 n, .int .i64 d]) ∧ Fits x ∧ Fits f ∧ Fits t ∧ Fits n ∧ Fits d ∧ Below w.heap.size w w' := by
  go_enter Try.func29, Try.ntmps29
  go_wp2_with fail
  refine (new_any _ _ _ _ _ hr hn).mono ?_
  rintro e w1 ⟨rfl, c1, b1⟩
  go_wp2_with fail
  refine (amount_any _ _ c1).mono ?_
  rintro e w2 ⟨x, rfl, fx, c2, g2⟩
  go_wp2_with fail
  refine (cur1_any _ _ c2).mono ?_
  rintro e w3 ⟨f, rfl, ff, c3, g3⟩
  go_wp2_with fail
  refine (cur1_any _ _ c3).mono ?_
  rintro e w4 ⟨t, rfl, ft, c4, g4⟩
  go_wp2_with fail
  refine (ratio_any _ _ c4).mono ?_
  rintro e w5 ⟨n, rfl, fn, c5, g5⟩
  go_wp2_with fail
  refine (ratio_any _ _ c5).mono ?_
  rintro e w6 ⟨d, rfl, fd, c6, g6⟩
  go_wp2
  refine bodyPost_ret (v := .tuple #[.int .i64 x, .int .i64 f, .int .i64 t, .int .i64 n, .int .i64 d]) (by simp [results, Try.results29, go_sem]) rfl ⟨x, f, t, n, d, rfl, fx, ff, ft, fn, fd, ?_⟩
  exact bel_grown b1 ((((g2.trans g3).trans g4).trans g5).trans g6) (Nat.le_refl _)

set_option maxHeartbeats 1000000 in
theorem drawTotal_any (a : Option Addr) (len cap : Nat) (zs : List Int) (w : World) (hr : IsRow .u8 w a len cap zs) (hn : len ≤ 1048576) :
    Calls Try.prog 18 #[.slice a len cap] w fun e w' => ∃ (ao : Option Addr) (c : Nat) (xs : List Int), e = .returned (.slice ao xs.length c) ∧ xs.length ≤ 7 ∧ IntsAt w' ao xs ∧ Below w.heap.size w w' := by
  obtain ⟨i0, hi, hz0, hz1, hz2⟩ := info_parts info3
  go_enter Try.func18, Try.ntmps18
  go_wp2_with fail
  refine (new_any _ _ _ _ _ hr hn).mono ?_
  rintro e w1 ⟨rfl, c1, b1⟩
  have own0 : (w1.alloc (.cells #[] 3)).ownsRow w1.heap.size 3 1 (.slice (some ⟨w1.heap.size, 0, none⟩) 0 0) 0 [] := World.ownsRow_lit w1 #[] 0 (Nat.le_refl _) (by unfold maxLen; omega) rfl
  go_wp2_with fail
  refine (below_any _ _ _ (cursor_alloc c1 _) (by omega)).mono ?_
  rintro e w2 ⟨n, rfl, n0, n1, c2, g2⟩
  have hn8 := n1 (by omega)
  obtain ⟨m, rfl⟩ := Int.eq_ofNat_of_zero_le n0
  have cb1 := cursor_bd c1
  have own2 := own0.kept g2 (.inr (by simp [Value.ownBlock]; omega))
  have b2 : Below w.heap.size w w2 := bel_grown (b1.alloc b1.size _) g2 (Nat.le_refl _)
  have s2 : w1.heap.size ≤ w2.heap.size := by have := g2.size; simp at this; omega
  clear own0 n1 g2
  go_wp2
  go_loopw [4, 6] (fun v i wr => ∃ (k : Nat) (xs : List Int), k ≤ m ∧ i = .int .i64 k ∧ xs.length = k ∧ wr.ownsRow w1.heap.size 3 1 v k (xs.map (Value.int .i64)) ∧ Cursor (w.heap.size + 1) wr w.heap.size ∧ Below w.heap.size w wr ∧ w1.heap.size ≤ wr.heap.size) (fun _ i _ => m - (intOf i).toNat)
  case atStart => exact ⟨0, [], Nat.zero_le _, rfl, rfl, own2, c2, b2, s2⟩
  case round =>
    obtain ⟨k, xs, hk, rfl, hxl, ho, hc, hbr, hsz⟩ := hrel
    clear own2 c2 b2 s2
    by_cases hlt : k < m
    · have hki : (k : Int) < (m : Int) := by omega
      go_wp2_with (first | (go_at_call 40; refine (amount_any _ _ hc).mono ?_; rintro e w3 ⟨x, rfl, fx, c3, g3⟩; have o3 := ho.kept g3 (ho_ne ho (by omega)); have b3 := bel_grown hbr g3 (Nat.le_refl _); have s3 := g3.size) | (at_builtin; refine wpList_append_own _ rfl (.tmp 17) (.tmp 20) 28 rfl w1.heap.size 3 i0 (.int .i64 0) 1 8 Try.underlying28 hi hz0 hz1 hz2 rfl (by decide) _ _ _ rfl (o3.alloc _) ⟨w3.heap.size, 0, none⟩ 1 1 [.int .i64 x] rfl rfl (cell_one_new _ _ _) (ints_oneCell .i64 [x]) (by unfold maxLen; omega) (by omega) (by simp; omega) ?_; intro v' w4 ho1 hg1 hn1))
      have hb1 : Below w.heap.size w w4 := (b3.alloc b3.size _).grown hg1 (by have := b3.size; simp; omega) (fun j hj => by have := (o3.lt j hj).1; omega)
      have hc1 : Cursor (w.heap.size + 1) w4 w.heap.size := cursor_keep c3 (((Below.refl _ w3).alloc (by omega) _).grown hg1 (by simp; omega) (fun j hj => by have := (o3.lt j hj).1; omega))
      have hs1 : w1.heap.size ≤ w4.heap.size := by have := hg1.size; simp at this; omega
      clear hg1 hn1 ho
      go_wp2
      go_roundw
      case rel => exact ⟨k + 1, xs ++ [x], by omega, by go_num, by simp [hxl], by rw [List.map_append]; exact ho1, hc1, hb1, hs1⟩
      case measure => simp [intOf]; omega
    · have HO : Hid _ := ho
      clear ho
      go_wp2
      go_ret
      obtain ⟨ao, c, hv⟩ := own_shape HO.out
      subst hv
      subst hxl
      exact ⟨ao, c, xs, rfl, by omega, ints_own HO.out, hbr⟩

end Go.Proofs.Ytkhohbkdfgnmnaa
