/- What is drawn as a field's data: a text of at most 999 bytes, whatever the bytes of the draw; and of what was there only the cursor moves. -/
import Derived.Test.YtggaadbcifbdeaaDrawn
import Derived.Test.YtggaadbcifbdeaaFBytes
import Derived.Test.YtggaadbcifbdeaaFForm
namespace Go.Proofs.Ytggaadbcifbdeaa
open Go.RowKit

theorem own_ne5 {w : World} {base g n : Nat} {v : Value} {xs : List Value} (h : w.ownsRow base 5 1 v n xs) (hg : g < base) : v.ownBlock = none ∨ v.ownBlock ≠ some g := by
  right; intro e; have := (h.lt g e).1; omega
theorem cell_of (z : Int) (h0 : 0 ≤ z) (h1 : z ≤ 255) : Value.int .u8 z = cell (UInt8.ofNat z.toNat) := by
  unfold cell; rw [UInt8.toNat_ofNat']; congr 1; omega
theorem map_cell_set (l : List UInt8) (j : Nat) (c : UInt8) : (l.map cell).set j (cell c) = (l.set j c).map cell := by rw [List.map_set]
theorem grown_far {w w1 w2 : World} {g : Nat} {row : Option Nat} (h : w.grownBy w1 (some g)) (h2 : w1.grownBy w2 row) (hr : ∀ j, row = some j → w.heap.size ≤ j) : w.grownBy w2 (some g) :=
  ⟨h2.os.trans h.os, h2.tape.trans h.tape, h2.output.trans h.output, Nat.le_trans h.size h2.size, fun k hk hne => (h2.block k (Nat.lt_of_lt_of_le hk h.size) (fun e => by have := hr k e.symm; omega)).trans (h.block k hk hne)⟩

set_option maxRecDepth 100000 in
set_option maxHeartbeats 6400000 in
theorem dataG_1 {B : Nat} (g s : Nat) (n : Int) (w1 : World) (hc : Cursor B w1 g) (hs9 : s ≤ 999) (hf : fK n = 1) (hs : fS n = s) :
    Calls Try.prog 16 #[.pointer (some ⟨g, 0, none⟩), .int .i64 n] w1 fun e w' => ∃ l : List UInt8, e = .returned (.string ⟨l.toArray⟩) ∧ l.length ≤ 999 ∧ Cursor B w' g ∧ w1.grownBy w' (some g) := by
  obtain ⟨i0, hi, hz0, hz1, hz2⟩ := info_parts info5
  have cb := cursor_bd hc
  have HS : Hid _ := hs
  have HF : Hid _ := hf
  clear hs hf
  go_enter Try.func16, Try.ntmps16
  go_wp2_with fail
  refine (l04Form_any _ _).mono ?_
  rintro e w ⟨rfl, hw⟩
  rw [HF.out, HS.out, hw]
  clear hw
  obtain ⟨wc, hwc⟩ : ∃ x, x = w1 := ⟨_, rfl⟩
  have s0 : w1.heap.size ≤ wc.heap.size := by rw [hwc]; exact Nat.le_refl _
  have c0 : Cursor B wc g := by rw [hwc]; exact hc
  have b0 : w1.grownBy wc (some g) := by rw [hwc]; exact World.grownBy.refl _ _
  rw [← hwc]
  clear hwc hc
  have cb0 := cursor_bd c0
  have own : (wc.alloc (.cells #[] 5)).ownsRow wc.heap.size 5 1 (.slice (some ⟨wc.heap.size, 0, none⟩) 0 0) 0 [] := World.ownsRow_lit wc #[] 0 (Nat.le_refl _) (by unfold maxLen; omega) rfl
  have c1 := cursor_alloc c0 (.cells #[] 5)
  have b1 : w1.grownBy (wc.alloc (.cells #[] 5)) (some g) := b0.trans (grown_alloc wc _ _)
  clear c0 b0
  go_wp2
  go_loopw [8, 9] (fun v i_ wr => ∃ (i : Nat) (l : List UInt8), i ≤ s ∧ i_ = .int .i64 i ∧ l.length = i ∧ wr.ownsRow wc.heap.size 5 1 v i (l.map cell) ∧ Cursor B wr g ∧ w1.grownBy wr (some g) ∧ wc.heap.size ≤ wr.heap.size) (fun _ i _ => s - (intOf i).toNat)
  case atStart => exact ⟨0, [], Nat.zero_le _, rfl, rfl, own, c1, b1, by simp⟩
  case round =>
    obtain ⟨i, l, hik, rfl, hll, ho, hc, hbr, hsz⟩ := hrel
    clear own c1 b1
    by_cases hlt : i < s
    · have hki : (i : Int) < (s : Int) := by omega
      have HLL : Hid _ := hll
      clear hll
      go_wp2_with fail
      refine (below_any _ _ _ hc (by omega)).mono ?_
      rintro e w3 ⟨z, rfl, z0, z1, c3, g3⟩
      have hz10 := z1 (by omega)
      have o3 := ho.kept g3 (own_ne5 ho (by omega))
      have b3 : w1.grownBy w3 (some g) := hbr.trans g3
      have s3 : wc.heap.size ≤ w3.heap.size := by have := g3.size; omega
      clear ho hc hbr g3 z1
      have HC : Hid _ := cell_of (48 + z) (by omega) (by omega)
      go_wp2_with (at_builtin; refine wpList_append_own _ rfl (.tmp 49) (.tmp 51) 22 rfl wc.heap.size 5 i0 (.int .u8 0) 1 1 Try.underlying22 hi hz0 hz1 hz2 rfl (by decide) _ _ _ rfl (o3.alloc _) ⟨w3.heap.size, 0, none⟩ 1 1 [.int .u8 (48 + z)] rfl rfl (cell_one_new _ _ _) (ints_oneCell .u8 [48 + z]) (by unfold maxLen; omega) (by omega) (by simp; omega) ?_; intro v' w9 ho9 hg9 hn9)
      have hb9 : w1.grownBy w9 (some g) := grown_far (b3.trans (grown_alloc w3 _ _)) hg9 (fun j hj => by have := (o3.lt j hj).1; omega)
      have hc9 : Cursor B w9 g := cursor_keep c3 (((Below.refl _ w3).alloc (by have := cursor_bd c3; omega) _).grown hg9 (by have := cursor_bd c3; simp; omega) (fun j hj => by have := (o3.lt j hj).1; omega))
      have hs9' : wc.heap.size ≤ w9.heap.size := by have := hg9.size; simp at this; omega
      clear hg9 hn9 o3 c3 b3
      go_wp2
      go_roundw
      case rel => exact ⟨i + 1, l ++ [UInt8.ofNat (48 + z).toNat], by omega, by go_num, by have := HLL.out; simp; omega, by rw [List.map_append, List.map_cons, List.map_nil, ← HC.out]; exact ho9, hc9, hb9, hs9'⟩
      case measure => simp [intOf]; omega
    · have hkn : i = s := by omega
      have hki : ¬ (i : Int) < (s : Int) := by omega
      by_cases h0 : i = 0
      · have h0k : s = 0 := by omega
        have h0i : ¬ (0 : Int) < (s : Int) := by omega
        have h0d : decide ((0 : Int) < (s : Int)) = false := decide_eq_false h0i
        have h0n : decide (0 < s) = false := decide_eq_false (by omega)
        have ht := text_own ho
        have hl9 : l.length ≤ 999 := by omega
        clear ho hkn h0 h0k
        go_wp2
        go_ret
        exact ⟨l, rfl, hl9, hc, hbr⟩
      · have h0i : (0 : Int) < (s : Int) := by omega
        have h0d : decide ((0 : Int) < (s : Int)) = true := decide_eq_true h0i
        have h0n : decide (0 < s) = true := decide_eq_true (by omega)
        have hl9 : l.length ≤ 999 := by omega
        have hipos : 0 < i := by omega
        clear hkn h0
        go_wp2_with fail
        refine (once_any _ _ _ hc (by omega)).mono ?_
        rintro e w3 ⟨q, rfl, c3, g3⟩
        have o3 := ho.kept g3 (own_ne5 ho (by omega))
        have b3 : w1.grownBy w3 (some g) := hbr.trans g3
        have s3 : wc.heap.size ≤ w3.heap.size := by have := g3.size; omega
        clear ho hc hbr g3
        cases q
        · have ht := text_own o3
          clear o3
          go_wp2
          go_ret
          exact ⟨l, rfl, hl9, c3, b3⟩
        · go_wp2_with fail
          refine (pickInt_any _ _ _ [31, 127, 255] _ (cursor_alloc c3 _) (cursor_ne c3) (lit_cells w3 [31, 127, 255] _ rfl) (by decide) (by decide)).mono ?_
          rintro e w5 ⟨y, rfl, hy, c5, g5⟩
          have hyb : 0 ≤ y ∧ y ≤ 255 := by simp at hy; omega
          have oa := o3.alloc (.cells #[.int .i64 31, .int .i64 127, .int .i64 255] 3)
          have o5 := oa.kept g5 (own_ne5 oa (by omega))
          have b5 : w1.grownBy w5 (some g) := (b3.trans (grown_alloc w3 _ _)).trans g5
          have s5 : wc.heap.size ≤ w5.heap.size := by have := g5.size; simp only [World.size_alloc] at this; omega
          clear oa o3 c3 b3 g5 hy
          rcases o5.2 with ⟨hv, hz⟩ | ⟨gg, cap, cur, hv, hrest⟩
          · omega
          · subst hv
            have hgg : wc.heap.size ≤ gg := hrest.1
            clear hrest
            have c2 : ∃ v, w5.cell? ⟨gg, 0, none⟩ = some v := by rw [o5.cellAt 0 (by omega)]; exact ⟨_, List.getElem?_eq_getElem (by simp; omega)⟩
            obtain ⟨old, c2⟩ := c2
            have c3 : w5.frozen? ⟨gg, 0, none⟩ = false := o5.frozenAt 0
            have R := o5.stored 0 (.int .u8 y)
            rw [cell_of y hyb.1 hyb.2, map_cell_set, ← cell_of y hyb.1 hyb.2] at R
            have hb6 : w1.grownBy (w5.setCell ⟨gg, 0, none⟩ (.int .u8 y)) (some g) := grown_far b5 (grown_set w5 gg 0 _) (fun k hk => by cases hk; omega)
            have hc6 : Cursor B (w5.setCell ⟨gg, 0, none⟩ (.int .u8 y)) g := cursor_keep c5 ((Below.refl _ w5).setCell (by show B ≤ gg; omega) _)
            have ht := text_own R.1
            have hll2 : (l.set 0 (UInt8.ofNat y.toNat)).length ≤ 999 := by rw [List.length_set]; omega
            generalize l.set 0 (UInt8.ofNat y.toNat) = l2 at ht hll2
            have HB : Hid (w1.grownBy (w5.setCell ⟨gg, 0, none⟩ (.int .u8 y)) (some g)) := hb6
            have HC : Hid (Cursor B (w5.setCell ⟨gg, 0, none⟩ (.int .u8 y)) g) := hc6
            clear R o5 hb6 hc6 c5 b5
            go_wp2
            go_ret
            exact ⟨l2, rfl, hll2, HC.out, HB.out⟩

set_option maxRecDepth 100000 in
set_option maxHeartbeats 6400000 in
theorem dataG_3 {B : Nat} (g s : Nat) (n : Int) (w1 : World) (hc : Cursor B w1 g) (hs9 : s ≤ 999) (hf : fK n = 3) (hs : fS n = s) :
    Calls Try.prog 16 #[.pointer (some ⟨g, 0, none⟩), .int .i64 n] w1 fun e w' => ∃ l : List UInt8, e = .returned (.string ⟨l.toArray⟩) ∧ l.length ≤ 999 ∧ Cursor B w' g ∧ w1.grownBy w' (some g) := by
  obtain ⟨i0, hi, hz0, hz1, hz2⟩ := info_parts info5
  have cb := cursor_bd hc
  have HS : Hid _ := hs
  have HF : Hid _ := hf
  clear hs hf
  go_enter Try.func16, Try.ntmps16
  go_wp2_with fail
  refine (l04Form_any _ _).mono ?_
  rintro e w ⟨rfl, hw⟩
  rw [HF.out, HS.out, hw]
  clear hw
  obtain ⟨wc, hwc⟩ : ∃ x, x = w1 := ⟨_, rfl⟩
  have s0 : w1.heap.size ≤ wc.heap.size := by rw [hwc]; exact Nat.le_refl _
  have c0 : Cursor B wc g := by rw [hwc]; exact hc
  have b0 : w1.grownBy wc (some g) := by rw [hwc]; exact World.grownBy.refl _ _
  rw [← hwc]
  clear hwc hc
  have cb0 := cursor_bd c0
  have own : (wc.alloc (.cells #[] 5)).ownsRow wc.heap.size 5 1 (.slice (some ⟨wc.heap.size, 0, none⟩) 0 0) 0 [] := World.ownsRow_lit wc #[] 0 (Nat.le_refl _) (by unfold maxLen; omega) rfl
  have c1 := cursor_alloc c0 (.cells #[] 5)
  have b1 : w1.grownBy (wc.alloc (.cells #[] 5)) (some g) := b0.trans (grown_alloc wc _ _)
  clear c0 b0
  go_wp2
  go_loopw [8, 9] (fun v i_ wr => ∃ (i : Nat) (l : List UInt8), i ≤ s ∧ i_ = .int .i64 i ∧ l.length = i ∧ wr.ownsRow wc.heap.size 5 1 v i (l.map cell) ∧ Cursor B wr g ∧ w1.grownBy wr (some g) ∧ wc.heap.size ≤ wr.heap.size) (fun _ i _ => s - (intOf i).toNat)
  case atStart => exact ⟨0, [], Nat.zero_le _, rfl, rfl, own, c1, b1, by simp⟩
  case round =>
    obtain ⟨i, l, hik, rfl, hll, ho, hc, hbr, hsz⟩ := hrel
    clear own c1 b1
    by_cases hlt : i < s
    · have hki : (i : Int) < (s : Int) := by omega
      have HLL : Hid _ := hll
      clear hll
      go_wp2_with fail
      refine (below_any _ _ _ hc (by omega)).mono ?_
      rintro e w3 ⟨z, rfl, z0, z1, c3, g3⟩
      have hz10 := z1 (by omega)
      have o3 := ho.kept g3 (own_ne5 ho (by omega))
      have b3 : w1.grownBy w3 (some g) := hbr.trans g3
      have s3 : wc.heap.size ≤ w3.heap.size := by have := g3.size; omega
      clear ho hc hbr g3 z1
      go_wp2_with fail
      refine (once_any _ _ _ c3 (by omega)).mono ?_
      rintro e w4 ⟨q, rfl, c4, g4⟩
      have o4 := o3.kept g4 (own_ne5 o3 (by omega))
      have b4 : w1.grownBy w4 (some g) := b3.trans g4
      have s4 : wc.heap.size ≤ w4.heap.size := by have := g4.size; omega
      clear o3 c3 b3 g4
      cases q
      · have HC : Hid _ := cell_of (48 + z) (by omega) (by omega)
        go_wp2_with (at_builtin; refine wpList_append_own _ rfl (.tmp 49) (.tmp 51) 22 rfl wc.heap.size 5 i0 (.int .u8 0) 1 1 Try.underlying22 hi hz0 hz1 hz2 rfl (by decide) _ _ _ rfl (o4.alloc _) ⟨w4.heap.size, 0, none⟩ 1 1 [.int .u8 (48 + z)] rfl rfl (cell_one_new _ _ _) (ints_oneCell .u8 [48 + z]) (by unfold maxLen; omega) (by omega) (by simp; omega) ?_; intro v' w9 ho9 hg9 hn9)
        have hb9 : w1.grownBy w9 (some g) := grown_far (b4.trans (grown_alloc w4 _ _)) hg9 (fun j hj => by have := (o4.lt j hj).1; omega)
        have hc9 : Cursor B w9 g := cursor_keep c4 (((Below.refl _ w4).alloc (by have := cursor_bd c4; omega) _).grown hg9 (by have := cursor_bd c4; simp; omega) (fun j hj => by have := (o4.lt j hj).1; omega))
        have hs9' : wc.heap.size ≤ w9.heap.size := by have := hg9.size; simp at this; omega
        clear hg9 hn9 o4 c4 b4
        go_wp2
        go_roundw
        case rel => exact ⟨i + 1, l ++ [UInt8.ofNat (48 + z).toNat], by omega, by go_num, by have := HLL.out; simp; omega, by rw [List.map_append, List.map_cons, List.map_nil, ← HC.out]; exact ho9, hc9, hb9, hs9'⟩
        case measure => simp [intOf]; omega
      · go_wp2_with fail
        refine (below_any _ _ _ c4 (by omega)).mono ?_
        rintro e w5 ⟨y, rfl, y0, y1, c5, g5⟩
        have hy95 := y1 (by omega)
        have o5 := o4.kept g5 (own_ne5 o4 (by omega))
        have b5 : w1.grownBy w5 (some g) := b4.trans g5
        have s5 : wc.heap.size ≤ w5.heap.size := by have := g5.size; omega
        clear o4 c4 b4 g5 y1
        have HC : Hid _ := cell_of (32 + y) (by omega) (by omega)
        go_wp2_with (at_builtin; refine wpList_append_own _ rfl (.tmp 49) (.tmp 51) 22 rfl wc.heap.size 5 i0 (.int .u8 0) 1 1 Try.underlying22 hi hz0 hz1 hz2 rfl (by decide) _ _ _ rfl (o5.alloc _) ⟨w5.heap.size, 0, none⟩ 1 1 [.int .u8 (32 + y)] rfl rfl (cell_one_new _ _ _) (ints_oneCell .u8 [32 + y]) (by unfold maxLen; omega) (by omega) (by simp; omega) ?_; intro v' w9 ho9 hg9 hn9)
        have hb9 : w1.grownBy w9 (some g) := grown_far (b5.trans (grown_alloc w5 _ _)) hg9 (fun j hj => by have := (o5.lt j hj).1; omega)
        have hc9 : Cursor B w9 g := cursor_keep c5 (((Below.refl _ w5).alloc (by have := cursor_bd c5; omega) _).grown hg9 (by have := cursor_bd c5; simp; omega) (fun j hj => by have := (o5.lt j hj).1; omega))
        have hs9' : wc.heap.size ≤ w9.heap.size := by have := hg9.size; simp at this; omega
        clear hg9 hn9 o5 c5 b5
        go_wp2
        go_roundw
        case rel => exact ⟨i + 1, l ++ [UInt8.ofNat (32 + y).toNat], by omega, by go_num, by have := HLL.out; simp; omega, by rw [List.map_append, List.map_cons, List.map_nil, ← HC.out]; exact ho9, hc9, hb9, hs9'⟩
        case measure => simp [intOf]; omega
    · have hkn : i = s := by omega
      have hki : ¬ (i : Int) < (s : Int) := by omega
      by_cases h0 : i = 0
      · have h0k : s = 0 := by omega
        have h0i : ¬ (0 : Int) < (s : Int) := by omega
        have h0d : decide ((0 : Int) < (s : Int)) = false := decide_eq_false h0i
        have h0n : decide (0 < s) = false := decide_eq_false (by omega)
        have ht := text_own ho
        have hl9 : l.length ≤ 999 := by omega
        clear ho hkn h0 h0k
        go_wp2
        go_ret
        exact ⟨l, rfl, hl9, hc, hbr⟩
      · have h0i : (0 : Int) < (s : Int) := by omega
        have h0d : decide ((0 : Int) < (s : Int)) = true := decide_eq_true h0i
        have h0n : decide (0 < s) = true := decide_eq_true (by omega)
        have hl9 : l.length ≤ 999 := by omega
        have hipos : 0 < i := by omega
        clear hkn h0
        go_wp2_with fail
        refine (once_any _ _ _ hc (by omega)).mono ?_
        rintro e w3 ⟨q, rfl, c3, g3⟩
        have o3 := ho.kept g3 (own_ne5 ho (by omega))
        have b3 : w1.grownBy w3 (some g) := hbr.trans g3
        have s3 : wc.heap.size ≤ w3.heap.size := by have := g3.size; omega
        clear ho hc hbr g3
        cases q
        · have ht := text_own o3
          clear o3
          go_wp2
          go_ret
          exact ⟨l, rfl, hl9, c3, b3⟩
        · go_wp2_with fail
          refine (pickInt_any _ _ _ [31, 127, 255] _ (cursor_alloc c3 _) (cursor_ne c3) (lit_cells w3 [31, 127, 255] _ rfl) (by decide) (by decide)).mono ?_
          rintro e w5 ⟨y, rfl, hy, c5, g5⟩
          have hyb : 0 ≤ y ∧ y ≤ 255 := by simp at hy; omega
          have oa := o3.alloc (.cells #[.int .i64 31, .int .i64 127, .int .i64 255] 3)
          have o5 := oa.kept g5 (own_ne5 oa (by omega))
          have b5 : w1.grownBy w5 (some g) := (b3.trans (grown_alloc w3 _ _)).trans g5
          have s5 : wc.heap.size ≤ w5.heap.size := by have := g5.size; simp only [World.size_alloc] at this; omega
          clear oa o3 c3 b3 g5 hy
          rcases o5.2 with ⟨hv, hz⟩ | ⟨gg, cap, cur, hv, hrest⟩
          · omega
          · subst hv
            have hgg : wc.heap.size ≤ gg := hrest.1
            clear hrest
            have c2 : ∃ v, w5.cell? ⟨gg, 0, none⟩ = some v := by rw [o5.cellAt 0 (by omega)]; exact ⟨_, List.getElem?_eq_getElem (by simp; omega)⟩
            obtain ⟨old, c2⟩ := c2
            have c3 : w5.frozen? ⟨gg, 0, none⟩ = false := o5.frozenAt 0
            have R := o5.stored 0 (.int .u8 y)
            rw [cell_of y hyb.1 hyb.2, map_cell_set, ← cell_of y hyb.1 hyb.2] at R
            have hb6 : w1.grownBy (w5.setCell ⟨gg, 0, none⟩ (.int .u8 y)) (some g) := grown_far b5 (grown_set w5 gg 0 _) (fun k hk => by cases hk; omega)
            have hc6 : Cursor B (w5.setCell ⟨gg, 0, none⟩ (.int .u8 y)) g := cursor_keep c5 ((Below.refl _ w5).setCell (by show B ≤ gg; omega) _)
            have ht := text_own R.1
            have hll2 : (l.set 0 (UInt8.ofNat y.toNat)).length ≤ 999 := by rw [List.length_set]; omega
            generalize l.set 0 (UInt8.ofNat y.toNat) = l2 at ht hll2
            have HB : Hid (w1.grownBy (w5.setCell ⟨gg, 0, none⟩ (.int .u8 y)) (some g)) := hb6
            have HC : Hid (Cursor B (w5.setCell ⟨gg, 0, none⟩ (.int .u8 y)) g) := hc6
            clear R o5 hb6 hc6 c5 b5
            go_wp2
            go_ret
            exact ⟨l2, rfl, hll2, HC.out, HB.out⟩

set_option maxRecDepth 100000 in
set_option maxHeartbeats 6400000 in
theorem dataG_2 {B : Nat} (g s : Nat) (n : Int) (w1 : World) (hc : Cursor B w1 g) (hs9 : s ≤ 999) (hf : fK n = 2) (hs : fS n = s) :
    Calls Try.prog 16 #[.pointer (some ⟨g, 0, none⟩), .int .i64 n] w1 fun e w' => ∃ l : List UInt8, e = .returned (.string ⟨l.toArray⟩) ∧ l.length ≤ 999 ∧ Cursor B w' g ∧ w1.grownBy w' (some g) := by
  obtain ⟨i0, hi, hz0, hz1, hz2⟩ := info_parts info5
  have cb := cursor_bd hc
  have HS : Hid _ := hs
  have HF : Hid _ := hf
  clear hs hf
  go_enter Try.func16, Try.ntmps16
  go_wp2_with fail
  refine (l04Form_any _ _).mono ?_
  rintro e w ⟨rfl, hw⟩
  rw [HF.out, HS.out, hw]
  clear hw
  go_wp2_with fail
  refine (below_any _ _ _ hc (by omega)).mono ?_
  rintro e wc ⟨x, rfl, x0, x1, c0, b0⟩
  have hx := x1 (by omega)
  obtain ⟨X, hXe⟩ := Int.eq_ofNat_of_zero_le x0
  subst hXe
  have hX12 : X < 12 := by omega
  have s0 : w1.heap.size ≤ wc.heap.size := b0.size
  have cb0 := cursor_bd c0
  clear hc x0 x1 hx
  by_cases hsx : s < X
  · have hsi : (s : Int) < (X : Int) := by omega
    have hsd : decide ((s : Int) < (X : Int)) = true := decide_eq_true hsi
    have hsn : decide (s < X) = true := decide_eq_true hsx
    have own : (wc.alloc (.cells #[] 5)).ownsRow wc.heap.size 5 1 (.slice (some ⟨wc.heap.size, 0, none⟩) 0 0) 0 [] := World.ownsRow_lit wc #[] 0 (Nat.le_refl _) (by unfold maxLen; omega) rfl
    have c1 := cursor_alloc c0 (.cells #[] 5)
    have b1 : w1.grownBy (wc.alloc (.cells #[] 5)) (some g) := b0.trans (grown_alloc wc _ _)
    clear c0 b0
    go_wp2
    go_loopw [8, 9] (fun v i_ wr => ∃ (i : Nat) (l : List UInt8), i ≤ s ∧ i_ = .int .i64 i ∧ l.length = i ∧ wr.ownsRow wc.heap.size 5 1 v i (l.map cell) ∧ Cursor B wr g ∧ w1.grownBy wr (some g) ∧ wc.heap.size ≤ wr.heap.size) (fun _ i _ => s - (intOf i).toNat)
    case atStart => exact ⟨0, [], Nat.zero_le _, rfl, rfl, own, c1, b1, by simp⟩
    case round =>
      obtain ⟨i, l, hik, rfl, hll, ho, hc, hbr, hsz⟩ := hrel
      clear own c1 b1
      by_cases hlt : i < s
      · have hki : (i : Int) < (s : Int) := by omega
        have HLL : Hid _ := hll
        clear hll
        go_wp2_with fail
        refine (below_any _ _ _ hc (by omega)).mono ?_
        rintro e w3 ⟨z, rfl, z0, z1, c3, g3⟩
        have hz10 := z1 (by omega)
        have o3 := ho.kept g3 (own_ne5 ho (by omega))
        have b3 : w1.grownBy w3 (some g) := hbr.trans g3
        have s3 : wc.heap.size ≤ w3.heap.size := by have := g3.size; omega
        clear ho hc hbr g3 z1
        have HC : Hid _ := cell_of (48 + z) (by omega) (by omega)
        go_wp2_with (at_builtin; refine wpList_append_own _ rfl (.tmp 49) (.tmp 51) 22 rfl wc.heap.size 5 i0 (.int .u8 0) 1 1 Try.underlying22 hi hz0 hz1 hz2 rfl (by decide) _ _ _ rfl (o3.alloc _) ⟨w3.heap.size, 0, none⟩ 1 1 [.int .u8 (48 + z)] rfl rfl (cell_one_new _ _ _) (ints_oneCell .u8 [48 + z]) (by unfold maxLen; omega) (by omega) (by simp; omega) ?_; intro v' w9 ho9 hg9 hn9)
        have hb9 : w1.grownBy w9 (some g) := grown_far (b3.trans (grown_alloc w3 _ _)) hg9 (fun j hj => by have := (o3.lt j hj).1; omega)
        have hc9 : Cursor B w9 g := cursor_keep c3 (((Below.refl _ w3).alloc (by have := cursor_bd c3; omega) _).grown hg9 (by have := cursor_bd c3; simp; omega) (fun j hj => by have := (o3.lt j hj).1; omega))
        have hs9' : wc.heap.size ≤ w9.heap.size := by have := hg9.size; simp at this; omega
        clear hg9 hn9 o3 c3 b3
        go_wp2
        go_roundw
        case rel => exact ⟨i + 1, l ++ [UInt8.ofNat (48 + z).toNat], by omega, by go_num, by have := HLL.out; simp; omega, by rw [List.map_append, List.map_cons, List.map_nil, ← HC.out]; exact ho9, hc9, hb9, hs9'⟩
        case measure => simp [intOf]; omega
      · have hkn : i = s := by omega
        have hki : ¬ (i : Int) < (s : Int) := by omega
        by_cases h0 : i = 0
        · have h0k : s = 0 := by omega
          have h0i : ¬ (0 : Int) < (s : Int) := by omega
          have h0d : decide ((0 : Int) < (s : Int)) = false := decide_eq_false h0i
          have h0n : decide (0 < s) = false := decide_eq_false (by omega)
          have ht := text_own ho
          have hl9 : l.length ≤ 999 := by omega
          clear ho hkn h0 h0k
          go_wp2
          go_ret
          exact ⟨l, rfl, hl9, hc, hbr⟩
        · have h0i : (0 : Int) < (s : Int) := by omega
          have h0d : decide ((0 : Int) < (s : Int)) = true := decide_eq_true h0i
          have h0n : decide (0 < s) = true := decide_eq_true (by omega)
          have hl9 : l.length ≤ 999 := by omega
          have hipos : 0 < i := by omega
          clear hkn h0
          go_wp2_with fail
          refine (once_any _ _ _ hc (by omega)).mono ?_
          rintro e w3 ⟨q, rfl, c3, g3⟩
          have o3 := ho.kept g3 (own_ne5 ho (by omega))
          have b3 : w1.grownBy w3 (some g) := hbr.trans g3
          have s3 : wc.heap.size ≤ w3.heap.size := by have := g3.size; omega
          clear ho hc hbr g3
          cases q
          · have ht := text_own o3
            clear o3
            go_wp2
            go_ret
            exact ⟨l, rfl, hl9, c3, b3⟩
          · go_wp2_with fail
            refine (pickInt_any _ _ _ [31, 127, 255] _ (cursor_alloc c3 _) (cursor_ne c3) (lit_cells w3 [31, 127, 255] _ rfl) (by decide) (by decide)).mono ?_
            rintro e w5 ⟨y, rfl, hy, c5, g5⟩
            have hyb : 0 ≤ y ∧ y ≤ 255 := by simp at hy; omega
            have oa := o3.alloc (.cells #[.int .i64 31, .int .i64 127, .int .i64 255] 3)
            have o5 := oa.kept g5 (own_ne5 oa (by omega))
            have b5 : w1.grownBy w5 (some g) := (b3.trans (grown_alloc w3 _ _)).trans g5
            have s5 : wc.heap.size ≤ w5.heap.size := by have := g5.size; simp only [World.size_alloc] at this; omega
            clear oa o3 c3 b3 g5 hy
            rcases o5.2 with ⟨hv, hz⟩ | ⟨gg, cap, cur, hv, hrest⟩
            · omega
            · subst hv
              have hgg : wc.heap.size ≤ gg := hrest.1
              clear hrest
              have c2 : ∃ v, w5.cell? ⟨gg, 0, none⟩ = some v := by rw [o5.cellAt 0 (by omega)]; exact ⟨_, List.getElem?_eq_getElem (by simp; omega)⟩
              obtain ⟨old, c2⟩ := c2
              have c3 : w5.frozen? ⟨gg, 0, none⟩ = false := o5.frozenAt 0
              have R := o5.stored 0 (.int .u8 y)
              rw [cell_of y hyb.1 hyb.2, map_cell_set, ← cell_of y hyb.1 hyb.2] at R
              have hb6 : w1.grownBy (w5.setCell ⟨gg, 0, none⟩ (.int .u8 y)) (some g) := grown_far b5 (grown_set w5 gg 0 _) (fun k hk => by cases hk; omega)
              have hc6 : Cursor B (w5.setCell ⟨gg, 0, none⟩ (.int .u8 y)) g := cursor_keep c5 ((Below.refl _ w5).setCell (by show B ≤ gg; omega) _)
              have ht := text_own R.1
              have hll2 : (l.set 0 (UInt8.ofNat y.toNat)).length ≤ 999 := by rw [List.length_set]; omega
              generalize l.set 0 (UInt8.ofNat y.toNat) = l2 at ht hll2
              have HB : Hid (w1.grownBy (w5.setCell ⟨gg, 0, none⟩ (.int .u8 y)) (some g)) := hb6
              have HC : Hid (Cursor B (w5.setCell ⟨gg, 0, none⟩ (.int .u8 y)) g) := hc6
              clear R o5 hb6 hc6 c5 b5
              go_wp2
              go_ret
              exact ⟨l2, rfl, hll2, HC.out, HB.out⟩
  · have hsi : ¬ (s : Int) < (X : Int) := by omega
    have hsd : decide ((s : Int) < (X : Int)) = false := decide_eq_false hsi
    have hsn : decide (s < X) = false := decide_eq_false hsx
    have own : (wc.alloc (.cells #[] 5)).ownsRow wc.heap.size 5 1 (.slice (some ⟨wc.heap.size, 0, none⟩) 0 0) 0 [] := World.ownsRow_lit wc #[] 0 (Nat.le_refl _) (by unfold maxLen; omega) rfl
    have c1 := cursor_alloc c0 (.cells #[] 5)
    have b1 : w1.grownBy (wc.alloc (.cells #[] 5)) (some g) := b0.trans (grown_alloc wc _ _)
    clear c0 b0
    go_wp2
    go_loopw [8, 9] (fun v i_ wr => ∃ (i : Nat) (l : List UInt8), i ≤ X ∧ i_ = .int .i64 i ∧ l.length = i ∧ wr.ownsRow wc.heap.size 5 1 v i (l.map cell) ∧ Cursor B wr g ∧ w1.grownBy wr (some g) ∧ wc.heap.size ≤ wr.heap.size) (fun _ i _ => X - (intOf i).toNat)
    case atStart => exact ⟨0, [], Nat.zero_le _, rfl, rfl, own, c1, b1, by simp⟩
    case round =>
      obtain ⟨i, l, hik, rfl, hll, ho, hc, hbr, hsz⟩ := hrel
      clear own c1 b1
      by_cases hlt : i < X
      · have hki : (i : Int) < (X : Int) := by omega
        have HLL : Hid _ := hll
        clear hll
        go_wp2_with fail
        refine (below_any _ _ _ hc (by omega)).mono ?_
        rintro e w3 ⟨z, rfl, z0, z1, c3, g3⟩
        have hz10 := z1 (by omega)
        have o3 := ho.kept g3 (own_ne5 ho (by omega))
        have b3 : w1.grownBy w3 (some g) := hbr.trans g3
        have s3 : wc.heap.size ≤ w3.heap.size := by have := g3.size; omega
        clear ho hc hbr g3 z1
        have HC : Hid _ := cell_of (48 + z) (by omega) (by omega)
        go_wp2_with (at_builtin; refine wpList_append_own _ rfl (.tmp 49) (.tmp 51) 22 rfl wc.heap.size 5 i0 (.int .u8 0) 1 1 Try.underlying22 hi hz0 hz1 hz2 rfl (by decide) _ _ _ rfl (o3.alloc _) ⟨w3.heap.size, 0, none⟩ 1 1 [.int .u8 (48 + z)] rfl rfl (cell_one_new _ _ _) (ints_oneCell .u8 [48 + z]) (by unfold maxLen; omega) (by omega) (by simp; omega) ?_; intro v' w9 ho9 hg9 hn9)
        have hb9 : w1.grownBy w9 (some g) := grown_far (b3.trans (grown_alloc w3 _ _)) hg9 (fun j hj => by have := (o3.lt j hj).1; omega)
        have hc9 : Cursor B w9 g := cursor_keep c3 (((Below.refl _ w3).alloc (by have := cursor_bd c3; omega) _).grown hg9 (by have := cursor_bd c3; simp; omega) (fun j hj => by have := (o3.lt j hj).1; omega))
        have hs9' : wc.heap.size ≤ w9.heap.size := by have := hg9.size; simp at this; omega
        clear hg9 hn9 o3 c3 b3
        go_wp2
        go_roundw
        case rel => exact ⟨i + 1, l ++ [UInt8.ofNat (48 + z).toNat], by omega, by go_num, by have := HLL.out; simp; omega, by rw [List.map_append, List.map_cons, List.map_nil, ← HC.out]; exact ho9, hc9, hb9, hs9'⟩
        case measure => simp [intOf]; omega
      · have hkn : i = X := by omega
        have hki : ¬ (i : Int) < (X : Int) := by omega
        by_cases h0 : i = 0
        · have h0k : X = 0 := by omega
          have h0i : ¬ (0 : Int) < (X : Int) := by omega
          have h0d : decide ((0 : Int) < (X : Int)) = false := decide_eq_false h0i
          have h0n : decide (0 < X) = false := decide_eq_false (by omega)
          have ht := text_own ho
          have hl9 : l.length ≤ 999 := by omega
          clear ho hkn h0 h0k
          go_wp2
          go_ret
          exact ⟨l, rfl, hl9, hc, hbr⟩
        · have h0i : (0 : Int) < (X : Int) := by omega
          have h0d : decide ((0 : Int) < (X : Int)) = true := decide_eq_true h0i
          have h0n : decide (0 < X) = true := decide_eq_true (by omega)
          have hl9 : l.length ≤ 999 := by omega
          have hipos : 0 < i := by omega
          clear hkn h0
          go_wp2_with fail
          refine (once_any _ _ _ hc (by omega)).mono ?_
          rintro e w3 ⟨q, rfl, c3, g3⟩
          have o3 := ho.kept g3 (own_ne5 ho (by omega))
          have b3 : w1.grownBy w3 (some g) := hbr.trans g3
          have s3 : wc.heap.size ≤ w3.heap.size := by have := g3.size; omega
          clear ho hc hbr g3
          cases q
          · have ht := text_own o3
            clear o3
            go_wp2
            go_ret
            exact ⟨l, rfl, hl9, c3, b3⟩
          · go_wp2_with fail
            refine (pickInt_any _ _ _ [31, 127, 255] _ (cursor_alloc c3 _) (cursor_ne c3) (lit_cells w3 [31, 127, 255] _ rfl) (by decide) (by decide)).mono ?_
            rintro e w5 ⟨y, rfl, hy, c5, g5⟩
            have hyb : 0 ≤ y ∧ y ≤ 255 := by simp at hy; omega
            have oa := o3.alloc (.cells #[.int .i64 31, .int .i64 127, .int .i64 255] 3)
            have o5 := oa.kept g5 (own_ne5 oa (by omega))
            have b5 : w1.grownBy w5 (some g) := (b3.trans (grown_alloc w3 _ _)).trans g5
            have s5 : wc.heap.size ≤ w5.heap.size := by have := g5.size; simp only [World.size_alloc] at this; omega
            clear oa o3 c3 b3 g5 hy
            rcases o5.2 with ⟨hv, hz⟩ | ⟨gg, cap, cur, hv, hrest⟩
            · omega
            · subst hv
              have hgg : wc.heap.size ≤ gg := hrest.1
              clear hrest
              have c2 : ∃ v, w5.cell? ⟨gg, 0, none⟩ = some v := by rw [o5.cellAt 0 (by omega)]; exact ⟨_, List.getElem?_eq_getElem (by simp; omega)⟩
              obtain ⟨old, c2⟩ := c2
              have c3 : w5.frozen? ⟨gg, 0, none⟩ = false := o5.frozenAt 0
              have R := o5.stored 0 (.int .u8 y)
              rw [cell_of y hyb.1 hyb.2, map_cell_set, ← cell_of y hyb.1 hyb.2] at R
              have hb6 : w1.grownBy (w5.setCell ⟨gg, 0, none⟩ (.int .u8 y)) (some g) := grown_far b5 (grown_set w5 gg 0 _) (fun k hk => by cases hk; omega)
              have hc6 : Cursor B (w5.setCell ⟨gg, 0, none⟩ (.int .u8 y)) g := cursor_keep c5 ((Below.refl _ w5).setCell (by show B ≤ gg; omega) _)
              have ht := text_own R.1
              have hll2 : (l.set 0 (UInt8.ofNat y.toNat)).length ≤ 999 := by rw [List.length_set]; omega
              generalize l.set 0 (UInt8.ofNat y.toNat) = l2 at ht hll2
              have HB : Hid (w1.grownBy (w5.setCell ⟨gg, 0, none⟩ (.int .u8 y)) (some g)) := hb6
              have HC : Hid (Cursor B (w5.setCell ⟨gg, 0, none⟩ (.int .u8 y)) g) := hc6
              clear R o5 hb6 hc6 c5 b5
              go_wp2
              go_ret
              exact ⟨l2, rfl, hll2, HC.out, HB.out⟩

set_option maxRecDepth 100000 in
set_option maxHeartbeats 6400000 in
theorem dataG_4 {B : Nat} (g s : Nat) (n : Int) (w1 : World) (hc : Cursor B w1 g) (hs9 : s ≤ 999) (hf : fK n = 4) (hs : fS n = s) :
    Calls Try.prog 16 #[.pointer (some ⟨g, 0, none⟩), .int .i64 n] w1 fun e w' => ∃ l : List UInt8, e = .returned (.string ⟨l.toArray⟩) ∧ l.length ≤ 999 ∧ Cursor B w' g ∧ w1.grownBy w' (some g) := by
  obtain ⟨i0, hi, hz0, hz1, hz2⟩ := info_parts info5
  have cb := cursor_bd hc
  have HS : Hid _ := hs
  have HF : Hid _ := hf
  clear hs hf
  go_enter Try.func16, Try.ntmps16
  go_wp2_with fail
  refine (l04Form_any _ _).mono ?_
  rintro e w ⟨rfl, hw⟩
  rw [HF.out, HS.out, hw]
  clear hw
  go_wp2_with fail
  refine (below_any _ _ _ hc (by omega)).mono ?_
  rintro e wc ⟨x, rfl, x0, x1, c0, b0⟩
  have hx := x1 (by omega)
  obtain ⟨X, hXe⟩ := Int.eq_ofNat_of_zero_le x0
  subst hXe
  have hX12 : X < 12 := by omega
  have s0 : w1.heap.size ≤ wc.heap.size := b0.size
  have cb0 := cursor_bd c0
  clear hc x0 x1 hx
  by_cases hsx : s < X
  · have hsi : (s : Int) < (X : Int) := by omega
    have hsd : decide ((s : Int) < (X : Int)) = true := decide_eq_true hsi
    have hsn : decide (s < X) = true := decide_eq_true hsx
    have own : (wc.alloc (.cells #[] 5)).ownsRow wc.heap.size 5 1 (.slice (some ⟨wc.heap.size, 0, none⟩) 0 0) 0 [] := World.ownsRow_lit wc #[] 0 (Nat.le_refl _) (by unfold maxLen; omega) rfl
    have c1 := cursor_alloc c0 (.cells #[] 5)
    have b1 : w1.grownBy (wc.alloc (.cells #[] 5)) (some g) := b0.trans (grown_alloc wc _ _)
    clear c0 b0
    go_wp2
    go_loopw [8, 9] (fun v i_ wr => ∃ (i : Nat) (l : List UInt8), i ≤ s ∧ i_ = .int .i64 i ∧ l.length = i ∧ wr.ownsRow wc.heap.size 5 1 v i (l.map cell) ∧ Cursor B wr g ∧ w1.grownBy wr (some g) ∧ wc.heap.size ≤ wr.heap.size) (fun _ i _ => s - (intOf i).toNat)
    case atStart => exact ⟨0, [], Nat.zero_le _, rfl, rfl, own, c1, b1, by simp⟩
    case round =>
      obtain ⟨i, l, hik, rfl, hll, ho, hc, hbr, hsz⟩ := hrel
      clear own c1 b1
      by_cases hlt : i < s
      · have hki : (i : Int) < (s : Int) := by omega
        have HLL : Hid _ := hll
        clear hll
        go_wp2_with fail
        refine (below_any _ _ _ hc (by omega)).mono ?_
        rintro e w3 ⟨z, rfl, z0, z1, c3, g3⟩
        have hz10 := z1 (by omega)
        have o3 := ho.kept g3 (own_ne5 ho (by omega))
        have b3 : w1.grownBy w3 (some g) := hbr.trans g3
        have s3 : wc.heap.size ≤ w3.heap.size := by have := g3.size; omega
        clear ho hc hbr g3 z1
        go_wp2_with fail
        refine (once_any _ _ _ c3 (by omega)).mono ?_
        rintro e w4 ⟨q, rfl, c4, g4⟩
        have o4 := o3.kept g4 (own_ne5 o3 (by omega))
        have b4 : w1.grownBy w4 (some g) := b3.trans g4
        have s4 : wc.heap.size ≤ w4.heap.size := by have := g4.size; omega
        clear o3 c3 b3 g4
        cases q
        · have HC : Hid _ := cell_of (48 + z) (by omega) (by omega)
          go_wp2_with (at_builtin; refine wpList_append_own _ rfl (.tmp 49) (.tmp 51) 22 rfl wc.heap.size 5 i0 (.int .u8 0) 1 1 Try.underlying22 hi hz0 hz1 hz2 rfl (by decide) _ _ _ rfl (o4.alloc _) ⟨w4.heap.size, 0, none⟩ 1 1 [.int .u8 (48 + z)] rfl rfl (cell_one_new _ _ _) (ints_oneCell .u8 [48 + z]) (by unfold maxLen; omega) (by omega) (by simp; omega) ?_; intro v' w9 ho9 hg9 hn9)
          have hb9 : w1.grownBy w9 (some g) := grown_far (b4.trans (grown_alloc w4 _ _)) hg9 (fun j hj => by have := (o4.lt j hj).1; omega)
          have hc9 : Cursor B w9 g := cursor_keep c4 (((Below.refl _ w4).alloc (by have := cursor_bd c4; omega) _).grown hg9 (by have := cursor_bd c4; simp; omega) (fun j hj => by have := (o4.lt j hj).1; omega))
          have hs9' : wc.heap.size ≤ w9.heap.size := by have := hg9.size; simp at this; omega
          clear hg9 hn9 o4 c4 b4
          go_wp2
          go_roundw
          case rel => exact ⟨i + 1, l ++ [UInt8.ofNat (48 + z).toNat], by omega, by go_num, by have := HLL.out; simp; omega, by rw [List.map_append, List.map_cons, List.map_nil, ← HC.out]; exact ho9, hc9, hb9, hs9'⟩
          case measure => simp [intOf]; omega
        · go_wp2_with fail
          refine (below_any _ _ _ c4 (by omega)).mono ?_
          rintro e w5 ⟨y, rfl, y0, y1, c5, g5⟩
          have hy95 := y1 (by omega)
          have o5 := o4.kept g5 (own_ne5 o4 (by omega))
          have b5 : w1.grownBy w5 (some g) := b4.trans g5
          have s5 : wc.heap.size ≤ w5.heap.size := by have := g5.size; omega
          clear o4 c4 b4 g5 y1
          have HC : Hid _ := cell_of (32 + y) (by omega) (by omega)
          go_wp2_with (at_builtin; refine wpList_append_own _ rfl (.tmp 49) (.tmp 51) 22 rfl wc.heap.size 5 i0 (.int .u8 0) 1 1 Try.underlying22 hi hz0 hz1 hz2 rfl (by decide) _ _ _ rfl (o5.alloc _) ⟨w5.heap.size, 0, none⟩ 1 1 [.int .u8 (32 + y)] rfl rfl (cell_one_new _ _ _) (ints_oneCell .u8 [32 + y]) (by unfold maxLen; omega) (by omega) (by simp; omega) ?_; intro v' w9 ho9 hg9 hn9)
          have hb9 : w1.grownBy w9 (some g) := grown_far (b5.trans (grown_alloc w5 _ _)) hg9 (fun j hj => by have := (o5.lt j hj).1; omega)
          have hc9 : Cursor B w9 g := cursor_keep c5 (((Below.refl _ w5).alloc (by have := cursor_bd c5; omega) _).grown hg9 (by have := cursor_bd c5; simp; omega) (fun j hj => by have := (o5.lt j hj).1; omega))
          have hs9' : wc.heap.size ≤ w9.heap.size := by have := hg9.size; simp at this; omega
          clear hg9 hn9 o5 c5 b5
          go_wp2
          go_roundw
          case rel => exact ⟨i + 1, l ++ [UInt8.ofNat (32 + y).toNat], by omega, by go_num, by have := HLL.out; simp; omega, by rw [List.map_append, List.map_cons, List.map_nil, ← HC.out]; exact ho9, hc9, hb9, hs9'⟩
          case measure => simp [intOf]; omega
      · have hkn : i = s := by omega
        have hki : ¬ (i : Int) < (s : Int) := by omega
        by_cases h0 : i = 0
        · have h0k : s = 0 := by omega
          have h0i : ¬ (0 : Int) < (s : Int) := by omega
          have h0d : decide ((0 : Int) < (s : Int)) = false := decide_eq_false h0i
          have h0n : decide (0 < s) = false := decide_eq_false (by omega)
          have ht := text_own ho
          have hl9 : l.length ≤ 999 := by omega
          clear ho hkn h0 h0k
          go_wp2
          go_ret
          exact ⟨l, rfl, hl9, hc, hbr⟩
        · have h0i : (0 : Int) < (s : Int) := by omega
          have h0d : decide ((0 : Int) < (s : Int)) = true := decide_eq_true h0i
          have h0n : decide (0 < s) = true := decide_eq_true (by omega)
          have hl9 : l.length ≤ 999 := by omega
          have hipos : 0 < i := by omega
          clear hkn h0
          go_wp2_with fail
          refine (once_any _ _ _ hc (by omega)).mono ?_
          rintro e w3 ⟨q, rfl, c3, g3⟩
          have o3 := ho.kept g3 (own_ne5 ho (by omega))
          have b3 : w1.grownBy w3 (some g) := hbr.trans g3
          have s3 : wc.heap.size ≤ w3.heap.size := by have := g3.size; omega
          clear ho hc hbr g3
          cases q
          · have ht := text_own o3
            clear o3
            go_wp2
            go_ret
            exact ⟨l, rfl, hl9, c3, b3⟩
          · go_wp2_with fail
            refine (pickInt_any _ _ _ [31, 127, 255] _ (cursor_alloc c3 _) (cursor_ne c3) (lit_cells w3 [31, 127, 255] _ rfl) (by decide) (by decide)).mono ?_
            rintro e w5 ⟨y, rfl, hy, c5, g5⟩
            have hyb : 0 ≤ y ∧ y ≤ 255 := by simp at hy; omega
            have oa := o3.alloc (.cells #[.int .i64 31, .int .i64 127, .int .i64 255] 3)
            have o5 := oa.kept g5 (own_ne5 oa (by omega))
            have b5 : w1.grownBy w5 (some g) := (b3.trans (grown_alloc w3 _ _)).trans g5
            have s5 : wc.heap.size ≤ w5.heap.size := by have := g5.size; simp only [World.size_alloc] at this; omega
            clear oa o3 c3 b3 g5 hy
            rcases o5.2 with ⟨hv, hz⟩ | ⟨gg, cap, cur, hv, hrest⟩
            · omega
            · subst hv
              have hgg : wc.heap.size ≤ gg := hrest.1
              clear hrest
              have c2 : ∃ v, w5.cell? ⟨gg, 0, none⟩ = some v := by rw [o5.cellAt 0 (by omega)]; exact ⟨_, List.getElem?_eq_getElem (by simp; omega)⟩
              obtain ⟨old, c2⟩ := c2
              have c3 : w5.frozen? ⟨gg, 0, none⟩ = false := o5.frozenAt 0
              have R := o5.stored 0 (.int .u8 y)
              rw [cell_of y hyb.1 hyb.2, map_cell_set, ← cell_of y hyb.1 hyb.2] at R
              have hb6 : w1.grownBy (w5.setCell ⟨gg, 0, none⟩ (.int .u8 y)) (some g) := grown_far b5 (grown_set w5 gg 0 _) (fun k hk => by cases hk; omega)
              have hc6 : Cursor B (w5.setCell ⟨gg, 0, none⟩ (.int .u8 y)) g := cursor_keep c5 ((Below.refl _ w5).setCell (by show B ≤ gg; omega) _)
              have ht := text_own R.1
              have hll2 : (l.set 0 (UInt8.ofNat y.toNat)).length ≤ 999 := by rw [List.length_set]; omega
              generalize l.set 0 (UInt8.ofNat y.toNat) = l2 at ht hll2
              have HB : Hid (w1.grownBy (w5.setCell ⟨gg, 0, none⟩ (.int .u8 y)) (some g)) := hb6
              have HC : Hid (Cursor B (w5.setCell ⟨gg, 0, none⟩ (.int .u8 y)) g) := hc6
              clear R o5 hb6 hc6 c5 b5
              go_wp2
              go_ret
              exact ⟨l2, rfl, hll2, HC.out, HB.out⟩
  · have hsi : ¬ (s : Int) < (X : Int) := by omega
    have hsd : decide ((s : Int) < (X : Int)) = false := decide_eq_false hsi
    have hsn : decide (s < X) = false := decide_eq_false hsx
    have own : (wc.alloc (.cells #[] 5)).ownsRow wc.heap.size 5 1 (.slice (some ⟨wc.heap.size, 0, none⟩) 0 0) 0 [] := World.ownsRow_lit wc #[] 0 (Nat.le_refl _) (by unfold maxLen; omega) rfl
    have c1 := cursor_alloc c0 (.cells #[] 5)
    have b1 : w1.grownBy (wc.alloc (.cells #[] 5)) (some g) := b0.trans (grown_alloc wc _ _)
    clear c0 b0
    go_wp2
    go_loopw [8, 9] (fun v i_ wr => ∃ (i : Nat) (l : List UInt8), i ≤ X ∧ i_ = .int .i64 i ∧ l.length = i ∧ wr.ownsRow wc.heap.size 5 1 v i (l.map cell) ∧ Cursor B wr g ∧ w1.grownBy wr (some g) ∧ wc.heap.size ≤ wr.heap.size) (fun _ i _ => X - (intOf i).toNat)
    case atStart => exact ⟨0, [], Nat.zero_le _, rfl, rfl, own, c1, b1, by simp⟩
    case round =>
      obtain ⟨i, l, hik, rfl, hll, ho, hc, hbr, hsz⟩ := hrel
      clear own c1 b1
      by_cases hlt : i < X
      · have hki : (i : Int) < (X : Int) := by omega
        have HLL : Hid _ := hll
        clear hll
        go_wp2_with fail
        refine (below_any _ _ _ hc (by omega)).mono ?_
        rintro e w3 ⟨z, rfl, z0, z1, c3, g3⟩
        have hz10 := z1 (by omega)
        have o3 := ho.kept g3 (own_ne5 ho (by omega))
        have b3 : w1.grownBy w3 (some g) := hbr.trans g3
        have s3 : wc.heap.size ≤ w3.heap.size := by have := g3.size; omega
        clear ho hc hbr g3 z1
        go_wp2_with fail
        refine (once_any _ _ _ c3 (by omega)).mono ?_
        rintro e w4 ⟨q, rfl, c4, g4⟩
        have o4 := o3.kept g4 (own_ne5 o3 (by omega))
        have b4 : w1.grownBy w4 (some g) := b3.trans g4
        have s4 : wc.heap.size ≤ w4.heap.size := by have := g4.size; omega
        clear o3 c3 b3 g4
        cases q
        · have HC : Hid _ := cell_of (48 + z) (by omega) (by omega)
          go_wp2_with (at_builtin; refine wpList_append_own _ rfl (.tmp 49) (.tmp 51) 22 rfl wc.heap.size 5 i0 (.int .u8 0) 1 1 Try.underlying22 hi hz0 hz1 hz2 rfl (by decide) _ _ _ rfl (o4.alloc _) ⟨w4.heap.size, 0, none⟩ 1 1 [.int .u8 (48 + z)] rfl rfl (cell_one_new _ _ _) (ints_oneCell .u8 [48 + z]) (by unfold maxLen; omega) (by omega) (by simp; omega) ?_; intro v' w9 ho9 hg9 hn9)
          have hb9 : w1.grownBy w9 (some g) := grown_far (b4.trans (grown_alloc w4 _ _)) hg9 (fun j hj => by have := (o4.lt j hj).1; omega)
          have hc9 : Cursor B w9 g := cursor_keep c4 (((Below.refl _ w4).alloc (by have := cursor_bd c4; omega) _).grown hg9 (by have := cursor_bd c4; simp; omega) (fun j hj => by have := (o4.lt j hj).1; omega))
          have hs9' : wc.heap.size ≤ w9.heap.size := by have := hg9.size; simp at this; omega
          clear hg9 hn9 o4 c4 b4
          go_wp2
          go_roundw
          case rel => exact ⟨i + 1, l ++ [UInt8.ofNat (48 + z).toNat], by omega, by go_num, by have := HLL.out; simp; omega, by rw [List.map_append, List.map_cons, List.map_nil, ← HC.out]; exact ho9, hc9, hb9, hs9'⟩
          case measure => simp [intOf]; omega
        · go_wp2_with fail
          refine (below_any _ _ _ c4 (by omega)).mono ?_
          rintro e w5 ⟨y, rfl, y0, y1, c5, g5⟩
          have hy95 := y1 (by omega)
          have o5 := o4.kept g5 (own_ne5 o4 (by omega))
          have b5 : w1.grownBy w5 (some g) := b4.trans g5
          have s5 : wc.heap.size ≤ w5.heap.size := by have := g5.size; omega
          clear o4 c4 b4 g5 y1
          have HC : Hid _ := cell_of (32 + y) (by omega) (by omega)
          go_wp2_with (at_builtin; refine wpList_append_own _ rfl (.tmp 49) (.tmp 51) 22 rfl wc.heap.size 5 i0 (.int .u8 0) 1 1 Try.underlying22 hi hz0 hz1 hz2 rfl (by decide) _ _ _ rfl (o5.alloc _) ⟨w5.heap.size, 0, none⟩ 1 1 [.int .u8 (32 + y)] rfl rfl (cell_one_new _ _ _) (ints_oneCell .u8 [32 + y]) (by unfold maxLen; omega) (by omega) (by simp; omega) ?_; intro v' w9 ho9 hg9 hn9)
          have hb9 : w1.grownBy w9 (some g) := grown_far (b5.trans (grown_alloc w5 _ _)) hg9 (fun j hj => by have := (o5.lt j hj).1; omega)
          have hc9 : Cursor B w9 g := cursor_keep c5 (((Below.refl _ w5).alloc (by have := cursor_bd c5; omega) _).grown hg9 (by have := cursor_bd c5; simp; omega) (fun j hj => by have := (o5.lt j hj).1; omega))
          have hs9' : wc.heap.size ≤ w9.heap.size := by have := hg9.size; simp at this; omega
          clear hg9 hn9 o5 c5 b5
          go_wp2
          go_roundw
          case rel => exact ⟨i + 1, l ++ [UInt8.ofNat (32 + y).toNat], by omega, by go_num, by have := HLL.out; simp; omega, by rw [List.map_append, List.map_cons, List.map_nil, ← HC.out]; exact ho9, hc9, hb9, hs9'⟩
          case measure => simp [intOf]; omega
      · have hkn : i = X := by omega
        have hki : ¬ (i : Int) < (X : Int) := by omega
        by_cases h0 : i = 0
        · have h0k : X = 0 := by omega
          have h0i : ¬ (0 : Int) < (X : Int) := by omega
          have h0d : decide ((0 : Int) < (X : Int)) = false := decide_eq_false h0i
          have h0n : decide (0 < X) = false := decide_eq_false (by omega)
          have ht := text_own ho
          have hl9 : l.length ≤ 999 := by omega
          clear ho hkn h0 h0k
          go_wp2
          go_ret
          exact ⟨l, rfl, hl9, hc, hbr⟩
        · have h0i : (0 : Int) < (X : Int) := by omega
          have h0d : decide ((0 : Int) < (X : Int)) = true := decide_eq_true h0i
          have h0n : decide (0 < X) = true := decide_eq_true (by omega)
          have hl9 : l.length ≤ 999 := by omega
          have hipos : 0 < i := by omega
          clear hkn h0
          go_wp2_with fail
          refine (once_any _ _ _ hc (by omega)).mono ?_
          rintro e w3 ⟨q, rfl, c3, g3⟩
          have o3 := ho.kept g3 (own_ne5 ho (by omega))
          have b3 : w1.grownBy w3 (some g) := hbr.trans g3
          have s3 : wc.heap.size ≤ w3.heap.size := by have := g3.size; omega
          clear ho hc hbr g3
          cases q
          · have ht := text_own o3
            clear o3
            go_wp2
            go_ret
            exact ⟨l, rfl, hl9, c3, b3⟩
          · go_wp2_with fail
            refine (pickInt_any _ _ _ [31, 127, 255] _ (cursor_alloc c3 _) (cursor_ne c3) (lit_cells w3 [31, 127, 255] _ rfl) (by decide) (by decide)).mono ?_
            rintro e w5 ⟨y, rfl, hy, c5, g5⟩
            have hyb : 0 ≤ y ∧ y ≤ 255 := by simp at hy; omega
            have oa := o3.alloc (.cells #[.int .i64 31, .int .i64 127, .int .i64 255] 3)
            have o5 := oa.kept g5 (own_ne5 oa (by omega))
            have b5 : w1.grownBy w5 (some g) := (b3.trans (grown_alloc w3 _ _)).trans g5
            have s5 : wc.heap.size ≤ w5.heap.size := by have := g5.size; simp only [World.size_alloc] at this; omega
            clear oa o3 c3 b3 g5 hy
            rcases o5.2 with ⟨hv, hz⟩ | ⟨gg, cap, cur, hv, hrest⟩
            · omega
            · subst hv
              have hgg : wc.heap.size ≤ gg := hrest.1
              clear hrest
              have c2 : ∃ v, w5.cell? ⟨gg, 0, none⟩ = some v := by rw [o5.cellAt 0 (by omega)]; exact ⟨_, List.getElem?_eq_getElem (by simp; omega)⟩
              obtain ⟨old, c2⟩ := c2
              have c3 : w5.frozen? ⟨gg, 0, none⟩ = false := o5.frozenAt 0
              have R := o5.stored 0 (.int .u8 y)
              rw [cell_of y hyb.1 hyb.2, map_cell_set, ← cell_of y hyb.1 hyb.2] at R
              have hb6 : w1.grownBy (w5.setCell ⟨gg, 0, none⟩ (.int .u8 y)) (some g) := grown_far b5 (grown_set w5 gg 0 _) (fun k hk => by cases hk; omega)
              have hc6 : Cursor B (w5.setCell ⟨gg, 0, none⟩ (.int .u8 y)) g := cursor_keep c5 ((Below.refl _ w5).setCell (by show B ≤ gg; omega) _)
              have ht := text_own R.1
              have hll2 : (l.set 0 (UInt8.ofNat y.toNat)).length ≤ 999 := by rw [List.length_set]; omega
              generalize l.set 0 (UInt8.ofNat y.toNat) = l2 at ht hll2
              have HB : Hid (w1.grownBy (w5.setCell ⟨gg, 0, none⟩ (.int .u8 y)) (some g)) := hb6
              have HC : Hid (Cursor B (w5.setCell ⟨gg, 0, none⟩ (.int .u8 y)) g) := hc6
              clear R o5 hb6 hc6 c5 b5
              go_wp2
              go_ret
              exact ⟨l2, rfl, hll2, HC.out, HB.out⟩

set_option maxRecDepth 100000 in
set_option maxHeartbeats 6400000 in
theorem dataG_5 {B : Nat} (g s : Nat) (n : Int) (w1 : World) (hc : Cursor B w1 g) (hs9 : s ≤ 999) (hf : fK n = 5) (hs : fS n = s) :
    Calls Try.prog 16 #[.pointer (some ⟨g, 0, none⟩), .int .i64 n] w1 fun e w' => ∃ l : List UInt8, e = .returned (.string ⟨l.toArray⟩) ∧ l.length ≤ 999 ∧ Cursor B w' g ∧ w1.grownBy w' (some g) := by
  obtain ⟨i0, hi, hz0, hz1, hz2⟩ := info_parts info5
  have cb := cursor_bd hc
  have HS : Hid _ := hs
  have HF : Hid _ := hf
  clear hs hf
  go_enter Try.func16, Try.ntmps16
  go_wp2_with fail
  refine (l04Form_any _ _).mono ?_
  rintro e w ⟨rfl, hw⟩
  rw [HF.out, HS.out, hw]
  clear hw
  go_wp2_with fail
  refine (below_any _ _ _ hc (by omega)).mono ?_
  rintro e wc ⟨x, rfl, x0, x1, c0, b0⟩
  have hx := x1 (by omega)
  obtain ⟨X, hXe⟩ := Int.eq_ofNat_of_zero_le x0
  subst hXe
  have hX12 : X < 12 := by omega
  have s0 : w1.heap.size ≤ wc.heap.size := b0.size
  have cb0 := cursor_bd c0
  clear hc x0 x1 hx
  by_cases hsx : s < X
  · have hsi : (s : Int) < (X : Int) := by omega
    have hsd : decide ((s : Int) < (X : Int)) = true := decide_eq_true hsi
    have hsn : decide (s < X) = true := decide_eq_true hsx
    have own : (wc.alloc (.cells #[] 5)).ownsRow wc.heap.size 5 1 (.slice (some ⟨wc.heap.size, 0, none⟩) 0 0) 0 [] := World.ownsRow_lit wc #[] 0 (Nat.le_refl _) (by unfold maxLen; omega) rfl
    have c1 := cursor_alloc c0 (.cells #[] 5)
    have b1 : w1.grownBy (wc.alloc (.cells #[] 5)) (some g) := b0.trans (grown_alloc wc _ _)
    clear c0 b0
    go_wp2
    go_loopw [8, 9] (fun v i_ wr => ∃ (i : Nat) (l : List UInt8), i ≤ s ∧ i_ = .int .i64 i ∧ l.length = i ∧ wr.ownsRow wc.heap.size 5 1 v i (l.map cell) ∧ Cursor B wr g ∧ w1.grownBy wr (some g) ∧ wc.heap.size ≤ wr.heap.size) (fun _ i _ => s - (intOf i).toNat)
    case atStart => exact ⟨0, [], Nat.zero_le _, rfl, rfl, own, c1, b1, by simp⟩
    case round =>
      obtain ⟨i, l, hik, rfl, hll, ho, hc, hbr, hsz⟩ := hrel
      clear own c1 b1
      by_cases hlt : i < s
      · have hki : (i : Int) < (s : Int) := by omega
        have HLL : Hid _ := hll
        clear hll
        go_wp2_with fail
        refine (below_any _ _ _ hc (by omega)).mono ?_
        rintro e w3 ⟨z, rfl, z0, z1, c3, g3⟩
        have hz10 := z1 (by omega)
        have o3 := ho.kept g3 (own_ne5 ho (by omega))
        have b3 : w1.grownBy w3 (some g) := hbr.trans g3
        have s3 : wc.heap.size ≤ w3.heap.size := by have := g3.size; omega
        clear ho hc hbr g3 z1
        go_wp2_with fail
        refine (once_any _ _ _ c3 (by omega)).mono ?_
        rintro e w4 ⟨q, rfl, c4, g4⟩
        have o4 := o3.kept g4 (own_ne5 o3 (by omega))
        have b4 : w1.grownBy w4 (some g) := b3.trans g4
        have s4 : wc.heap.size ≤ w4.heap.size := by have := g4.size; omega
        clear o3 c3 b3 g4
        cases q
        · have HC : Hid _ := cell_of (48 + z) (by omega) (by omega)
          go_wp2_with (at_builtin; refine wpList_append_own _ rfl (.tmp 49) (.tmp 51) 22 rfl wc.heap.size 5 i0 (.int .u8 0) 1 1 Try.underlying22 hi hz0 hz1 hz2 rfl (by decide) _ _ _ rfl (o4.alloc _) ⟨w4.heap.size, 0, none⟩ 1 1 [.int .u8 (48 + z)] rfl rfl (cell_one_new _ _ _) (ints_oneCell .u8 [48 + z]) (by unfold maxLen; omega) (by omega) (by simp; omega) ?_; intro v' w9 ho9 hg9 hn9)
          have hb9 : w1.grownBy w9 (some g) := grown_far (b4.trans (grown_alloc w4 _ _)) hg9 (fun j hj => by have := (o4.lt j hj).1; omega)
          have hc9 : Cursor B w9 g := cursor_keep c4 (((Below.refl _ w4).alloc (by have := cursor_bd c4; omega) _).grown hg9 (by have := cursor_bd c4; simp; omega) (fun j hj => by have := (o4.lt j hj).1; omega))
          have hs9' : wc.heap.size ≤ w9.heap.size := by have := hg9.size; simp at this; omega
          clear hg9 hn9 o4 c4 b4
          go_wp2
          go_roundw
          case rel => exact ⟨i + 1, l ++ [UInt8.ofNat (48 + z).toNat], by omega, by go_num, by have := HLL.out; simp; omega, by rw [List.map_append, List.map_cons, List.map_nil, ← HC.out]; exact ho9, hc9, hb9, hs9'⟩
          case measure => simp [intOf]; omega
        · go_wp2_with fail
          refine (below_any _ _ _ c4 (by omega)).mono ?_
          rintro e w5 ⟨y, rfl, y0, y1, c5, g5⟩
          have hy95 := y1 (by omega)
          have o5 := o4.kept g5 (own_ne5 o4 (by omega))
          have b5 : w1.grownBy w5 (some g) := b4.trans g5
          have s5 : wc.heap.size ≤ w5.heap.size := by have := g5.size; omega
          clear o4 c4 b4 g5 y1
          have HC : Hid _ := cell_of (32 + y) (by omega) (by omega)
          go_wp2_with (at_builtin; refine wpList_append_own _ rfl (.tmp 49) (.tmp 51) 22 rfl wc.heap.size 5 i0 (.int .u8 0) 1 1 Try.underlying22 hi hz0 hz1 hz2 rfl (by decide) _ _ _ rfl (o5.alloc _) ⟨w5.heap.size, 0, none⟩ 1 1 [.int .u8 (32 + y)] rfl rfl (cell_one_new _ _ _) (ints_oneCell .u8 [32 + y]) (by unfold maxLen; omega) (by omega) (by simp; omega) ?_; intro v' w9 ho9 hg9 hn9)
          have hb9 : w1.grownBy w9 (some g) := grown_far (b5.trans (grown_alloc w5 _ _)) hg9 (fun j hj => by have := (o5.lt j hj).1; omega)
          have hc9 : Cursor B w9 g := cursor_keep c5 (((Below.refl _ w5).alloc (by have := cursor_bd c5; omega) _).grown hg9 (by have := cursor_bd c5; simp; omega) (fun j hj => by have := (o5.lt j hj).1; omega))
          have hs9' : wc.heap.size ≤ w9.heap.size := by have := hg9.size; simp at this; omega
          clear hg9 hn9 o5 c5 b5
          go_wp2
          go_roundw
          case rel => exact ⟨i + 1, l ++ [UInt8.ofNat (32 + y).toNat], by omega, by go_num, by have := HLL.out; simp; omega, by rw [List.map_append, List.map_cons, List.map_nil, ← HC.out]; exact ho9, hc9, hb9, hs9'⟩
          case measure => simp [intOf]; omega
      · have hkn : i = s := by omega
        have hki : ¬ (i : Int) < (s : Int) := by omega
        by_cases h0 : i = 0
        · have h0k : s = 0 := by omega
          have h0i : ¬ (0 : Int) < (s : Int) := by omega
          have h0d : decide ((0 : Int) < (s : Int)) = false := decide_eq_false h0i
          have h0n : decide (0 < s) = false := decide_eq_false (by omega)
          have ht := text_own ho
          have hl9 : l.length ≤ 999 := by omega
          clear ho hkn h0 h0k
          go_wp2
          go_ret
          exact ⟨l, rfl, hl9, hc, hbr⟩
        · have h0i : (0 : Int) < (s : Int) := by omega
          have h0d : decide ((0 : Int) < (s : Int)) = true := decide_eq_true h0i
          have h0n : decide (0 < s) = true := decide_eq_true (by omega)
          have hl9 : l.length ≤ 999 := by omega
          have hipos : 0 < i := by omega
          clear hkn h0
          go_wp2_with fail
          refine (once_any _ _ _ hc (by omega)).mono ?_
          rintro e w3 ⟨q, rfl, c3, g3⟩
          have o3 := ho.kept g3 (own_ne5 ho (by omega))
          have b3 : w1.grownBy w3 (some g) := hbr.trans g3
          have s3 : wc.heap.size ≤ w3.heap.size := by have := g3.size; omega
          clear ho hc hbr g3
          cases q
          · have ht := text_own o3
            clear o3
            go_wp2
            go_ret
            exact ⟨l, rfl, hl9, c3, b3⟩
          · go_wp2_with fail
            refine (pickInt_any _ _ _ [31, 127, 255] _ (cursor_alloc c3 _) (cursor_ne c3) (lit_cells w3 [31, 127, 255] _ rfl) (by decide) (by decide)).mono ?_
            rintro e w5 ⟨y, rfl, hy, c5, g5⟩
            have hyb : 0 ≤ y ∧ y ≤ 255 := by simp at hy; omega
            have oa := o3.alloc (.cells #[.int .i64 31, .int .i64 127, .int .i64 255] 3)
            have o5 := oa.kept g5 (own_ne5 oa (by omega))
            have b5 : w1.grownBy w5 (some g) := (b3.trans (grown_alloc w3 _ _)).trans g5
            have s5 : wc.heap.size ≤ w5.heap.size := by have := g5.size; simp only [World.size_alloc] at this; omega
            clear oa o3 c3 b3 g5 hy
            rcases o5.2 with ⟨hv, hz⟩ | ⟨gg, cap, cur, hv, hrest⟩
            · omega
            · subst hv
              have hgg : wc.heap.size ≤ gg := hrest.1
              clear hrest
              have c2 : ∃ v, w5.cell? ⟨gg, 0, none⟩ = some v := by rw [o5.cellAt 0 (by omega)]; exact ⟨_, List.getElem?_eq_getElem (by simp; omega)⟩
              obtain ⟨old, c2⟩ := c2
              have c3 : w5.frozen? ⟨gg, 0, none⟩ = false := o5.frozenAt 0
              have R := o5.stored 0 (.int .u8 y)
              rw [cell_of y hyb.1 hyb.2, map_cell_set, ← cell_of y hyb.1 hyb.2] at R
              have hb6 : w1.grownBy (w5.setCell ⟨gg, 0, none⟩ (.int .u8 y)) (some g) := grown_far b5 (grown_set w5 gg 0 _) (fun k hk => by cases hk; omega)
              have hc6 : Cursor B (w5.setCell ⟨gg, 0, none⟩ (.int .u8 y)) g := cursor_keep c5 ((Below.refl _ w5).setCell (by show B ≤ gg; omega) _)
              have ht := text_own R.1
              have hll2 : (l.set 0 (UInt8.ofNat y.toNat)).length ≤ 999 := by rw [List.length_set]; omega
              generalize l.set 0 (UInt8.ofNat y.toNat) = l2 at ht hll2
              have HB : Hid (w1.grownBy (w5.setCell ⟨gg, 0, none⟩ (.int .u8 y)) (some g)) := hb6
              have HC : Hid (Cursor B (w5.setCell ⟨gg, 0, none⟩ (.int .u8 y)) g) := hc6
              clear R o5 hb6 hc6 c5 b5
              go_wp2
              go_ret
              exact ⟨l2, rfl, hll2, HC.out, HB.out⟩
  · have hsi : ¬ (s : Int) < (X : Int) := by omega
    have hsd : decide ((s : Int) < (X : Int)) = false := decide_eq_false hsi
    have hsn : decide (s < X) = false := decide_eq_false hsx
    have own : (wc.alloc (.cells #[] 5)).ownsRow wc.heap.size 5 1 (.slice (some ⟨wc.heap.size, 0, none⟩) 0 0) 0 [] := World.ownsRow_lit wc #[] 0 (Nat.le_refl _) (by unfold maxLen; omega) rfl
    have c1 := cursor_alloc c0 (.cells #[] 5)
    have b1 : w1.grownBy (wc.alloc (.cells #[] 5)) (some g) := b0.trans (grown_alloc wc _ _)
    clear c0 b0
    go_wp2
    go_loopw [8, 9] (fun v i_ wr => ∃ (i : Nat) (l : List UInt8), i ≤ X ∧ i_ = .int .i64 i ∧ l.length = i ∧ wr.ownsRow wc.heap.size 5 1 v i (l.map cell) ∧ Cursor B wr g ∧ w1.grownBy wr (some g) ∧ wc.heap.size ≤ wr.heap.size) (fun _ i _ => X - (intOf i).toNat)
    case atStart => exact ⟨0, [], Nat.zero_le _, rfl, rfl, own, c1, b1, by simp⟩
    case round =>
      obtain ⟨i, l, hik, rfl, hll, ho, hc, hbr, hsz⟩ := hrel
      clear own c1 b1
      by_cases hlt : i < X
      · have hki : (i : Int) < (X : Int) := by omega
        have HLL : Hid _ := hll
        clear hll
        go_wp2_with fail
        refine (below_any _ _ _ hc (by omega)).mono ?_
        rintro e w3 ⟨z, rfl, z0, z1, c3, g3⟩
        have hz10 := z1 (by omega)
        have o3 := ho.kept g3 (own_ne5 ho (by omega))
        have b3 : w1.grownBy w3 (some g) := hbr.trans g3
        have s3 : wc.heap.size ≤ w3.heap.size := by have := g3.size; omega
        clear ho hc hbr g3 z1
        go_wp2_with fail
        refine (once_any _ _ _ c3 (by omega)).mono ?_
        rintro e w4 ⟨q, rfl, c4, g4⟩
        have o4 := o3.kept g4 (own_ne5 o3 (by omega))
        have b4 : w1.grownBy w4 (some g) := b3.trans g4
        have s4 : wc.heap.size ≤ w4.heap.size := by have := g4.size; omega
        clear o3 c3 b3 g4
        cases q
        · have HC : Hid _ := cell_of (48 + z) (by omega) (by omega)
          go_wp2_with (at_builtin; refine wpList_append_own _ rfl (.tmp 49) (.tmp 51) 22 rfl wc.heap.size 5 i0 (.int .u8 0) 1 1 Try.underlying22 hi hz0 hz1 hz2 rfl (by decide) _ _ _ rfl (o4.alloc _) ⟨w4.heap.size, 0, none⟩ 1 1 [.int .u8 (48 + z)] rfl rfl (cell_one_new _ _ _) (ints_oneCell .u8 [48 + z]) (by unfold maxLen; omega) (by omega) (by simp; omega) ?_; intro v' w9 ho9 hg9 hn9)
          have hb9 : w1.grownBy w9 (some g) := grown_far (b4.trans (grown_alloc w4 _ _)) hg9 (fun j hj => by have := (o4.lt j hj).1; omega)
          have hc9 : Cursor B w9 g := cursor_keep c4 (((Below.refl _ w4).alloc (by have := cursor_bd c4; omega) _).grown hg9 (by have := cursor_bd c4; simp; omega) (fun j hj => by have := (o4.lt j hj).1; omega))
          have hs9' : wc.heap.size ≤ w9.heap.size := by have := hg9.size; simp at this; omega
          clear hg9 hn9 o4 c4 b4
          go_wp2
          go_roundw
          case rel => exact ⟨i + 1, l ++ [UInt8.ofNat (48 + z).toNat], by omega, by go_num, by have := HLL.out; simp; omega, by rw [List.map_append, List.map_cons, List.map_nil, ← HC.out]; exact ho9, hc9, hb9, hs9'⟩
          case measure => simp [intOf]; omega
        · go_wp2_with fail
          refine (below_any _ _ _ c4 (by omega)).mono ?_
          rintro e w5 ⟨y, rfl, y0, y1, c5, g5⟩
          have hy95 := y1 (by omega)
          have o5 := o4.kept g5 (own_ne5 o4 (by omega))
          have b5 : w1.grownBy w5 (some g) := b4.trans g5
          have s5 : wc.heap.size ≤ w5.heap.size := by have := g5.size; omega
          clear o4 c4 b4 g5 y1
          have HC : Hid _ := cell_of (32 + y) (by omega) (by omega)
          go_wp2_with (at_builtin; refine wpList_append_own _ rfl (.tmp 49) (.tmp 51) 22 rfl wc.heap.size 5 i0 (.int .u8 0) 1 1 Try.underlying22 hi hz0 hz1 hz2 rfl (by decide) _ _ _ rfl (o5.alloc _) ⟨w5.heap.size, 0, none⟩ 1 1 [.int .u8 (32 + y)] rfl rfl (cell_one_new _ _ _) (ints_oneCell .u8 [32 + y]) (by unfold maxLen; omega) (by omega) (by simp; omega) ?_; intro v' w9 ho9 hg9 hn9)
          have hb9 : w1.grownBy w9 (some g) := grown_far (b5.trans (grown_alloc w5 _ _)) hg9 (fun j hj => by have := (o5.lt j hj).1; omega)
          have hc9 : Cursor B w9 g := cursor_keep c5 (((Below.refl _ w5).alloc (by have := cursor_bd c5; omega) _).grown hg9 (by have := cursor_bd c5; simp; omega) (fun j hj => by have := (o5.lt j hj).1; omega))
          have hs9' : wc.heap.size ≤ w9.heap.size := by have := hg9.size; simp at this; omega
          clear hg9 hn9 o5 c5 b5
          go_wp2
          go_roundw
          case rel => exact ⟨i + 1, l ++ [UInt8.ofNat (32 + y).toNat], by omega, by go_num, by have := HLL.out; simp; omega, by rw [List.map_append, List.map_cons, List.map_nil, ← HC.out]; exact ho9, hc9, hb9, hs9'⟩
          case measure => simp [intOf]; omega
      · have hkn : i = X := by omega
        have hki : ¬ (i : Int) < (X : Int) := by omega
        by_cases h0 : i = 0
        · have h0k : X = 0 := by omega
          have h0i : ¬ (0 : Int) < (X : Int) := by omega
          have h0d : decide ((0 : Int) < (X : Int)) = false := decide_eq_false h0i
          have h0n : decide (0 < X) = false := decide_eq_false (by omega)
          have ht := text_own ho
          have hl9 : l.length ≤ 999 := by omega
          clear ho hkn h0 h0k
          go_wp2
          go_ret
          exact ⟨l, rfl, hl9, hc, hbr⟩
        · have h0i : (0 : Int) < (X : Int) := by omega
          have h0d : decide ((0 : Int) < (X : Int)) = true := decide_eq_true h0i
          have h0n : decide (0 < X) = true := decide_eq_true (by omega)
          have hl9 : l.length ≤ 999 := by omega
          have hipos : 0 < i := by omega
          clear hkn h0
          go_wp2_with fail
          refine (once_any _ _ _ hc (by omega)).mono ?_
          rintro e w3 ⟨q, rfl, c3, g3⟩
          have o3 := ho.kept g3 (own_ne5 ho (by omega))
          have b3 : w1.grownBy w3 (some g) := hbr.trans g3
          have s3 : wc.heap.size ≤ w3.heap.size := by have := g3.size; omega
          clear ho hc hbr g3
          cases q
          · have ht := text_own o3
            clear o3
            go_wp2
            go_ret
            exact ⟨l, rfl, hl9, c3, b3⟩
          · go_wp2_with fail
            refine (pickInt_any _ _ _ [31, 127, 255] _ (cursor_alloc c3 _) (cursor_ne c3) (lit_cells w3 [31, 127, 255] _ rfl) (by decide) (by decide)).mono ?_
            rintro e w5 ⟨y, rfl, hy, c5, g5⟩
            have hyb : 0 ≤ y ∧ y ≤ 255 := by simp at hy; omega
            have oa := o3.alloc (.cells #[.int .i64 31, .int .i64 127, .int .i64 255] 3)
            have o5 := oa.kept g5 (own_ne5 oa (by omega))
            have b5 : w1.grownBy w5 (some g) := (b3.trans (grown_alloc w3 _ _)).trans g5
            have s5 : wc.heap.size ≤ w5.heap.size := by have := g5.size; simp only [World.size_alloc] at this; omega
            clear oa o3 c3 b3 g5 hy
            rcases o5.2 with ⟨hv, hz⟩ | ⟨gg, cap, cur, hv, hrest⟩
            · omega
            · subst hv
              have hgg : wc.heap.size ≤ gg := hrest.1
              clear hrest
              have c2 : ∃ v, w5.cell? ⟨gg, 0, none⟩ = some v := by rw [o5.cellAt 0 (by omega)]; exact ⟨_, List.getElem?_eq_getElem (by simp; omega)⟩
              obtain ⟨old, c2⟩ := c2
              have c3 : w5.frozen? ⟨gg, 0, none⟩ = false := o5.frozenAt 0
              have R := o5.stored 0 (.int .u8 y)
              rw [cell_of y hyb.1 hyb.2, map_cell_set, ← cell_of y hyb.1 hyb.2] at R
              have hb6 : w1.grownBy (w5.setCell ⟨gg, 0, none⟩ (.int .u8 y)) (some g) := grown_far b5 (grown_set w5 gg 0 _) (fun k hk => by cases hk; omega)
              have hc6 : Cursor B (w5.setCell ⟨gg, 0, none⟩ (.int .u8 y)) g := cursor_keep c5 ((Below.refl _ w5).setCell (by show B ≤ gg; omega) _)
              have ht := text_own R.1
              have hll2 : (l.set 0 (UInt8.ofNat y.toNat)).length ≤ 999 := by rw [List.length_set]; omega
              generalize l.set 0 (UInt8.ofNat y.toNat) = l2 at ht hll2
              have HB : Hid (w1.grownBy (w5.setCell ⟨gg, 0, none⟩ (.int .u8 y)) (some g)) := hb6
              have HC : Hid (Cursor B (w5.setCell ⟨gg, 0, none⟩ (.int .u8 y)) g) := hc6
              clear R o5 hb6 hc6 c5 b5
              go_wp2
              go_ret
              exact ⟨l2, rfl, hll2, HC.out, HB.out⟩

theorem dataG_any {B : Nat} (g : Nat) (n : Int) (w1 : World) (hc : Cursor B w1 g) (hn : n ∈ knowns) :
    Calls Try.prog 16 #[.pointer (some ⟨g, 0, none⟩), .int .i64 n] w1 fun e w' => ∃ l : List UInt8, e = .returned (.string ⟨l.toArray⟩) ∧ l.length ≤ 999 ∧ Cursor B w' g ∧ w1.grownBy w' (some g) := by
  have hk := known_K hn
  obtain ⟨s, hs⟩ := Int.eq_ofNat_of_zero_le hk.2.1
  have hs9 : s ≤ 999 := by omega
  rcases hk.1 with h | h | h | h | h
  · exact dataG_1 g s n w1 hc hs9 h hs
  · exact dataG_2 g s n w1 hc hs9 h hs
  · exact dataG_3 g s n w1 hc hs9 h hs
  · exact dataG_4 g s n w1 hc hs9 h hs
  · exact dataG_5 g s n w1 hc hs9 h hs

end Go.Proofs.Ytggaadbcifbdeaa
