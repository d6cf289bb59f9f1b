/- What is drawn as a text: so many bytes, whatever the bytes of the draw. -/
import Derived.Test.YtiiechnbionhnaaDrawn
import Derived.Test.YtiiechnbionhnaaFBytes
namespace Go.Proofs.Ytiiechnbionhnaa
open Go.RowKit

theorem own_ne5 {w : World} {base g n : Nat} {v : Value} {xs : List Value} (h : w.ownsRow base 5 1 v n xs) (hg : g < base) : v.ownBlock = none ∨ v.ownBlock ≠ some g := by
  right; intro e; have := (h.lt g e).1; omega
theorem cell_of (z : Int) (h0 : 0 ≤ z) (h1 : z ≤ 255) : Value.int .u8 z = cell (UInt8.ofNat z.toNat) := by
  unfold cell; rw [UInt8.toNat_ofNat']; congr 1; omega
theorem map_cell_set (l : List UInt8) (j : Nat) (c : UInt8) : (l.map cell).set j (cell c) = (l.set j c).map cell := by rw [List.map_set]

set_option maxHeartbeats 1600000 in
theorem textD_any {B : Nat} (g n : Nat) (w : World) (hc : Cursor B w g) (hn : n ≤ 2000) :
    Calls Try.prog 45 #[.pointer (some ⟨g, 0, none⟩), .int .i64 n] w fun e w' => ∃ l : List UInt8, e = .returned (.string ⟨l.toArray⟩) ∧ l.length = n ∧ Cursor B w' g ∧ Below g w w' ∧ w.heap.size ≤ w'.heap.size := by
  obtain ⟨i0, hi, hz0, hz1, hz2⟩ := info_parts info5
  have cb := cursor_bd hc
  have own : (w.alloc (.cells #[] 5)).ownsRow w.heap.size 5 1 (.slice (some ⟨w.heap.size, 0, none⟩) 0 0) 0 [] := World.ownsRow_lit w #[] 0 (Nat.le_refl _) (by unfold maxLen; omega) rfl
  have c0 := cursor_alloc hc (.cells #[] 5)
  have b0 : Below g w (w.alloc (.cells #[] 5)) := (Below.refl g w).alloc (by omega) _
  clear hc
  go_enter Try.func45, Try.ntmps45
  go_wp2
  go_loopw [5, 6] (fun v i wr => ∃ (k : Nat) (l : List UInt8), k ≤ n ∧ i = .int .i64 k ∧ l.length = k ∧ wr.ownsRow w.heap.size 5 1 v k (l.map cell) ∧ Cursor B wr g ∧ Below g w wr ∧ w.heap.size ≤ wr.heap.size) (fun _ i _ => n - (intOf i).toNat)
  case atStart => exact ⟨0, [], Nat.zero_le _, rfl, rfl, own, c0, b0, by simp⟩
  case round =>
    obtain ⟨k, l, hk, rfl, hll, ho, hc, hbr, hsz⟩ := hrel
    clear own c0 b0
    by_cases hlt : k < n
    · have hki : (k : Int) < (n : Int) := by omega
      have HLL : Hid _ := hll
      clear hll
      go_wp2_with fail
      refine (below_any _ _ _ hc (by omega)).mono ?_
      rintro e w3 ⟨z, rfl, z0, z1, c3, g3⟩
      have hz10 := z1 (by omega)
      have o3 := ho.kept g3 (own_ne5 ho (by omega))
      have b3 : Below g w w3 := hbr.grown g3 (by omega) (fun k hk => by cases hk; exact Nat.le_refl _)
      have s3 : w.heap.size ≤ w3.heap.size := by have := g3.size; omega
      have HC : Hid _ := cell_of (48 + z) (by omega) (by omega)
      clear ho hc hbr g3 z1
      go_wp2_with (at_builtin; refine wpList_append_own _ rfl (.tmp 13) (.tmp 18) 32 rfl w.heap.size 5 i0 (.int .u8 0) 1 1 Try.underlying32 hi hz0 hz1 hz2 rfl (by decide) _ _ _ rfl (o3.alloc _) ⟨w3.heap.size, 0, none⟩ 1 1 [.int .u8 (48 + z)] rfl rfl (cell_one_new _ _ _) (ints_oneCell .u8 [48 + z]) (by unfold maxLen; omega) (by omega) (by simp; omega) ?_; intro v' w4 ho4 hg4 hn4)
      have hb4 : Below g w w4 := (b3.alloc (by omega) _).grown hg4 (by simp; omega) (fun j hj => by have := (o3.lt j hj).1; omega)
      have hc4 : Cursor B w4 g := cursor_keep c3 (((Below.refl _ w3).alloc (by have := cursor_bd c3; omega) _).grown hg4 (by have := cursor_bd c3; simp; omega) (fun j hj => by have := (o3.lt j hj).1; omega))
      have hs4 : w.heap.size ≤ w4.heap.size := by have := hg4.size; simp at this; omega
      clear hg4 hn4 o3 c3 b3
      go_wp2
      go_roundw
      case rel => exact ⟨k + 1, l ++ [UInt8.ofNat (48 + z).toNat], by omega, by go_num, by have := HLL.out; simp; omega, by rw [List.map_append, List.map_cons, List.map_nil, ← HC.out]; exact ho4, hc4, hb4, hs4⟩
      case measure => simp [intOf]; omega
    · have hkn : k = n := by omega
      subst hkn
      have hki : ¬ (k : Int) < (k : Int) := by omega
      by_cases h0 : k = 0
      · subst h0
        have ht := text_own ho
        clear ho
        go_wp2
        go_ret
        exact ⟨l, rfl, by first | exact hll | simpa using hll, hc, hbr, hsz⟩
      · have h0i : (0 : Int) < (k : Int) := by omega
        go_wp2_with fail
        refine (once_any _ _ _ hc (by omega)).mono ?_
        rintro e w3 ⟨q, rfl, c3, g3⟩
        have o3 := ho.kept g3 (own_ne5 ho (by omega))
        have b3 : Below g w w3 := hbr.grown g3 (by omega) (fun k hk => by cases hk; exact Nat.le_refl _)
        have s3 : w.heap.size ≤ w3.heap.size := by have := g3.size; omega
        clear ho hc hbr g3
        cases q
        · have ht := text_own o3
          clear o3
          go_wp2
          go_ret
          exact ⟨l, rfl, hll, c3, b3, s3⟩
        · go_wp2_with fail
          refine (below_any _ _ _ c3 (by omega)).mono ?_
          rintro e w4 ⟨z, rfl, z0, z1, c4, g4⟩
          have hzk := z1 (by omega)
          have o4 := o3.kept g4 (own_ne5 o3 (by omega))
          have b4 : Below g w w4 := b3.grown g4 (by omega) (fun k hk => by cases hk; exact Nat.le_refl _)
          have s4 : w.heap.size ≤ w4.heap.size := by have := g4.size; omega
          clear o3 c3 b3 g4 z1
          go_wp2_with fail
          refine (pickInt_any _ _ _ [47, 58, 0, 255, 65] _ (cursor_alloc c4 _) (cursor_ne c4) (lit_cells w4 [47, 58, 0, 255, 65] _ rfl) (by decide) (by decide)).mono ?_
          rintro e w5 ⟨y, rfl, hy, c5, g5⟩
          have hyb : 0 ≤ y ∧ y ≤ 255 := by simp at hy; omega
          have oa := o4.alloc (.cells #[.int .i64 47, .int .i64 58, .int .i64 0, .int .i64 255, .int .i64 65] 3)
          have o5 := oa.kept g5 (own_ne5 oa (by omega))
          have b5 : Below g w w5 := (b4.alloc (by omega) _).grown g5 (by simp; omega) (fun k hk => by cases hk; exact Nat.le_refl _)
          have s5 : w.heap.size ≤ w5.heap.size := by have := g5.size; simp only [World.size_alloc] at this; omega
          clear oa o4 c4 b4 g5 hy
          obtain ⟨j, rfl⟩ := Int.eq_ofNat_of_zero_le z0
          rcases o5.2 with ⟨hv, hz⟩ | ⟨gg, cap, cur, hv, hrest⟩
          · omega
          · subst hv
            have hgg : w.heap.size ≤ gg := hrest.1
            clear hrest
            have hjl : j < k := by omega
            have c2 : ∃ v, w5.cell? ⟨gg, j, none⟩ = some v := by rw [o5.cellAt j (by omega)]; exact ⟨_, List.getElem?_eq_getElem (by simp; omega)⟩
            obtain ⟨old, c2⟩ := c2
            have c3 : w5.frozen? ⟨gg, j, none⟩ = false := o5.frozenAt j
            have R := o5.stored j (.int .u8 y)
            rw [cell_of y hyb.1 hyb.2, map_cell_set, ← cell_of y hyb.1 hyb.2] at R
            have hb6 : Below g w (w5.setCell ⟨gg, j, none⟩ (.int .u8 y)) := b5.setCell (Nat.le_trans (Nat.le_of_lt (Nat.lt_of_lt_of_le cb.1 cb.2)) hgg) _
            have hc6 : Cursor B (w5.setCell ⟨gg, j, none⟩ (.int .u8 y)) g := cursor_keep c5 ((Below.refl _ w5).setCell (Nat.le_trans cb.2 hgg) _)
            have ht := text_own R.1
            have hs6 : w.heap.size ≤ (w5.setCell ⟨gg, j, none⟩ (.int .u8 y)).heap.size := by simp; omega
            have hll2 : (l.set j (UInt8.ofNat y.toNat)).length = k := by rw [List.length_set]; exact hll
            generalize l.set j (UInt8.ofNat y.toNat) = l2 at ht hll2
            have HB : Hid _ := hb6
            have HC : Hid (Cursor B (w5.setCell ⟨gg, j, none⟩ (.int .u8 y)) g) := hc6
            clear R o5 hb6 hc6 c5 b5
            go_wp2
            go_ret
            exact ⟨l2, rfl, hll2, HC.out, HB.out, hs6⟩

end Go.Proofs.Ytiiechnbionhnaa
