/- What is drawn for PutSet and GetSet: a list, a text and a place, whatever the bytes. -/
import Derived.Test.YtjjmjnbnoeaifaaDrawn
import Derived.Test.YtjjmjnbnoeaifaaSSet
namespace Go.Proofs.Ytjjmjnbnoeaifaa
open Go.RowKit

theorem cur_app {B : Nat} {g : Nat} {w w4 : World} {o : Obj} {row : Option Nat} (c3 : Cursor B w g) (hg4 : (w.alloc o).grownBy w4 row) (h : ∀ j, row = some j → B ≤ j) : Cursor B w4 g :=
  cursor_keep c3 (((Below.refl _ w).alloc (cursor_bd c3).2 _).grown hg4 (by have := (cursor_bd c3).2; simp; omega) h)

set_option maxHeartbeats 600000 in
theorem nums_any {B : Nat} (g : Nat) (w : World) (hc : Cursor B w g) :
    Calls Try.prog 48 #[.pointer (some ⟨g, 0, none⟩)] w fun e w' => ∃ (ao : Option Addr) (c : Nat) (xs : List Int), e = .returned (.slice ao xs.length c) ∧ xs.length ≤ 13 ∧ IntsAt w' ao xs ∧ Cursor B w' g ∧ Below g w w' ∧ w.heap.size ≤ w'.heap.size := by
  obtain ⟨i0, hi, hz0, hz1, hz2⟩ := info_parts info3
  have cb := cursor_bd hc
  have own0 := own03 w
  have c0 : Cursor B ((w.alloc (.cells #[] 3)).alloc (.cells #[.int .i64 64, .int .i64 128] 3)) g := cursor_alloc (cursor_alloc hc _) _
  have hz2c : ∀ i, i < [(64 : Int), 128].length → ((w.alloc (.cells #[] 3)).alloc (.cells #[.int .i64 64, .int .i64 128] 3)).cell? ⟨w.heap.size + 1, i, none⟩ = some (.int .i64 ([(64 : Int), 128].getD i 0)) := by
    intro i hi
    have h := lit_cells (w.alloc (.cells #[] 3)) [64, 128] #[.int .i64 64, .int .i64 128] rfl i hi
    rw [World.size_alloc] at h
    exact h
  go_enter Try.func48, Try.ntmps48
  go_wp2_with fail
  refine (pickInt_any g (w.heap.size + 1) 2 [64, 128] ((w.alloc (.cells #[] 3)).alloc (.cells #[.int .i64 64, .int .i64 128] 3)) c0 (by omega) hz2c (by decide) (by decide)).mono ?_
  rintro e w2 ⟨mo, rfl, hmo, c2, g2⟩
  have hmb := (by decide : ∀ z ∈ [(64 : Int), 128], 0 ≤ z ∧ z ≤ 128) mo hmo
  have oa := own0.alloc (.cells #[.int .i64 64, .int .i64 128] 3)
  have own2 := oa.kept g2 (ho_ne oa (by omega))
  have b2 : Below g w w2 := (((Below.refl g w).alloc (by omega) _).alloc (by simp; omega) _).grown g2 (by simp; omega) (fun k hk => by cases hk; exact Nat.le_refl _)
  have s2 : w.heap.size ≤ w2.heap.size := by have := g2.size; simp at this; omega
  clear own0 oa g2 hc hmo c0 hz2c
  go_wp2
  go_loopw [3, 4, 6] (fun v p i wr => ∃ (k : Nat) (y : Int) (xs : List Int), k ≤ 12 ∧ i = .int .i64 k ∧ p = .int .i64 y ∧ (0 ≤ y ∧ y ≤ 1 + 15 * k) ∧ xs.length ≤ k ∧ wr.ownsRow w.heap.size 3 1 v xs.length (xs.map (Value.int .i64)) ∧ Cursor B wr g ∧ Below g w wr ∧ w.heap.size ≤ wr.heap.size) (fun _ _ i _ => 12 - (intOf i).toNat)
  case atStart => exact ⟨0, 1, [], Nat.zero_le _, rfl, rfl, by omega, Nat.le_refl _, own2, c2, b2, s2⟩
  case round =>
    obtain ⟨k, y, xs, hk, rfl, rfl, hy, hxl, ho, hc, hbr, hsz⟩ := hrel
    clear own2 c2 b2 s2
    by_cases hlt : k < 12
    · have hki : (k : Int) < 12 := by omega
      go_wp2_with fail
      refine (below_any _ _ _ hc (by omega)).mono ?_
      rintro e w3 ⟨z, rfl, z0, z1, c3, g3⟩
      have hz14 := z1 (by omega)
      have o3 := ho.kept g3 (ho_ne ho (by omega))
      have b3 : Below g w w3 := hbr.grown g3 (by omega) (fun k hk => by cases hk; exact Nat.le_refl _)
      have s3 : w.heap.size ≤ w3.heap.size := by have := g3.size; omega
      clear ho hc hbr g3 z1
      by_cases hle : y + 1 + z ≤ mo
      · go_wp2_with (at_builtin; refine wpList_append_own _ rfl (.tmp 23) (.tmp 25) 31 rfl w.heap.size 3 i0 (.int .i64 0) 1 8 Try.underlying31 hi hz0 hz1 hz2 rfl (by decide) _ _ _ rfl (o3.alloc _) ⟨w3.heap.size, 0, none⟩ 1 1 [.int .i64 (y + 1 + z)] rfl rfl (cell_one_new _ _ _) (ints_oneCell .i64 [y + 1 + z]) (by unfold maxLen; omega) (by omega) (by simp; omega) ?_; intro v' w4 ho4 hg4 hn4)
        have hb4 : Below g w w4 := (b3.alloc (by omega) _).grown hg4 (by simp; omega) (fun j hj => by have := (o3.lt j hj).1; omega)
        have hc4 : Cursor B w4 g := cur_app c3 hg4 (fun j hj => by have := (o3.lt j hj).1; omega)
        have hs4 : w.heap.size ≤ w4.heap.size := by have := hg4.size; simp at this; omega
        clear hg4 hn4 o3 c3 b3
        go_wp2
        go_roundw
        case rel => exact ⟨k + 1, y + 1 + z, xs ++ [y + 1 + z], by omega, by go_num, rfl, by omega, by simp; omega, by rw [List.map_append, List.length_append]; exact ho4, hc4, hb4, hs4⟩
        case measure => simp [intOf]; omega
      · have hle' : mo < y + 1 + z := by omega
        have HO : Hid (w3.ownsRow w.heap.size 3 1 _ xs.length (xs.map (Value.int .i64))) := o3
        clear o3
        go_wp2
        go_roundw
        case rel => exact ⟨k + 1, y + 1 + z, xs, by omega, by go_num, rfl, by omega, by omega, HO.out, c3, b3, s3⟩
        case measure => simp [intOf]; omega
    · have hk12 : k = 12 := by omega
      subst hk12
      rw [show ((12 : Nat) : Int) = 12 from rfl]
      go_wp2_with fail
      refine (below_any _ _ _ hc (by omega)).mono ?_
      rintro e w3 ⟨z, rfl, z0, z1, c3, g3⟩
      have o3 := ho.kept g3 (ho_ne ho (by omega))
      have b3 : Below g w w3 := hbr.grown g3 (by omega) (fun k hk => by cases hk; exact Nat.le_refl _)
      have s3 : w.heap.size ≤ w3.heap.size := by have := g3.size; omega
      clear ho hc hbr g3 z1
      by_cases h0 : z = 0
      · subst h0
        go_wp2_with fail
        refine (pickInt_any _ _ _ [129, 1, 5, 128] _ (cursor_alloc c3 _) (cursor_ne c3) (lit_cells w3 [129, 1, 5, 128] _ rfl) (by decide) (by decide)).mono ?_
        rintro e w4 ⟨t, rfl, _, c4, g4⟩
        have oa := o3.alloc (.cells #[.int .i64 129, .int .i64 1, .int .i64 5, .int .i64 128] 3)
        have o4 := oa.kept g4 (ho_ne oa (by omega))
        have b4 : Below g w w4 := (b3.alloc (by omega) _).grown g4 (by simp; omega) (fun k hk => by cases hk; exact Nat.le_refl _)
        have s4 : w.heap.size ≤ w4.heap.size := by have := g4.size; simp only [World.size_alloc] at this; omega
        clear oa o3 c3 b3 g4
        go_wp2_with (at_builtin; refine wpList_append_own _ rfl (.tmp 31) (.tmp 35) 31 rfl w.heap.size 3 i0 (.int .i64 0) 1 8 Try.underlying31 hi hz0 hz1 hz2 rfl (by decide) _ _ _ rfl (o4.alloc _) ⟨w4.heap.size, 0, none⟩ 1 1 [.int .i64 t] rfl rfl (cell_one_new _ _ _) (ints_oneCell .i64 [t]) (by unfold maxLen; omega) (by omega) (by simp; omega) ?_; intro v' w5 ho5 hg5 hn5)
        have hb5 : Below g w w5 := (b4.alloc (by omega) _).grown hg5 (by simp; omega) (fun j hj => by have := (o4.lt j hj).1; omega)
        have hc5 : Cursor B w5 g := cur_app c4 hg5 (fun j hj => by have := (o4.lt j hj).1; omega)
        have hs5 : w.heap.size ≤ w5.heap.size := by have := hg5.size; simp at this; omega
        have HO : Hid (w5.ownsRow w.heap.size 3 1 v' (xs ++ [t]).length ((xs ++ [t]).map (Value.int .i64))) := by rw [Hid, List.map_append, List.length_append]; exact ho5
        clear hg5 hn5 ho5 o4 c4 b4
        go_wp2
        go_ret
        obtain ⟨ao, c, hv, hz⟩ := own_ints HO.out
        subst hv
        exact ⟨ao, c, xs ++ [t], rfl, by simp; omega, hz, hc5, hb5, hs5⟩
      · have h0' : (z == 0) = false := by simpa using h0
        by_cases h1 : z = 1
        · subst h1
          clear o3
          go_wp2
          go_ret
          exact ⟨_, 0, [], rfl, by simp, .inl rfl, cursor_alloc c3 _, b3.alloc (by omega) _, by simp; omega⟩
        · have h1' : (z == 1) = false := by simpa using h1
          have HO : Hid (w3.ownsRow w.heap.size 3 1 _ xs.length (xs.map (Value.int .i64))) := o3
          clear o3
          go_wp2
          go_ret
          obtain ⟨ao, c, hv, hz⟩ := own_ints HO.out
          subst hv
          exact ⟨ao, c, xs, rfl, by omega, hz, c3, b3, s3⟩

set_option maxHeartbeats 400000 in
theorem drawPS_any (a : Option Addr) (len cap : Nat) (zs : List Int) (w : World) (hr : IsRow .u8 w a len cap zs) (hn : len ≤ 1048576) :
    Calls Try.prog 19 #[.slice a len cap] w fun e w' => ∃ (ao : Option Addr) (c : Nat) (xs : List Int), e = .returned (.slice ao xs.length c) ∧ xs.length ≤ 13 ∧ IntsAt w' ao xs ∧ Below w.heap.size w w' := by
  go_enter Try.func19, Try.ntmps19
  go_wp2_with fail
  refine (new_any _ _ _ _ _ hr hn).mono ?_
  rintro e w1 ⟨rfl, c1, b1⟩
  clear hr
  go_wp2_with fail
  refine (nums_any _ _ c1).mono ?_
  rintro e w2 ⟨ao, c, xs, rfl, hl, hx, c2, b2, s2⟩
  go_wp2
  go_ret
  exact ⟨ao, c, xs, rfl, hl, hx, b1.trans b2⟩

end Go.Proofs.Ytjjmjnbnoeaifaa
