/- What is drawn for AddWork: a day, a number and a list, whatever the bytes. -/
import Derived.Test.YtohikfpceaogpaaDrawDays
import Derived.Test.YtohikfpceaogpaaIntsOwn
namespace Go.Proofs.Ytohikfpceaogpaa
open Go.RowKit

set_option maxHeartbeats 1600000 in
theorem list_any {B : Nat} (g : Nat) (w : World) (hc : Cursor B w g) :
    Calls Try.prog 29 #[.pointer (some ⟨g, 0, none⟩)] w fun e w' => ∃ (ao : Option Addr) (c : Nat) (xs : List Int), e = .returned (.slice ao xs.length c) ∧ xs.length ≤ 13 ∧ IntsAt w' ao xs ∧ Below g w w' := by
  obtain ⟨i0, hi, hz0, hz1, hz2⟩ := info_parts info3
  have cb := cursor_bd hc
  have own0 : (w.alloc (.cells #[] 3)).ownsRow w.heap.size 3 1 (.slice (some ⟨w.heap.size, 0, none⟩) 0 0) 0 [] := World.ownsRow_lit w #[] 0 (Nat.le_refl _) (by unfold maxLen; omega) rfl
  go_enter Try.func29, Try.ntmps29
  go_wp2_with fail
  refine (below_any _ _ _ (cursor_alloc hc _) (by omega)).mono ?_
  rintro e w2 ⟨n, rfl, n0, n1, c2, g2⟩
  have hn8 := n1 (by omega)
  obtain ⟨m, rfl⟩ := Int.eq_ofNat_of_zero_le n0
  have own2 := own0.kept g2 (ho_ne own0 (by omega))
  have b2 : Below g w w2 := ((Below.refl g w).alloc (by omega) _).grown g2 (by simp; omega) (fun k hk => by cases hk; exact Nat.le_refl _)
  have s2 : w.heap.size ≤ w2.heap.size := by have := g2.size; simp at this; omega
  clear own0 n1 g2 hc
  go_wp2
  go_loopw [3, 4, 6] (fun v p i wr => ∃ (k : Nat) (y : Int) (xs : List Int), k ≤ m ∧ i = .int .i64 k ∧ p = .int .i64 y ∧ (0 ≤ y ∧ y ≤ 9000 + 60 * k) ∧ xs.length = k ∧ wr.ownsRow w.heap.size 3 1 v k (xs.map (Value.int .i64)) ∧ Cursor B wr g ∧ Below g w wr ∧ w.heap.size ≤ wr.heap.size) (fun _ _ i _ => m - (intOf i).toNat)
  case atStart => exact ⟨0, 9000, [], Nat.zero_le _, rfl, rfl, by omega, rfl, own2, c2, b2, s2⟩
  case round =>
    obtain ⟨k, y, xs, hk, rfl, rfl, hy, hxl, ho, hc, hbr, hsz⟩ := hrel
    clear own2 c2 b2 s2
    by_cases hlt : k < m
    · have hki : (k : Int) < (m : Int) := by omega
      have HXL : Hid _ := hxl
      clear hxl
      go_wp2_with (first | (go_at_call 26; refine (below_any _ _ _ hc (by omega)).mono ?_; rintro e w3 ⟨z, rfl, zz0, zz1, c3, g3⟩; have hzz := zz1 (by omega); have o3 := ho.kept g3 (ho_ne ho (by omega)); have b3 : Below g w w3 := hbr.grown g3 (by omega) (fun k hk => by cases hk; exact Nat.le_refl _); have s3 := g3.size) | (at_builtin; refine wpList_append_own _ rfl (.tmp 20) (.tmp 22) 24 rfl w.heap.size 3 i0 (.int .i64 0) 1 8 Try.underlying24 hi hz0 hz1 hz2 rfl (by decide) _ _ _ rfl (o3.alloc _) ⟨w3.heap.size, 0, none⟩ 1 1 [.int .i64 (y + 1 + z)] rfl rfl (cell_one_new _ _ _) (ints_oneCell .i64 [y + 1 + z]) (by unfold maxLen; omega) (by omega) (by simp; omega) ?_; intro v' w4 ho1 hg1 hn1))
      have hb1 : Below g w w4 := (b3.alloc (by omega) _).grown hg1 (by simp; omega) (fun j hj => by have := (o3.lt j hj).1; omega)
      have hc1 : Cursor B w4 g := cursor_keep c3 (((Below.refl _ w3).alloc (by omega) _).grown hg1 (by simp; omega) (fun j hj => by have := (o3.lt j hj).1; omega))
      have hs1 : w.heap.size ≤ w4.heap.size := by have := hg1.size; simp at this; omega
      clear hg1 hn1 ho
      go_wp2
      go_roundw
      case rel => exact ⟨k + 1, y + 1 + z, xs ++ [y + 1 + z], by omega, by go_num, rfl, by omega, by have := HXL.out; simp; omega, by rw [List.map_append]; exact ho1, hc1, hb1, hs1⟩
      case measure => simp [intOf]; omega
    · have hkm : k = m := by omega
      subst hkm
      have HO : Hid _ := ho
      have hki : ¬ (k : Int) < (k : Int) := by omega
      go_wp2_with fail
      refine (once_any _ _ _ hc (by omega)).mono ?_
      rintro e w3 ⟨q, rfl, c3, g3⟩
      have o3 := ho.kept g3 (ho_ne ho (by omega))
      have b3 : Below g w w3 := hbr.grown g3 (by omega) (fun k hk => by cases hk; exact Nat.le_refl _)
      have s3 := g3.size
      clear ho HO g3
      cases q
      · have HO : Hid _ := o3
        clear o3
        go_wp2
        go_ret
        obtain ⟨ao, c, hv⟩ := own_shape HO.out
        subst hv
        subst hxl
        exact ⟨ao, c, xs, rfl, by omega, ints_own HO.out, b3⟩
      · go_wp2_with fail
        refine (pickInt_any _ _ _ [-1, 9000, 80001] _ (cursor_alloc c3 _) (cursor_ne c3) (lit_cells w3 [-1, 9000, 80001] _ rfl) (by decide) (by decide)).mono ?_
        rintro e w4 ⟨z, rfl, hz, c4, g4⟩
        have oa := o3.alloc (.cells #[.int .i64 (-1), .int .i64 9000, .int .i64 80001] 3)
        have o4 := oa.kept g4 (ho_ne oa (by omega))
        clear oa
        have b4 : Below g w w4 := (b3.alloc (by omega) _).grown g4 (by simp; omega) (fun k hk => by cases hk; exact Nat.le_refl _)
        have s4 := g4.size
        simp only [World.size_alloc] at s4
        clear g4
        go_wp2_with (at_builtin; refine wpList_append_own _ rfl (.tmp 26) (.tmp 30) 24 rfl w.heap.size 3 i0 (.int .i64 0) 1 8 Try.underlying24 hi hz0 hz1 hz2 rfl (by decide) _ _ _ rfl (o4.alloc _) ⟨w4.heap.size, 0, none⟩ 1 1 [.int .i64 z] rfl rfl (cell_one_new _ _ _) (ints_oneCell .i64 [z]) (by unfold maxLen; omega) (by omega) (by simp; omega) ?_; intro v' w5 ho1 hg1 hn1)
        have hb1 : Below g w w5 := (b4.alloc (by omega) _).grown hg1 (by simp; omega) (fun j hj => by have := (o4.lt j hj).1; omega)
        have HO : Hid (w5.ownsRow w.heap.size 3 1 v' (k + 1) ((xs ++ [z]).map (Value.int .i64))) := by rw [Hid, List.map_append]; exact ho1
        clear hg1 hn1 ho1 o3 o4
        go_wp2
        go_ret
        obtain ⟨ao, c, hv⟩ := own_shape HO.out
        subst hv
        have hl2 : (xs ++ [z]).length = k + 1 := by simp [hxl]
        have he : Ending.returned (.slice ao (k + 1) c) = .returned (.slice ao (xs ++ [z]).length c) := by rw [hl2]
        exact ⟨ao, c, xs ++ [z], he, by omega, ints_own HO.out, hb1⟩

set_option maxHeartbeats 1000000 in
theorem drawAdd_any (a : Option Addr) (len cap : Nat) (zs : List Int) (w : World) (hr : IsRow .u8 w a len cap zs) (hn : len ≤ 1048576) :
    Calls Try.prog 10 #[.slice a len cap] w fun e w' => ∃ (d n : Int) (ao : Option Addr) (c : Nat) (xs : List Int), e = .returned (.tuple #[.int .i64 d, .int .i64 n, .slice ao xs.length c]) ∧ (-1 ≤ n ∧ n ≤ 401) ∧ xs.length ≤ 13 ∧ IntsAt w' ao xs ∧ Below w.heap.size w w' := by
  go_enter Try.func10, Try.ntmps10
  go_wp2_with fail
  refine (new_any _ _ _ _ _ hr hn).mono ?_
  rintro e w1 ⟨rfl, c1, b1⟩
  go_wp2_with fail
  refine (day_any _ _ c1).mono ?_
  rintro e w2 ⟨d, rfl, _, c2, g2⟩
  go_wp2_with fail
  refine (below_any _ _ _ c2 (by omega)).mono ?_
  rintro e w3 ⟨n, rfl, n0, n1, c3, g3⟩
  have hn8 := n1 (by omega)
  clear n1
  go_wp2_with fail
  refine (once_any _ _ _ c3 (by omega)).mono ?_
  rintro e w4 ⟨q, rfl, c4, g4⟩
  have b4 := bel_grown b1 ((g2.trans g3).trans g4) (Nat.le_refl _)
  cases q
  · go_wp2_with fail
    refine (list_any _ _ c4).mono ?_
    rintro e w5 ⟨ao, c, xs, rfl, hxl, hxs, b5⟩
    go_wp2
    go_ret3
    exact ⟨d, n, ao, c, xs, rfl, by omega, hxl, hxs, b4.trans b5⟩
  · go_wp2_with fail
    refine (pickInt_any _ _ _ [-1, 0, 400, 401] _ (cursor_alloc c4 _) (cursor_ne c4) (lit_cells w4 [-1, 0, 400, 401] _ rfl) (by decide) (by decide)).mono ?_
    rintro e w5 ⟨z, rfl, hz, c5, g5⟩
    have hzb := (by decide : ∀ z ∈ [(-1 : Int), 0, 400, 401], -1 ≤ z ∧ z ≤ 401) z hz
    have b5 := bel_grown (b4.alloc b4.size _) g5 (Nat.le_refl _)
    go_wp2_with fail
    refine (list_any _ _ c5).mono ?_
    rintro e w6 ⟨ao, c, xs, rfl, hxl, hxs, b6⟩
    go_wp2
    go_ret3
    exact ⟨d, z, ao, c, xs, rfl, hzb, hxl, hxs, b5.trans b6⟩

end Go.Proofs.Ytohikfpceaogpaa
