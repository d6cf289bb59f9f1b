/- Joined: DrawPick, Drawn, DrawDays, DrawWork, DrawWl, Search, IterWork, LawAt. -/
import Derived.Test.YtenbhmmknejcjaaDoorKP9Draw
import Derived.Test.YtenbhmmknejcjaaDoorJP90a
import Derived.Test.YtenbhmmknejcjaaDoorKP9Off
import Derived.RangeFuncNested
import Derived.RangeFuncBound
import Derived.RangeFuncCalls
import Derived.RangeFuncLeaves
import Derived.Shelf.Abstract
import Derived.Shelf.RegionOpen
import Derived.WalkKit
import Derived.OwnWalkIn
import Derived.TacticsInMore
import Derived.LoopNIn
import Derived.LoopIn
/- What is drawn from a list of ints, and what fits an int. -/
namespace Go.Proofs.YtenbhmmknejcjaaDoor
open Go.RowKit

theorem lit_cells (w : World) (zs : List Int) (arr : Array Value) (h : arr = (zs.map (Value.int .i64)).toArray) :
    ∀ i, i < zs.length → (w.alloc (.cells arr 3)).cell? ⟨w.heap.size, i, none⟩ = some (.int .i64 (zs.getD i 0)) := by
  intro i hi
  subst h
  simp [List.getD_eq_getElem?_getD, hi]

theorem cursor_ne {B : Nat} {w : World} {g : Nat} (hc : Cursor B w g) : w.heap.size ≠ g := by
  have := cursor_bd hc; omega
theorem cursor_alloc {B : Nat} {w : World} {g : Nat} (hc : Cursor B w g) (o : Obj) : Cursor B (w.alloc o) g := cursor_below hc ((Below.refl _ _).alloc (Nat.le_refl _) _)
theorem grown_alloc (w : World) (o : Obj) (row : Option Nat) : w.grownBy (w.alloc o) row := World.grownBy_alloc w o row

set_option maxHeartbeats 800000 in
theorem pickInt_any {B : Nat} (g b cap : Nat) (zs : List Int) (w : World) (hc : Cursor B w g) (hbg : b ≠ g) (hz : ∀ i, i < zs.length → w.cell? ⟨b, i, none⟩ = some (.int .i64 (zs.getD i 0))) (h1 : 1 ≤ zs.length) (h2 : zs.length ≤ 1000) :
    Calls Tryd.prog 53 #[.pointer (some ⟨g, 0, none⟩), .slice (some ⟨b, 0, none⟩) zs.length cap] w fun e w' => ∃ x : Int, e = .returned (.int .i64 x) ∧ x ∈ zs ∧ Cursor B w' g ∧ w.grownBy w' (some g) := by
  go_enter Tryd.func53, Tryd.ntmps53
  go_wp2_with fail
  refine (below_any _ _ _ hc (by omega)).mono ?_
  rintro e w1 ⟨x, rfl, x0, x1, c1, g1⟩
  have hx := x1 (by omega)
  obtain ⟨k, rfl⟩ := Int.eq_ofNat_of_zero_le x0
  have hk : k < zs.length := by omega
  have cb : w1.cell? ⟨b, k, none⟩ = some (.int .i64 (zs.getD k 0)) := g1.cell (a := ⟨b, k, none⟩) (hz k hk) (by simpa using hbg)
  have hm : zs.getD k 0 ∈ zs := by simp [List.getD_eq_getElem?_getD, hk]
  generalize zs.getD k 0 = z at cb hm
  clear hz x1
  go_wp2
  go_ret
  exact ⟨z, rfl, hm, c1, g1⟩

/-- what is drawn as an int fits 64 bits -/
def Fits (x : Int) : Prop := -9223372036854775808 ≤ x ∧ x ≤ 9223372036854775807
theorem fits_wf {x : Int} (h : Fits x) : (Lit.int .i64 x).wf = true := by
  simp [Lit.wf, IntKind.min, IntKind.max, IntKind.signed, IntKind.bits]; exact h
theorem fits_small {x : Int} (h1 : -1000000000000 ≤ x) (h2 : x ≤ 1000000000000) : Fits x := ⟨by omega, by omega⟩

end Go.Proofs.YtenbhmmknejcjaaDoor

/- What every law over drawn bytes begins with. -/
namespace Go.Proofs.YtenbhmmknejcjaaDoor
open Go.RowKit

theorem bel_grown {w w1 w2 : World} {g : Nat} (h : Below w.heap.size w w1) (hg : w1.grownBy w2 (some g)) (h0 : w.heap.size ≤ g) : Below w.heap.size w w2 :=
  h.grown hg h.size (fun k hk => by cases hk; exact h0)
theorem row_below {k : IntKind} {w w' : World} {a : Option Addr} {len cap : Nat} {zs : List Int} (h : IsRow k w a len cap zs) (hb : Below w.heap.size w w') : IsRow k w' a len cap zs := by
  rcases h with h | ⟨x, h1, h2, h3, h4, h5, h6⟩
  · exact .inl h
  · exact .inr ⟨x, h1, h2, h3, h4, fun i hi => (hb.cell (World.block_lt_of_cell? w _ (h5 i hi))).trans (h5 i hi), h6⟩

set_option maxHeartbeats 400000 in
theorem big_any (a : Option Addr) (len cap : Nat) (w : World) :
    Calls Tryd.prog 8 #[.slice a len cap] w fun e w' => e = .returned (.bool (decide ((1048576 : Int) < (len : Int)))) ∧ w' = w := by
  go_enter Tryd.func8, Tryd.ntmps8
  go_wp2
  go_ret
  exact ⟨rfl, rfl⟩

end Go.Proofs.YtenbhmmknejcjaaDoor

/- What is drawn for chapter 2: days and dates, whatever the bytes. -/
namespace Go.Proofs.YtenbhmmknejcjaaDoor
open Go.RowKit

theorem bel_g {w w' : World} {g : Nat} (hg : w.grownBy w' (some g)) (h : g ≤ w.heap.size) : Below g w w' := (Below.refl g w).grown hg h (fun k hk => by cases hk; exact Nat.le_refl _)


end Go.Proofs.YtenbhmmknejcjaaDoor

/- What is drawn for AddWork: a day, a number and a list, whatever the bytes. -/
namespace Go.Proofs.YtenbhmmknejcjaaDoor
open Go.RowKit

set_option maxHeartbeats 1600000 in
theorem list_any {B : Nat} (g : Nat) (w : World) (hc : Cursor B w g) :
    Calls Tryd.prog 25 #[.pointer (some ⟨g, 0, none⟩)] w fun e w' => ∃ (ao : Option Addr) (c : Nat) (xs : List Int), e = .returned (.slice ao xs.length c) ∧ xs.length ≤ 13 ∧ IntsAt w' ao xs ∧ Below g w w' := by
  obtain ⟨i0, hi, hz0, hz1, hz2⟩ := info_parts info3
  have cb := cursor_bd hc
  have own0 : (w.alloc (.cells #[] 3)).ownsRow w.heap.size 3 1 (.slice (some ⟨w.heap.size, 0, none⟩) 0 0) 0 [] := World.ownsRow_lit w #[] 0 (Nat.le_refl _) (by unfold maxLen; omega) rfl
  go_enter Tryd.func25, Tryd.ntmps25
  go_wp2_with fail
  refine (below_any _ _ _ (cursor_alloc hc _) (by omega)).mono ?_
  rintro e w2 ⟨n, rfl, n0, n1, c2, g2⟩
  have hn8 := n1 (by omega)
  obtain ⟨m, rfl⟩ := Int.eq_ofNat_of_zero_le n0
  have own2 := own0.kept g2 (ho_ne own0 (by omega))
  have b2 : Below g w w2 := ((Below.refl g w).alloc (by omega) _).grown g2 (by simp; omega) (fun k hk => by cases hk; exact Nat.le_refl _)
  have s2 : w.heap.size ≤ w2.heap.size := by have := g2.size; simp at this; omega
  clear own0 n1 g2 hc
  go_wp2
  go_loopw [3, 4, 6] (fun v p i wr => ∃ (k : Nat) (y : Int) (xs : List Int), k ≤ m ∧ i = .int .i64 k ∧ p = .int .i64 y ∧ (0 ≤ y ∧ y ≤ 9000 + 60 * k) ∧ xs.length = k ∧ wr.ownsRow w.heap.size 3 1 v k (xs.map (Value.int .i64)) ∧ Cursor B wr g ∧ Below g w wr ∧ w.heap.size ≤ wr.heap.size) (fun _ _ i _ => m - (intOf i).toNat)
  case atStart => exact ⟨0, 9000, [], Nat.zero_le _, rfl, rfl, by omega, rfl, own2, c2, b2, s2⟩
  case round =>
    obtain ⟨k, y, xs, hk, rfl, rfl, hy, hxl, ho, hc, hbr, hsz⟩ := hrel
    clear own2 c2 b2 s2
    by_cases hlt : k < m
    · have hki : (k : Int) < (m : Int) := by omega
      have HXL : Hid _ := hxl
      clear hxl
      go_wp2_with (first | (go_at_call 52; refine (below_any _ _ _ hc (by omega)).mono ?_; rintro e w3 ⟨z, rfl, zz0, zz1, c3, g3⟩; have hzz := zz1 (by omega); have o3 := ho.kept g3 (ho_ne ho (by omega)); have b3 : Below g w w3 := hbr.grown g3 (by omega) (fun k hk => by cases hk; exact Nat.le_refl _); have s3 := g3.size) | (at_builtin; refine wpList_append_own _ rfl (.tmp 20) (.tmp 22) 28 rfl w.heap.size 3 i0 (.int .i64 0) 1 8 Tryd.underlying28 hi hz0 hz1 hz2 rfl (by decide) _ _ _ rfl (o3.alloc _) ⟨w3.heap.size, 0, none⟩ 1 1 [.int .i64 (y + 1 + z)] rfl rfl (cell_one_new _ _ _) (ints_oneCell .i64 [y + 1 + z]) (by unfold maxLen; omega) (by omega) (by simp; omega) ?_; intro v' w4 ho1 hg1 hn1))
      have hb1 : Below g w w4 := (b3.alloc (by omega) _).grown hg1 (by simp; omega) (fun j hj => by have := (o3.lt j hj).1; omega)
      have hc1 : Cursor B w4 g := cursor_keep c3 (((Below.refl _ w3).alloc (by omega) _).grown hg1 (by simp; omega) (fun j hj => by have := (o3.lt j hj).1; omega))
      have hs1 : w.heap.size ≤ w4.heap.size := by have := hg1.size; simp at this; omega
      clear hg1 hn1 ho
      go_wp2
      go_roundw
      case rel => exact ⟨k + 1, y + 1 + z, xs ++ [y + 1 + z], by omega, by go_num, rfl, by omega, by have := HXL.out; simp; omega, by rw [List.map_append]; exact ho1, hc1, hb1, hs1⟩
      case measure => simp [intOf]; omega
    · have hkm : k = m := by omega
      subst hkm
      have HO : Hid _ := ho
      have hki : ¬ (k : Int) < (k : Int) := by omega
      go_wp2_with fail
      refine (once_any _ _ _ hc (by omega)).mono ?_
      rintro e w3 ⟨q, rfl, c3, g3⟩
      have o3 := ho.kept g3 (ho_ne ho (by omega))
      have b3 : Below g w w3 := hbr.grown g3 (by omega) (fun k hk => by cases hk; exact Nat.le_refl _)
      have s3 := g3.size
      clear ho HO g3
      cases q
      · have HO : Hid _ := o3
        clear o3
        go_wp2
        go_ret
        obtain ⟨ao, c, hv⟩ := own_shape HO.out
        subst hv
        subst hxl
        exact ⟨ao, c, xs, rfl, by omega, ints_own HO.out, b3⟩
      · go_wp2_with fail
        refine (pickInt_any _ _ _ [-1, 9000, 80001] _ (cursor_alloc c3 _) (cursor_ne c3) (lit_cells w3 [-1, 9000, 80001] _ rfl) (by decide) (by decide)).mono ?_
        rintro e w4 ⟨z, rfl, hz, c4, g4⟩
        have oa := o3.alloc (.cells #[.int .i64 (-1), .int .i64 9000, .int .i64 80001] 3)
        have o4 := oa.kept g4 (ho_ne oa (by omega))
        clear oa
        have b4 : Below g w w4 := (b3.alloc (by omega) _).grown g4 (by simp; omega) (fun k hk => by cases hk; exact Nat.le_refl _)
        have s4 := g4.size
        simp only [World.size_alloc] at s4
        clear g4
        go_wp2_with (at_builtin; refine wpList_append_own _ rfl (.tmp 26) (.tmp 30) 28 rfl w.heap.size 3 i0 (.int .i64 0) 1 8 Tryd.underlying28 hi hz0 hz1 hz2 rfl (by decide) _ _ _ rfl (o4.alloc _) ⟨w4.heap.size, 0, none⟩ 1 1 [.int .i64 z] rfl rfl (cell_one_new _ _ _) (ints_oneCell .i64 [z]) (by unfold maxLen; omega) (by omega) (by simp; omega) ?_; intro v' w5 ho1 hg1 hn1)
        have hb1 : Below g w w5 := (b4.alloc (by omega) _).grown hg1 (by simp; omega) (fun j hj => by have := (o4.lt j hj).1; omega)
        have HO : Hid (w5.ownsRow w.heap.size 3 1 v' (k + 1) ((xs ++ [z]).map (Value.int .i64))) := by rw [Hid, List.map_append]; exact ho1
        clear hg1 hn1 ho1 o3 o4
        go_wp2
        go_ret
        obtain ⟨ao, c, hv⟩ := own_shape HO.out
        subst hv
        have hl2 : (xs ++ [z]).length = k + 1 := by simp [hxl]
        have he : Ending.returned (.slice ao (k + 1) c) = .returned (.slice ao (xs ++ [z]).length c) := by rw [hl2]
        exact ⟨ao, c, xs ++ [z], he, by omega, ints_own HO.out, hb1⟩


end Go.Proofs.YtenbhmmknejcjaaDoor

/- A drawn list of days that one goes on drawing behind: the cursor stands, the list is its own row. -/
namespace Go.Proofs.YtenbhmmknejcjaaDoor
open Go.RowKit

set_option maxHeartbeats 1600000 in
theorem listC_any {B : Nat} (g : Nat) (w : World) (hc : Cursor B w g) :
    Calls Tryd.prog 25 #[.pointer (some ⟨g, 0, none⟩)] w fun e w' => ∃ (ao : Option Addr) (c : Nat) (xs : List Int), e = .returned (.slice ao xs.length c) ∧ xs.length ≤ 13 ∧ w'.ownsRow w.heap.size 3 1 (.slice ao xs.length c) xs.length (xs.map (Value.int .i64)) ∧ Cursor B w' g ∧ Below g w w' ∧ w.heap.size ≤ w'.heap.size := by
  obtain ⟨i0, hi, hz0, hz1, hz2⟩ := info_parts info3
  have cb := cursor_bd hc
  have own0 : (w.alloc (.cells #[] 3)).ownsRow w.heap.size 3 1 (.slice (some ⟨w.heap.size, 0, none⟩) 0 0) 0 [] := World.ownsRow_lit w #[] 0 (Nat.le_refl _) (by unfold maxLen; omega) rfl
  go_enter Tryd.func25, Tryd.ntmps25
  go_wp2_with fail
  refine (below_any _ _ _ (cursor_alloc hc _) (by omega)).mono ?_
  rintro e w2 ⟨n, rfl, n0, n1, c2, g2⟩
  have hn8 := n1 (by omega)
  obtain ⟨m, rfl⟩ := Int.eq_ofNat_of_zero_le n0
  have own2 := own0.kept g2 (ho_ne own0 (by omega))
  have b2 : Below g w w2 := ((Below.refl g w).alloc (by omega) _).grown g2 (by simp; omega) (fun k hk => by cases hk; exact Nat.le_refl _)
  have s2 : w.heap.size ≤ w2.heap.size := by have := g2.size; simp at this; omega
  clear own0 n1 g2 hc
  go_wp2
  go_loopw [3, 4, 6] (fun v p i wr => ∃ (k : Nat) (y : Int) (xs : List Int), k ≤ m ∧ i = .int .i64 k ∧ p = .int .i64 y ∧ (0 ≤ y ∧ y ≤ 9000 + 60 * k) ∧ xs.length = k ∧ wr.ownsRow w.heap.size 3 1 v k (xs.map (Value.int .i64)) ∧ Cursor B wr g ∧ Below g w wr ∧ w.heap.size ≤ wr.heap.size) (fun _ _ i _ => m - (intOf i).toNat)
  case atStart => exact ⟨0, 9000, [], Nat.zero_le _, rfl, rfl, by omega, rfl, own2, c2, b2, s2⟩
  case round =>
    obtain ⟨k, y, xs, hk, rfl, rfl, hy, hxl, ho, hc, hbr, hsz⟩ := hrel
    clear own2 c2 b2 s2
    by_cases hlt : k < m
    · have hki : (k : Int) < (m : Int) := by omega
      have HXL : Hid _ := hxl
      clear hxl
      go_wp2_with (first | (go_at_call 52; refine (below_any _ _ _ hc (by omega)).mono ?_; rintro e w3 ⟨z, rfl, zz0, zz1, c3, g3⟩; have hzz := zz1 (by omega); have o3 := ho.kept g3 (ho_ne ho (by omega)); have b3 : Below g w w3 := hbr.grown g3 (by omega) (fun k hk => by cases hk; exact Nat.le_refl _); have s3 := g3.size) | (at_builtin; refine wpList_append_own _ rfl (.tmp 20) (.tmp 22) 28 rfl w.heap.size 3 i0 (.int .i64 0) 1 8 Tryd.underlying28 hi hz0 hz1 hz2 rfl (by decide) _ _ _ rfl (o3.alloc _) ⟨w3.heap.size, 0, none⟩ 1 1 [.int .i64 (y + 1 + z)] rfl rfl (cell_one_new _ _ _) (ints_oneCell .i64 [y + 1 + z]) (by unfold maxLen; omega) (by omega) (by simp; omega) ?_; intro v' w4 ho1 hg1 hn1))
      have hb1 : Below g w w4 := (b3.alloc (by omega) _).grown hg1 (by simp; omega) (fun j hj => by have := (o3.lt j hj).1; omega)
      have hc1 : Cursor B w4 g := cursor_keep c3 (((Below.refl _ w3).alloc (by omega) _).grown hg1 (by simp; omega) (fun j hj => by have := (o3.lt j hj).1; omega))
      have hs1 : w.heap.size ≤ w4.heap.size := by have := hg1.size; simp at this; omega
      clear hg1 hn1 ho
      go_wp2
      go_roundw
      case rel => exact ⟨k + 1, y + 1 + z, xs ++ [y + 1 + z], by omega, by go_num, rfl, by omega, by have := HXL.out; simp; omega, by rw [List.map_append]; exact ho1, hc1, hb1, hs1⟩
      case measure => simp [intOf]; omega
    · have hkm : k = m := by omega
      subst hkm
      have HO : Hid _ := ho
      have hki : ¬ (k : Int) < (k : Int) := by omega
      go_wp2_with fail
      refine (once_any _ _ _ hc (by omega)).mono ?_
      rintro e w3 ⟨q, rfl, c3, g3⟩
      have o3 := ho.kept g3 (ho_ne ho (by omega))
      have b3 : Below g w w3 := hbr.grown g3 (by omega) (fun k hk => by cases hk; exact Nat.le_refl _)
      have s3 := g3.size
      clear ho HO g3
      cases q
      · have HO : Hid _ := o3
        clear o3
        go_wp2
        go_ret
        obtain ⟨ao, c, hv⟩ := own_shape HO.out
        subst hv
        subst hxl
        exact ⟨ao, c, xs, rfl, by omega, HO.out, c3, b3, by omega⟩
      · go_wp2_with fail
        refine (pickInt_any _ _ _ [-1, 9000, 80001] _ (cursor_alloc c3 _) (cursor_ne c3) (lit_cells w3 [-1, 9000, 80001] _ rfl) (by decide) (by decide)).mono ?_
        rintro e w4 ⟨z, rfl, hz, c4, g4⟩
        have oa := o3.alloc (.cells #[.int .i64 (-1), .int .i64 9000, .int .i64 80001] 3)
        have o4 := oa.kept g4 (ho_ne oa (by omega))
        clear oa
        have b4 : Below g w w4 := (b3.alloc (by omega) _).grown g4 (by simp; omega) (fun k hk => by cases hk; exact Nat.le_refl _)
        have s4 := g4.size
        simp only [World.size_alloc] at s4
        clear g4
        go_wp2_with (at_builtin; refine wpList_append_own _ rfl (.tmp 26) (.tmp 30) 28 rfl w.heap.size 3 i0 (.int .i64 0) 1 8 Tryd.underlying28 hi hz0 hz1 hz2 rfl (by decide) _ _ _ rfl (o4.alloc _) ⟨w4.heap.size, 0, none⟩ 1 1 [.int .i64 z] rfl rfl (cell_one_new _ _ _) (ints_oneCell .i64 [z]) (by unfold maxLen; omega) (by omega) (by simp; omega) ?_; intro v' w5 ho1 hg1 hn1)
        have hb1 : Below g w w5 := (b4.alloc (by omega) _).grown hg1 (by simp; omega) (fun j hj => by have := (o4.lt j hj).1; omega)
        have HC5 : Hid (Cursor B w5 g) := cursor_keep c4 (((Below.refl _ w4).alloc (by omega) _).grown hg1 (by simp; omega) (fun j hj => by have := (o4.lt j hj).1; omega))
        have hs5 : w.heap.size ≤ w5.heap.size := by have := hg1.size; simp at this; omega
        have HO : Hid (w5.ownsRow w.heap.size 3 1 v' (k + 1) ((xs ++ [z]).map (Value.int .i64))) := by rw [Hid, List.map_append]; exact ho1
        clear hg1 hn1 ho1 o3 o4
        go_wp2
        go_ret
        obtain ⟨ao, c, hv⟩ := own_shape HO.out
        subst hv
        have hl2 : (xs ++ [z]).length = k + 1 := by simp [hxl]
        have he : Ending.returned (.slice ao (k + 1) c) = .returned (.slice ao (xs ++ [z]).length c) := by rw [hl2]
        exact ⟨ao, c, xs ++ [z], he, by omega, by rw [hl2]; exact HO.out, HC5.out, hb1, hs5⟩

/-- a row of ints of one's own, kept while the cursor moves -/
theorem own_cur {b g : Nat} {u u' : World} {ao : Option Addr} {c : Nat} {xs : List Int} (o : u.ownsRow b 3 1 (.slice ao xs.length c) xs.length (xs.map (Value.int .i64))) (gr : u.grownBy u' (some g)) (h : g < b) : u'.ownsRow b 3 1 (.slice ao xs.length c) xs.length (xs.map (Value.int .i64)) :=
  o.kept gr (ho_ne o h)

end Go.Proofs.YtenbhmmknejcjaaDoor

/- The search by halves, and what is told by it: whether a day is a holiday; Works. -/
namespace Go.Proofs.YtenbhmmknejcjaaDoor
open Go.RowKit

set_option maxHeartbeats 400000 in
theorem nan1_any (x : Int) (w : World) : Calls Tryd.prog 99 #[.int .i64 x] w fun e w' => e = .returned (.bool false) ∧ w' = w := by
  have h : (x != x) = false := by simp
  go_enter Tryd.func99, Tryd.ntmps99
  go_wp2
  go_ret
  exact ⟨one_bool (by simp), rfl⟩
set_option maxHeartbeats 400000 in
theorem nan2_any (x : Int) (w : World) : Calls Tryd.prog 100 #[.int .i64 x] w fun e w' => e = .returned (.bool false) ∧ w' = w := by
  go_enter Tryd.func100, Tryd.ntmps100
  go_wp2
  go_ret
  exact ⟨one_bool (by simp), rfl⟩
set_option maxHeartbeats 400000 in
theorem less_any (x y : Int) (w : World) : Calls Tryd.prog 98 #[.int .i64 x, .int .i64 y] w fun e w' => e = .returned (.bool (decide (x < y))) ∧ w' = w := by
  go_enter Tryd.func98, Tryd.ntmps98
  go_wp2_with (go_at_call 100; refine (nan2_any _ _).mono ?_; rintro e w' ⟨rfl, rfl⟩)
  go_ret
  exact ⟨rfl, rfl⟩

set_option maxHeartbeats 1600000 in
theorem search_any (t : Int) (b off c : Nat) (zs : List Int) (w : World) (hcx : ∀ i, i < zs.length → w.cell? ⟨b, off + i, none⟩ = some (.int .i64 (zs.getD i 0))) (h1 : zs.length ≤ 400) (ha : ascB (-1) zs = true) :
    Calls Tryd.prog 94 #[.slice (some ⟨b, off, none⟩) zs.length c, .int .i64 t] w fun e w' => (∃ i : Int, e = .returned (.tuple #[.int .i64 i, .bool (decide (t ∈ zs))])) ∧ w' = w := by
  have HA : Hid _ := ha
  clear ha
  go_enter Tryd.func94, Tryd.ntmps94
  go_wp2
  go_loop [7, 8, 9] (fun i j _ => ∃ (m n : Nat), m ≤ n ∧ n ≤ zs.length ∧ i = .int .i64 m ∧ j = .int .i64 n ∧ (∀ k, k < m → zs.getD k 0 < t) ∧ (∀ k, n ≤ k → k < zs.length → t ≤ zs.getD k 0)) (fun i j _ => (intOf j - intOf i).toNat)
  case atStart => exact ⟨0, zs.length, Nat.zero_le _, Nat.le_refl _, rfl, rfl, fun k hk => by omega, fun k h1 h2 => by omega⟩
  case round =>
    obtain ⟨m, n, hmn, hn, rfl, rfl, hlo, hhi⟩ := hrel
    have HL : Hid _ := hlo
    have HH : Hid _ := hhi
    clear hlo hhi
    by_cases hlt : m < n
    · have hlti : (m : Int) < (n : Int) := by omega
      have e1 := hcx ((m + n) / 2) (by omega)
      obtain ⟨x, hxk⟩ : ∃ x, zs.getD ((m + n) / 2) 0 = x := ⟨_, rfl⟩
      rw [hxk] at e1
      have HX : Hid _ := hxk
      clear hxk hcx
      by_cases hxt : x < t
      · have HL2 : Hid (∀ k, k < (m + n) / 2 + 1 → zs.getD k 0 < t) := fun k hk => by
          rcases (show k < (m + n) / 2 ∨ k = (m + n) / 2 from by omega) with h | h
          · have := asc_lt zs _ HA.out k ((m + n) / 2) h (by omega)
            rw [HX.out] at this; omega
          · rw [h, HX.out]; exact hxt
        go_wp2_with (go_at_call 98; refine (less_any _ _ _).mono ?_; rintro e w' ⟨rfl, rfl⟩)
        go_round
        case rel => exact ⟨(m + n) / 2 + 1, n, by omega, hn, by go_num, rfl, HL2.out, HH.out⟩
        case measure => simp [intOf]; omega
      · have hxt' : t ≤ x := by omega
        have HH2 : Hid (∀ k, (m + n) / 2 ≤ k → k < zs.length → t ≤ zs.getD k 0) := fun k hk hkl => by
          rcases (show (m + n) / 2 < k ∨ k = (m + n) / 2 from by omega) with h | h
          · have := asc_lt zs _ HA.out ((m + n) / 2) k h hkl
            rw [HX.out] at this; omega
          · rw [h, HX.out]; exact hxt'
        go_wp2_with (go_at_call 98; refine (less_any _ _ _).mono ?_; rintro e w' ⟨rfl, rfl⟩)
        go_round
        case rel => exact ⟨m, (m + n) / 2, by omega, by omega, rfl, by go_num, HL.out, HH2.out⟩
        case measure => simp [intOf]; omega
    · have hmn' : m = n := by omega
      subst hmn'
      have HE : Hid _ := search_end HA.out HL.out HH.out
      by_cases hml : m < zs.length
      · have hmli : (m : Int) < (zs.length : Int) := by omega
        have e1 := hcx m hml
        obtain ⟨x, hxk⟩ : ∃ x, zs.getD m 0 = x := ⟨_, rfl⟩
        rw [hxk] at e1
        have HX : Hid _ := hxk
        clear hxk hcx
        cases he : (x == t)
        · have HR : Hid (decide (t ∈ zs) = false) := decide_eq_false (fun hm => by
            have := (HE.out.1 hm).2
            rw [HX.out] at this; subst this; simp at he)
          go_wp2_with (go_at_call 99; refine (nan1_any _ _).mono ?_; rintro e w' ⟨rfl, rfl⟩)
          go_ret2
          exact ⟨⟨m, two_eq rfl HR.out.symm⟩, rfl⟩
        · have HR : Hid (decide (t ∈ zs) = true) := decide_eq_true (HE.out.2 ⟨hml, by rw [HX.out]; simpa using he⟩)
          go_wp2_with (go_at_call 99; refine (nan1_any _ _).mono ?_; rintro e w' ⟨rfl, rfl⟩)
          go_ret2
          exact ⟨⟨m, two_eq rfl HR.out.symm⟩, rfl⟩
      · have hmli : ¬ (m : Int) < (zs.length : Int) := by omega
        have HR : Hid (decide (t ∈ zs) = false) := decide_eq_false (fun hm => hml (HE.out.1 hm).1)
        clear hcx
        go_wp2_with fail
        go_ret2
        exact ⟨⟨m, two_eq rfl HR.out.symm⟩, rfl⟩

set_option maxHeartbeats 800000 in
theorem search_nil (t : Int) (ao : Option Addr) (c : Nat) (w : World) :
    Calls Tryd.prog 94 #[.slice ao 0 c, .int .i64 t] w fun e w' => (∃ i : Int, e = .returned (.tuple #[.int .i64 i, .bool false])) ∧ w' = w := by
  go_enter Tryd.func94, Tryd.ntmps94
  go_wp2
  refine wp_loop_rounds 1 ?_
  rw [rounds_succ]
  go_wp2
  go_ret2
  exact ⟨⟨0, two_eq rfl rfl⟩, rfl⟩

set_option maxHeartbeats 800000 in
theorem has_any (d : Int) (ao : Option Addr) (c : Nat) (zs : List Int) (w : World) (hx : IntsAt w ao zs) (h1 : zs.length ≤ 400) (ha : ascB (-1) zs = true) :
    Calls Tryd.prog 79 #[.slice ao zs.length c, .int .i64 d] w fun e w' => e = .returned (.bool (decide (d ∈ zs))) ∧ w' = w := by
  rcases hx with rfl | ⟨b, off, rfl, hb, hcx⟩
  · go_enter Tryd.func79, Tryd.ntmps79
    go_wp2_with fail
    refine (search_nil _ _ _ _).mono ?_
    rintro e w' ⟨⟨i, rfl⟩, hw⟩
    subst hw
    go_wp2
    go_ret
    exact ⟨one_bool (by simp), rfl⟩
  · go_enter Tryd.func79, Tryd.ntmps79
    go_wp2_with fail
    refine (search_any _ _ _ _ zs _ hcx h1 ha).mono ?_
    rintro e w' ⟨⟨i, rfl⟩, hw⟩
    subst hw
    go_wp2
    go_ret
    exact ⟨rfl, rfl⟩

set_option maxHeartbeats 400000 in
theorem weekend_any (x : Int) (w : World) (hd : dOk x = true) :
    Calls Tryd.prog 78 #[.int .i64 x] w fun e w' => e = .returned (.bool (!decide ((x + 5) % 7 < 5))) ∧ w' = w := by
  have hv := wdV_yes hd
  have HB : Hid (decide (4 < (x + 5) % 7) = !decide ((x + 5) % 7 < 5)) := by
    by_cases h : (x + 5) % 7 < 5
    · rw [Hid, decide_eq_true h, decide_eq_false (by omega)]; rfl
    · rw [Hid, decide_eq_false h, decide_eq_true (by omega)]; rfl
  clear hd
  go_enter Tryd.func78, Tryd.ntmps78
  go_wp2_with (go_at_call 93; refine (iWeekDay_any _ _).mono ?_; rintro e w' ⟨rfl, rfl⟩; rw [hv])
  go_ret
  exact ⟨one_bool HB.out, rfl⟩

theorem worksV_no1 {d : Int} {zs : List Int} (h : dOk d = false) : worksV d zs = false := by simp [worksV, h]
theorem worksV_no2 {d : Int} {zs : List Int} (h : offOk zs = false) : worksV d zs = false := by simp [worksV, h]
theorem worksV_is {d : Int} {zs : List Int} (h : dOk d = true) (g : offOk zs = true) : worksV d zs = wk zs d := by simp [worksV, h, g]

end Go.Proofs.YtenbhmmknejcjaaDoor

/- The iterator over the working days behind a day: what it hands to whoever ranges over it. -/
namespace Go.Proofs.YtenbhmmknejcjaaDoor
open Go.RowKit Go.Shelf

/-- The slice at 'ao' reads as 'zs' in w, and lies below block N. -/
def IntsIn (N : Nat) (w : World) (ao : Option Addr) (zs : List Int) : Prop :=
  zs = [] ∨ ∃ b off, ao = some ⟨b, off, none⟩ ∧ b < N ∧ ∀ i, i < zs.length → w.cell? ⟨b, off + i, none⟩ = some (.int .i64 (zs.getD i 0))
theorem IntsIn.keep {N : Nat} {w w' : World} {ao : Option Addr} {zs : List Int} (h : IntsIn N w ao zs) (hb : Below N w w') : IntsIn N w' ao zs := by
  rcases h with h | ⟨b, off, h1, h2, h3⟩
  · exact .inl h
  · exact .inr ⟨b, off, h1, h2, fun i hi => (hb.cell (p := ⟨b, off + i, none⟩) h2).trans (h3 i hi)⟩
theorem IntsIn.at {N : Nat} {w : World} {ao : Option Addr} {zs : List Int} (h : IntsIn N w ao zs) (hN : N ≤ w.heap.size) : IntsAt w ao zs := by
  rcases h with h | ⟨b, off, h1, h2, h3⟩
  · exact .inl h
  · exact .inr ⟨b, off, h1, by omega, h3⟩
theorem IntsAt.in {w : World} {ao : Option Addr} {zs : List Int} (h : IntsAt w ao zs) : IntsIn w.heap.size w ao zs := h

/-- what a round leaves as it was: all below block N, and the box Bo -/
def Keep (N Bo : Nat) (W W' : World) : Prop := Below N W W' ∧ ∀ v, W.cell? ⟨Bo, 0, none⟩ = some v → W'.cell? ⟨Bo, 0, none⟩ = some v
theorem keep_t {N Bo : Nat} {A B C : World} (h : Keep N Bo A B) (k : Keep N Bo B C) : Keep N Bo A C := ⟨h.1.trans k.1, fun v hv => k.2 v (h.2 v hv)⟩
theorem keep_b {N Bo : Nat} {w : World} (hn : N ≤ w.heap.size) (W : World) (l : Nat) (o o' : Obj) (hl : w.heap.size ≤ l) (h : W.heap[l]? = some o) (hc : o.isCells = false) (hw : o.isWalk = false) : Keep N Bo W (W.putObj l o') :=
  ⟨belowK_b hn W l o o' hl h hc hw, fun _ hv => cell_kept hv (grownBy_putObj' W l o') (fun r e => by cases e; exact ⟨o, h, hc⟩)⟩

theorem val_int {k : IntKind} {a b : Int} (h : a = b) : Value.int k a = Value.int k b := by rw [h]
theorem wk_of (zs : List Int) (y : Int) : wk zs y = (decide ((y + 5) % 7 < 5) && !decide (y ∈ zs)) := rfl

set_option maxRecDepth 100000 in
set_option maxHeartbeats 2000000 in
theorem behind_in (n : Nat) (hn : 1 ≤ n) (l Bd Bo N c : Nat) (ao : Option Addr) (zs : List Int) (d : Int) (hd : dOk d = true) (ho : offOk zs = true) (J Jx : List Int → World → Prop)
    (hY : ∀ pre x W, J pre W → pre.length < (wd zs (80000 - d).toNat).length → YieldAt Fence.wide (n - 1) Tryd.prog l #[.int .i64 x] W fun e W' =>
      (e = .returned (.bool true) ∧ J (pre ++ [x]) W' ∧ Keep N Bo W W') ∨ (e = .returned (.bool false) ∧ Jx (pre ++ [x]) W'))
    (W : World) (hN : N ≤ W.heap.size) (cd : W.cell? ⟨Bd, 0, none⟩ = some (.int .i64 d)) (co : W.cell? ⟨Bo, 0, none⟩ = some (.slice ao zs.length c)) (hz : IntsIn N W ao zs) (h0 : J [] W) :
    CallsIn Fence.wide n Tryd.prog 77 #[.func (.yield l) #[] #[], .pointer (some ⟨Bd, 0, none⟩), .pointer (some ⟨Bo, 0, none⟩)] W fun e W' => (∃ v, e = .returned v) ∧
      ((∃ ys, ys = wd zs (80000 - d).toNat ∧ J ys W') ∨ (∃ pre, pre <+: wd zs (80000 - d).toNat ∧ Jx pre W')) := by
  have hb := dOk_bd hd
  have HL : Hid _ := off_len ho
  have HA : Hid _ := off_asc ho
  clear hd ho
  refine callsIn_of_wp Tryd.func77 rfl trivial ?_ rfl
  simp only [Tryd.ntmps77, List.size_toArray, List.length_cons, List.length_nil, Nat.reduceAdd, Nat.reduceSub, Array.replicate_succ, Array.replicate_zero, List.push_toArray, List.append_toArray, List.nil_append, List.cons_append]
  gi_wp2
  gi_loopw [4] (fun p wr => ∃ (f : Nat) (pre : List Int), f ≤ 80000 ∧ p = .int .i64 (80001 - f) ∧ pre ++ wd zs f = wd zs (80000 - d).toNat ∧ J pre wr ∧ Keep N Bo W wr) (fun p _ => (80001 - intOf p).toNat)
  case atStart => exact ⟨(80000 - d).toNat, [], by omega, val_int (by omega), rfl, h0, Below.refl _ _, fun _ h => h⟩
  case round =>
    obtain ⟨f, pre, hf, rfl, hx, hJs, hk⟩ := hrel
    have HX : Hid _ := hx
    clear hx
    obtain ⟨y, hy⟩ : ∃ y : Int, 80001 - (f : Int) = y := ⟨_, rfl⟩
    rw [hy]
    have HY : Hid _ := hy
    by_cases hyl : y ≤ 80000
    · obtain ⟨g, rfl⟩ : ∃ g, f = g + 1 := ⟨f - 1, by omega⟩
      have hyg : 80000 - (g : Int) = y := by omega
      have hyd : dOk y = true := dOk_pos (by omega) hyl
      have HG : Hid _ := hyg
      have hy0 : 0 ≤ y := by omega
      clear hy hyg
      have hwe := wk_of zs y
      have HW : Hid _ := hwe
      clear hwe
      have co' : wr.cell? ⟨Bo, 0, none⟩ = some (.slice ao zs.length c) := hk.2 _ co
      have HZ : Hid (IntsAt wr ao zs) := (hz.keep hk.1).at (Nat.le_trans hN hk.1.size)
      have hn' : 1 ≤ n := hn
      by_cases h5 : (y + 5) % 7 < 5
      · have hdec : decide ((y + 5) % 7 < 5) = true := decide_eq_true h5
        by_cases hin : y ∈ zs
        · have hdin : decide (y ∈ zs) = true := decide_eq_true hin
          have HN : Hid (wk zs y = false) := by rw [Hid, HW.out, hdec, hdin]; rfl
          clear h5 hin
          gi_wp2_with fail
          refine ⟨trivial, (callsIn_wide.2 (weekend_any _ _ hyd)).mono ?_⟩
          rintro e w1 ⟨rfl, hw1⟩
          subst hw1
          rw [hdec]
          gi_wp2_with fail
          refine ⟨trivial, (callsIn_wide.2 (has_any _ _ _ zs _ HZ.out HL.out HA.out)).mono ?_⟩
          rintro e w1 ⟨rfl, hw1⟩
          subst hw1
          rw [hdin]
          gi_wp2
          go_roundw
          case rel => exact ⟨g, pre, by omega, val_int (by have := HG.out; omega), by rw [← HX.out, wd_no (by rw [HG.out]; exact HN.out)], hJs, hk⟩
          case measure => simp [intOf]; have := HG.out; omega
        · have hdin : decide (y ∈ zs) = false := decide_eq_false hin
          have HN : Hid (wk zs y = true) := by rw [Hid, HW.out, hdec, hdin]; rfl
          have HX2 : Hid (wd zs (80000 - d).toNat = (pre ++ [y]) ++ wd zs g) := by rw [Hid, ← HX.out, wd_yes (by rw [HG.out]; exact HN.out), HG.out]; simp
          clear h5 hin
          obtain ⟨fn, tmps, assign, body, hyy, hR⟩ := hY pre y wr hJs (by rw [HX2.out]; simp)
          gi_wp2_with fail
          refine ⟨trivial, (callsIn_wide.2 (weekend_any _ _ hyd)).mono ?_⟩
          rintro e w1 ⟨rfl, hw1⟩
          subst hw1
          rw [hdec]
          gi_wp2_with fail
          refine ⟨trivial, (callsIn_wide.2 (has_any _ _ _ zs _ HZ.out HL.out HA.out)).mono ?_⟩
          rintro e w1 ⟨rfl, hw1⟩
          subst hw1
          rw [hdin]
          gi_wp2
          refine hR.mono ?_
          rintro e W3 (⟨rfl, hJ3, hk3⟩ | ⟨rfl, hJx3⟩)
          · gi_wp2
            go_roundw
            case rel => exact ⟨g, pre ++ [y], by omega, val_int (by have := HG.out; omega), HX2.out.symm, hJ3, keep_t hk hk3⟩
            case measure => simp [intOf]; have := HG.out; omega
          · gi_wp2
            refine bodyPost_ret (results_none rfl _ _ _) rfl ?_
            exact ⟨⟨_, rfl⟩, .inr ⟨pre ++ [y], ⟨wd zs g, HX2.out.symm⟩, hJx3⟩⟩
      · have hdec : decide ((y + 5) % 7 < 5) = false := decide_eq_false h5
        have HN : Hid (wk zs y = false) := by rw [Hid, HW.out, hdec]; rfl
        clear h5
        gi_wp2_with fail
        refine ⟨trivial, (callsIn_wide.2 (weekend_any _ _ hyd)).mono ?_⟩
        rintro e w1 ⟨rfl, hw1⟩
        subst hw1
        rw [hdec]
        gi_wp2
        refine ⟨trivial, ?_⟩
        gi_wp2
        go_roundw
        case rel => exact ⟨g, pre, by omega, val_int (by have := HG.out; omega), by rw [← HX.out, wd_no (by rw [HG.out]; exact HN.out)], hJs, hk⟩
        case measure => simp [intOf]; have := HG.out; omega
    · have hf0 : f = 0 := by omega
      subst hf0
      clear hy
      gi_wp2
      go_end0
      exact ⟨⟨_, rfl⟩, .inl (by rw [← HX.out]; simpa [wd] using hJs)⟩

theorem behind_stops (n : Nat) (hn : 1 ≤ n) (Bd Bo N c : Nat) (ao : Option Addr) (zs : List Int) (d : Int) (w : World) (hd : dOk d = true) (ho : offOk zs = true) (hBd : Bd < w.heap.size) (hBo : Bo < w.heap.size) (hN : N ≤ w.heap.size)
    (cd : w.cell? ⟨Bd, 0, none⟩ = some (.int .i64 d)) (co : w.cell? ⟨Bo, 0, none⟩ = some (.slice ao zs.length c)) (hz : IntsIn N w ao zs) :
    SeqStopsK Fence.wide n Tryd.prog 77 #[.pointer (some ⟨Bd, 0, none⟩), .pointer (some ⟨Bo, 0, none⟩)] (fun x : Int => #[Value.int .i64 x]) (Keep N Bo)
      (fun ys => ys = wd zs (80000 - d).toNat) (fun pre => pre <+: wd zs (80000 - d).toNat) (wd zs (80000 - d).toNat).length w := fun l J Jx W hW _ _ hY h0 =>
  behind_in n hn l Bd Bo N c ao zs d hd ho J Jx hY W (Nat.le_trans hN hW.size) ((hW.cell (p := ⟨Bd, 0, none⟩) hBd).trans cd) ((hW.cell (p := ⟨Bo, 0, none⟩) hBo).trans co) (hz.keep (hW.mono hN)) h0

set_option maxHeartbeats 400000 in
theorem workBehind_any (ao : Option Addr) (m c : Nat) (d : Int) (w : World) :
    Calls Tryd.prog 56 #[.slice ao m c, .int .i64 d] w fun e w' =>
      e = .returned (.func (.func 77) #[] #[.pointer (some ⟨w.heap.size + 1, 0, none⟩), .pointer (some ⟨w.heap.size, 0, none⟩)]) ∧
      w' = (w.alloc (.cells #[.slice ao m c] 52)).alloc (.cells #[.int .i64 d] 3) := by
  go_enter Tryd.func56, Tryd.ntmps56
  go_wp2
  go_ret
  exact ⟨rfl, rfl⟩

end Go.Proofs.YtenbhmmknejcjaaDoor

/- A byte of the code, as a law reads it. -/
namespace Go.Proofs.YtenbhmmknejcjaaDoor
open Go.RowKit

set_option maxHeartbeats 400000 in
theorem at_any (a : Option Addr) (len cap : Nat) (zs : List Int) (w : World) (hr : IsRow .u8 w a len cap zs) (hn : len ≤ 1048576) :
    Calls Tryd.prog 17 #[.slice a len cap, .int .i64 3] w fun e w' => ∃ k : Nat, k ≤ 255 ∧ e = .returned (.int .i64 k) ∧ w' = w := by
  by_cases h3 : 3 < len
  · have hb := bytes_of_row (g := w.heap.size) hr (Nat.le_refl _)
    rcases hb with h0 | ⟨b, off, rfl, _, _, hbytes⟩
    · omega
    · obtain ⟨v, v0, v1, cb⟩ := hbytes 3 h3
      obtain ⟨k, rfl⟩ := Int.eq_ofNat_of_zero_le v0
      have h3i : (3 : Int) < (len : Int) := by omega
      clear hbytes hr
      go_enter Tryd.func17, Tryd.ntmps17
      go_wp2
      go_ret
      exact ⟨k, by omega, rfl, rfl⟩
  · have h3i : ¬ (3 : Int) < (len : Int) := by omega
    clear hr
    go_enter Tryd.func17, Tryd.ntmps17
    go_wp2
    go_ret
    exact ⟨(21 + len) % 256, by omega, one_int (by omega), rfl⟩


end Go.Proofs.YtenbhmmknejcjaaDoor
