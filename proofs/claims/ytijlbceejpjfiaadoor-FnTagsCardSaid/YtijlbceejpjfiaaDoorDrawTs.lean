/- What is drawn for the law of tags: a list; a text; a list, a number and a text. Whatever the bytes. -/
import Derived.Test.YtijlbceejpjfiaaDoorDrawTg
import Derived.Test.YtijlbceejpjfiaaDoorFPutT
import Derived.Deep.RegionWith
namespace Go.Proofs.YtijlbceejpjfiaaDoor
open Go.RowKit

theorem flds_grown {w w' : World} {g : Nat} {ao : Option Addr} {fs : List Fld} (h : FldsAt w ao fs) (hg : w.grownBy w' (some g)) (hb : ∀ x, ao = some x → g < x.block) : FldsAt w' ao fs := by
  rcases h with h | ⟨b, off, h1, h2, h3⟩
  · exact .inl h
  · have hne := hb _ h1
    simp only at hne
    exact .inr ⟨b, off, h1, Nat.lt_of_lt_of_le h2 hg.size, fun i hi => ⟨hg.cell (a := ⟨b, off + i * 2, none⟩) (h3 i hi).1 (by simp; omega), hg.cell (a := ⟨b, off + i * 2 + 1, none⟩) (h3 i hi).2 (by simp; omega)⟩⟩
theorem drawn_grown {w w' : World} {g : Nat} {ao : Option Addr} {fs : List Fld} (h : DrawnT w ao fs) (hg : w.grownBy w' (some g)) (hb : ∀ x, ao = some x → g < x.block) : DrawnT w' ao fs := ⟨h.1, h.2.1, flds_grown h.2.2 hg hb⟩
theorem drawn_below {w w' : World} {ao : Option Addr} {fs : List Fld} (h : DrawnT w ao fs) (hb : Below w.heap.size w w') : DrawnT w' ao fs := ⟨h.1, h.2.1, h.2.2.below hb⟩

set_option maxRecDepth 100000 in
set_option maxHeartbeats 800000 in
theorem drawPT_any (a : Option Addr) (len cap : Nat) (zs : List Int) (w : World) (hr : IsRow .u8 w a len cap zs) (hn : len ≤ 1048576) :
    Calls Tryd.prog 7 #[.slice a len cap] w fun e w' => ∃ (ao : Option Addr) (c : Nat) (fs : List Fld), e = .returned (.slice ao fs.length c) ∧ DrawnT w' ao fs ∧ Below w.heap.size w w' := by
  go_enter Tryd.func7, Tryd.ntmps7
  go_wp2_with fail
  refine (new_any _ _ _ _ _ hr hn).mono ?_
  rintro e w1 ⟨rfl, c1, b1⟩
  clear hr
  go_wp2_with fail
  refine (tagsD_any _ _ c1).mono ?_
  rintro e w2 ⟨ao, c, fs, rfl, hd, c2, g2, hb⟩
  go_wp2
  go_ret
  exact ⟨ao, c, fs, rfl, hd, bel_grown b1 g2 (Nat.le_refl _)⟩

theorem strs_lit (w : World) (zs : List (List UInt8)) (arr : Array Value) (h : arr = (zs.map fun l => Value.string ⟨l.toArray⟩).toArray) :
    ∀ i, i < zs.length → (w.alloc (.cells arr 9)).cell? ⟨w.heap.size, i, none⟩ = some (.string ⟨(zs.getD i []).toArray⟩) := by
  intro i hi
  subst h
  simp [List.getD_eq_getElem?_getD, hi]

set_option maxRecDepth 100000 in
set_option maxHeartbeats 800000 in
theorem pickS_any {B : Nat} (g b cap : Nat) (zs : List (List UInt8)) (w : World) (hc : Cursor B w g) (hbg : b ≠ g) (hz : ∀ i, i < zs.length → w.cell? ⟨b, i, none⟩ = some (.string ⟨(zs.getD i []).toArray⟩)) (h1 : 1 ≤ zs.length) (h2 : zs.length ≤ 1000) :
    Calls Tryd.prog 31 #[.pointer (some ⟨g, 0, none⟩), .slice (some ⟨b, 0, none⟩) zs.length cap] w fun e w' => ∃ x : List UInt8, e = .returned (.string ⟨x.toArray⟩) ∧ x ∈ zs ∧ Cursor B w' g ∧ w.grownBy w' (some g) := by
  go_enter Tryd.func31, Tryd.ntmps31
  go_wp2_with fail
  refine (below_any _ _ _ hc (by omega)).mono ?_
  rintro e w1 ⟨x, rfl, x0, x1, c1, g1⟩
  have hx := x1 (by omega)
  obtain ⟨k, rfl⟩ := Int.eq_ofNat_of_zero_le x0
  have hk : k < zs.length := by omega
  have cb : w1.cell? ⟨b, k, none⟩ = some (.string ⟨(zs.getD k []).toArray⟩) := g1.cell (a := ⟨b, k, none⟩) (hz k hk) (by simpa using hbg)
  have hm : zs.getD k [] ∈ zs := by simp [List.getD_eq_getElem?_getD, hk]
  generalize zs.getD k [] = z at cb hm
  clear hz x1
  go_wp2
  go_ret
  exact ⟨z, rfl, hm, c1, g1⟩

theorem putL_le (fs : List Fld) : (putL fs).length ≤ 999 := by
  cases h : putOk fs
  · rw [putL_no h]; simp
  · rw [putL_yes h]; exact (putOk_parts h).2

set_option maxRecDepth 100000 in
set_option maxHeartbeats 3200000 in
theorem drawGT_any (a : Option Addr) (len cap : Nat) (zs : List Int) (w : World) (hr : IsRow .u8 w a len cap zs) (hn : len ≤ 1048576) :
    Calls Tryd.prog 10 #[.slice a len cap] w fun e w' => ∃ l : List UInt8, e = .returned (.string ⟨l.toArray⟩) ∧ l.length ≤ 2000 ∧ Below w.heap.size w w' := by
  go_enter Tryd.func10, Tryd.ntmps10
  go_wp2_with fail
  refine (new_any _ _ _ _ _ hr hn).mono ?_
  rintro e w1 ⟨rfl, c1, b1⟩
  clear hr
  go_wp2_with fail
  refine (tagsD_any _ _ c1).mono ?_
  rintro e w2 ⟨ao, c, fs, rfl, ⟨hd1, hd2, hd3⟩, c2, g2, hb⟩
  have q2 := bel_grown b1 g2 (Nat.le_refl _)
  go_wp2_with fail
  refine (sPutTags_any _ _ _ _ hd3 (by omega) (fun f hf => by have := hd2 f hf; omega)).mono ?_
  rintro e w3 ⟨rfl, b3⟩
  have c3 := cursor_below c2 b3
  have q3 := next q2 b3
  have hpl := putL_le fs
  generalize putL fs = s at hpl
  generalize putOk fs = ok
  clear c1 b1 c2 g2 b3 q2 hb hd1 hd2 hd3
  go_wp2_with fail
  refine (below_any _ _ _ c3 (by omega)).mono ?_
  rintro e w4 ⟨x, rfl, x0, x1, c4, g4⟩
  have hx := x1 (by omega)
  have q4 := bel_grown q3 g4 (Nat.le_refl _)
  obtain ⟨X, rfl⟩ := Int.eq_ofNat_of_zero_le x0
  have hX : X ≤ s.length := by omega
  have i1 : (0 : Int) ≤ (X : Int) := by omega
  have i2 : (X : Int) ≤ (s.length : Int) := by omega
  have e1 := ba_extract s 0 X
  have e2 := ba_extract s X s.length
  obtain ⟨P, hP⟩ : ∃ P, (s.drop 0).take (X - 0) = P := ⟨_, rfl⟩
  obtain ⟨Q, hQ⟩ : ∃ Q, (s.drop X).take (s.length - X) = Q := ⟨_, rfl⟩
  have hPl : P.length ≤ 999 := by rw [← hP, List.length_take]; simp; omega
  have hQl : Q.length ≤ 999 := by rw [← hQ, List.length_take]; simp; omega
  rw [hP] at e1
  rw [hQ] at e2
  clear c3 g4 q3 x1 hP hQ hx
  go_wp2_with fail
  refine (below_any _ _ _ c4 (by omega)).mono ?_
  rintro e w5 ⟨y, rfl, y0, y1, c5, g5⟩
  have q5 := bel_grown q4 g5 (Nat.le_refl _)
  clear c4 g5 q4 y1
  by_cases h0 : y = 0
  · subst h0
    go_wp2
    go_ret
    exact ⟨P, rfl, by omega, q5⟩
  have h0' : (y == 0) = false := by simpa using h0
  by_cases h1 : y = 1
  · subst h1
    have hgs : w.heap.size < w5.heap.size := by have := cursor_bd c5; omega
    go_wp2
    go_region_with (refine (pickS_any _ w5.heap.size 3 [[48], [120], [32]] _ (cursor_below c5 (by go_grown)) (by omega) (by intro i hi; have hi3 : i < 3 := hi; rcases (show i = 0 ∨ i = 1 ∨ i = 2 by omega) with rfl | rfl | rfl <;> simp [go_sem]) (by decide) (by decide)).mono ?_; rintro e w6 ⟨u, rfl, hu, c6, g6⟩; have hul : u.length ≤ 1 := (by decide : ∀ z ∈ ([[48], [120], [32]] : List (List UInt8)), z.length ≤ 1) u hu; clear hu)
    all_goals
      have q6 : Below w.heap.size w w6 := (q5.trans (Below.mono (by go_grown) q5.size)).grown g6 (by simp <;> omega) (fun k hk => by cases hk; exact Nat.le_refl _)
      go_wp2
      go_ret
      exact ⟨P ++ u ++ Q, one_str (by rw [ba_append, ba_append]), by simp; omega, q6⟩
  · have h1' : (y == 1) = false := by simpa using h1
    go_wp2
    go_ret
    exact ⟨s, rfl, by omega, q5⟩

/-- what is drawn as a list and a number -/
def DrewO (B g : Nat) (w : World) (e : Ending) (w' : World) : Prop :=
  ∃ (ao : Option Addr) (c : Nat) (fs : List Fld) (n : Int), e = .returned (.tuple #[.slice ao fs.length c, .int .i64 n]) ∧ DrawnT w' ao fs ∧ Cursor B w' g ∧ w.grownBy w' (some g) ∧ ∀ x, ao = some x → g < x.block

set_option maxRecDepth 100000 in
set_option maxHeartbeats 3200000 in
theorem oneT_any {B : Nat} (g : Nat) (w : World) (hc : Cursor B w g) :
    Calls Tryd.prog 35 #[.pointer (some ⟨g, 0, none⟩)] w (DrewO B g w) := by
  go_enter Tryd.func35, Tryd.ntmps35
  go_wp2_with fail
  refine (tagsD_any _ _ hc).mono ?_
  rintro e w1 ⟨ao, c, fs, rfl, hd, c1, g1, hb⟩
  clear hc
  by_cases h0 : 0 < fs.length
  · have h0i : (0 : Int) < (fs.length : Int) := by omega
    have h0d : decide ((0 : Int) < (fs.length : Int)) = true := decide_eq_true h0i
    go_wp2_with fail
    refine (once_any _ _ _ c1 (by omega)).mono ?_
    rintro e w2 ⟨q, rfl, c2, g2⟩
    have d2 := drawn_grown hd g2 hb
    have b2 := g1.trans g2
    clear hd c1 g1 g2
    cases q
    · go_wp2_with fail
      refine (below_any _ _ _ c2 (by omega)).mono ?_
      rintro e w3 ⟨x, rfl, x0, x1, c3, g3⟩
      have d3 := drawn_grown d2 g3 hb
      have b3 := b2.trans g3
      clear d2 c2 b2 g3 x1
      go_wp2
      go_ret2
      exact ⟨ao, c, fs, x, rfl, d3, c3, b3, hb⟩
    · obtain ⟨b, off, rfl, hbl, hcell⟩ : ∃ b off, ao = some ⟨b, off, none⟩ ∧ b < w2.heap.size ∧ ∀ i, i < fs.length → w2.cell? ⟨b, off + i * 2, none⟩ = some (.int .i64 (at0 fs i).1) ∧ w2.cell? ⟨b, off + i * 2 + 1, none⟩ = some (.string ⟨(at0 fs i).2.toArray⟩) := by
        rcases d2.2.2 with h | h
        · rw [h] at h0; simp at h0
        · exact h
      have HC : Hid (∀ i, i < fs.length → w2.cell? ⟨b, off + i * 2, none⟩ = some (.int .i64 (at0 fs i).1)) := fun i hi => (hcell i hi).1
      have hbg : g < b := hb _ rfl
      have HD : Hid (DrawnT w2 (some ⟨b, off, none⟩) fs) := d2
      have hfl : fs.length ≤ 100 := d2.1
      clear hcell d2
      go_wp2
      go_region_with (refine (below_any _ _ _ (cursor_below c2 (Below.refl _ _).drew) (by omega)).mono ?_; rintro e w3 ⟨x, rfl, x0, x1, c3, g3⟩; have hx := x1 (by omega); obtain ⟨X, hXe⟩ := Int.eq_ofNat_of_zero_le x0; rw [hXe] at hx; have hX : X < fs.length := Int.ofNat_lt.1 hx; rw [hXe]; have hXi : (X : Int) < (fs.length : Int) := hx; have g3' : w2.grownBy w3 (some g) := ⟨g3.os, g3.tape, g3.output, g3.size, g3.block⟩; have hne : (some b : Option Nat) ≠ some g := fun h => Nat.lt_irrefl g ((Option.some.inj h) ▸ hbg); have c3c := g3'.cell (a := ⟨b, off + X * 2, none⟩) (HC.out X hX) hne)
      all_goals
        have d3 := drawn_grown HD.out g3' hb
        obtain ⟨N, hN⟩ : ∃ N, (at0 fs X).1 = N := ⟨_, rfl⟩
        rw [hN] at *
        go_wp2
        go_ret2
        exact ⟨_, c, fs, _, rfl, d3, c3, b2.trans g3', hb⟩
  · have h0i : ¬ (0 : Int) < (fs.length : Int) := by omega
    have h0d : decide ((0 : Int) < (fs.length : Int)) = false := decide_eq_false h0i
    go_wp2_with fail
    refine (below_any _ _ _ c1 (by omega)).mono ?_
    rintro e w3 ⟨x, rfl, x0, x1, c3, g3⟩
    have d3 := drawn_grown hd g3 hb
    have b3 := g1.trans g3
    clear hd c1 g1 g3 x1
    go_wp2
    go_ret2
    exact ⟨ao, c, fs, x, rfl, d3, c3, b3, hb⟩

set_option maxRecDepth 100000 in
set_option maxHeartbeats 1600000 in
theorem drawTS_any (a : Option Addr) (len cap : Nat) (zs : List Int) (w : World) (hr : IsRow .u8 w a len cap zs) (hn : len ≤ 1048576) :
    Calls Tryd.prog 14 #[.slice a len cap] w fun e w' => ∃ (ao : Option Addr) (c : Nat) (fs : List Fld) (n : Int) (d : List UInt8), e = .returned (.tuple #[.slice ao fs.length c, .int .i64 n, .string ⟨d.toArray⟩]) ∧ DrawnT w' ao fs ∧ d.length ≤ 9 ∧ Below w.heap.size w w' := by
  go_enter Tryd.func14, Tryd.ntmps14
  go_wp2_with fail
  refine (new_any _ _ _ _ _ hr hn).mono ?_
  rintro e w1 ⟨rfl, c1, b1⟩
  clear hr
  go_wp2_with fail
  refine (oneT_any _ _ c1).mono ?_
  rintro e w2 ⟨ao, c, fs, n, rfl, d2, c2, g2, hb⟩
  have q2 := bel_grown b1 g2 (Nat.le_refl _)
  clear c1 b1 g2
  go_wp2_with fail
  refine (below_any _ _ _ c2 (by omega)).mono ?_
  rintro e w3 ⟨x, rfl, x0, x1, c3, g3⟩
  have hx := x1 (by omega)
  have d3 := drawn_grown d2 g3 hb
  have q3 := bel_grown q2 g3 (Nat.le_refl _)
  obtain ⟨X, rfl⟩ := Int.eq_ofNat_of_zero_le x0
  clear d2 c2 g3 q2 x1
  go_wp2_with fail
  refine (textG_any _ X _ c3 (by omega)).mono ?_
  rintro e w4 ⟨s, rfl, hsl, c4, g4⟩
  have d4 := drawn_grown d3 g4 hb
  have q4 := bel_grown q3 g4 (Nat.le_refl _)
  clear d3 c3 g4 q3
  go_wp2
  refine bodyPost_ret (by simp [results, Tryd.results14, go_sem]; try rfl) rfl ?_
  exact ⟨ao, c, fs, n, s, rfl, d4, by omega, q4⟩

end Go.Proofs.YtijlbceejpjfiaaDoor
