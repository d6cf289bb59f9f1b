/- A drawn entry. -/
import Derived.Test.YtnimlgdackgcoaaGreatDoorDrawn
import Derived.Test.YtnimlgdackgcoaaGreatDoorLns
import Derived.Handy
import Derived.Deep.DeepCutAuto
namespace Go.Proofs.YtnimlgdackgcoaaGreatDoor
open Go.RowKit
set_option maxRecDepth 100000

/-- small numbers -/
def Sm (x : Int) : Prop := -2000000000000 ≤ x ∧ x ≤ 2000000000000
def EnSm (e : En) : Prop := Sm e.1 ∧ Sm e.2.1 ∧ Sm e.2.2.1 ∧ Sm e.2.2.2
theorem sm_wf {x : Int} (h : Sm x) : wf64 x := WalkArith.wf_i64 (by unfold Sm at h; omega)
theorem enSm_bd {e : En} (h : EnSm e) : enBd e := ⟨sm_wf h.1, sm_wf h.2.1, sm_wf h.2.2.1, sm_wf h.2.2.2⟩
/-- four numbers in a box that may be written -/
structure Q4 (s : Nat) (x y z t : Int) (u : World) : Prop where
  c0 : u.cell? ⟨s, 0, none⟩ = some (.int .i64 x)
  c1 : u.cell? ⟨s, 1, none⟩ = some (.int .i64 y)
  c2 : u.cell? ⟨s, 2, none⟩ = some (.int .i64 z)
  c3 : u.cell? ⟨s, 3, none⟩ = some (.int .i64 t)
  f0 : u.frozen? ⟨s, 0, none⟩ = false
  f1 : u.frozen? ⟨s, 1, none⟩ = false
  f2 : u.frozen? ⟨s, 2, none⟩ = false
  f3 : u.frozen? ⟨s, 3, none⟩ = false
theorem Q4.lt {s : Nat} {x y z t : Int} {u : World} (h : Q4 s x y z t u) : s < u.heap.size := World.block_lt_of_cell? u _ h.c0
theorem Q4.grown {s : Nat} {x y z t : Int} {u u' : World} {row : Option Nat} (h : Q4 s x y z t u) (g : u.grownBy u' row) (hr : some s ≠ row) : Q4 s x y z t u' := by
  have hs := h.lt
  exact ⟨(g.cell_far ⟨s, 0, none⟩ hs hr).trans h.c0, (g.cell_far ⟨s, 1, none⟩ hs hr).trans h.c1, (g.cell_far ⟨s, 2, none⟩ hs hr).trans h.c2, (g.cell_far ⟨s, 3, none⟩ hs hr).trans h.c3,
    (g.frozen_far ⟨s, 0, none⟩ hs hr).trans h.f0, (g.frozen_far ⟨s, 1, none⟩ hs hr).trans h.f1, (g.frozen_far ⟨s, 2, none⟩ hs hr).trans h.f2, (g.frozen_far ⟨s, 3, none⟩ hs hr).trans h.f3⟩
theorem q4_new (u : World) (x y z t : Int) (ty : TypeId) : Q4 u.heap.size x y z t (u.alloc (.cells #[.int .i64 x, .int .i64 y, .int .i64 z, .int .i64 t] ty)) :=
  ⟨by simp, by simp, by simp, by simp, by simp [go_sem], by simp [go_sem], by simp [go_sem], by simp [go_sem]⟩
theorem Q4.set0 {s : Nat} {x y z t : Int} {u : World} (h : Q4 s x y z t u) (v : Int) : Q4 s v y z t (u.setCell ⟨s, 0, none⟩ (.int .i64 v)) := by
  obtain ⟨a, b, c, d, e, f, g, i⟩ := h
  exact ⟨by simp [go_sem, a], by simp [go_sem, b], by simp [go_sem, c], by simp [go_sem, d], by simp [go_sem, e], by simp [go_sem, f], by simp [go_sem, g], by simp [go_sem, i]⟩
theorem Q4.set1 {s : Nat} {x y z t : Int} {u : World} (h : Q4 s x y z t u) (v : Int) : Q4 s x v z t (u.setCell ⟨s, 1, none⟩ (.int .i64 v)) := by
  obtain ⟨a, b, c, d, e, f, g, i⟩ := h
  exact ⟨by simp [go_sem, a], by simp [go_sem, b], by simp [go_sem, c], by simp [go_sem, d], by simp [go_sem, e], by simp [go_sem, f], by simp [go_sem, g], by simp [go_sem, i]⟩
theorem Q4.set2 {s : Nat} {x y z t : Int} {u : World} (h : Q4 s x y z t u) (v : Int) : Q4 s x y v t (u.setCell ⟨s, 2, none⟩ (.int .i64 v)) := by
  obtain ⟨a, b, c, d, e, f, g, i⟩ := h
  exact ⟨by simp [go_sem, a], by simp [go_sem, b], by simp [go_sem, c], by simp [go_sem, d], by simp [go_sem, e], by simp [go_sem, f], by simp [go_sem, g], by simp [go_sem, i]⟩
theorem Q4.set3 {s : Nat} {x y z t : Int} {u : World} (h : Q4 s x y z t u) (v : Int) : Q4 s x y z v (u.setCell ⟨s, 3, none⟩ (.int .i64 v)) := by
  obtain ⟨a, b, c, d, e, f, g, i⟩ := h
  exact ⟨by simp [go_sem, a], by simp [go_sem, b], by simp [go_sem, c], by simp [go_sem, d], by simp [go_sem, e], by simp [go_sem, f], by simp [go_sem, g], by simp [go_sem, i]⟩
theorem set_new {w u : World} {g s k : Nat} {v : Value} (h : w.grownBy u (some g)) (hs : w.heap.size ≤ s) : w.grownBy (u.setCell ⟨s, k, none⟩ v) (some g) :=
  ⟨h.os, h.tape, h.output, by have := h.size; simpa using this, fun i hi hne => by rw [Below.heap_setCell _ _ _ _ (show i ≠ s by omega)]; exact h.block i hi hne⟩
theorem cur_set {B : Nat} {u : World} {g s k : Nat} {v : Value} (h : Cursor B u g) (hs : B ≤ s) : Cursor B (u.setCell ⟨s, k, none⟩ v) g :=
  cursor_keep h ((Below.refl _ _).setCell hs _)
def EnD (B g : Nat) (w : World) (e : Ending) (w' : World) : Prop :=
  ∃ a b c m, e = .returned (.agg #[.int .i64 a, .int .i64 b, .int .i64 c, .int .i64 m]) ∧ EnSm (a, b, c, m) ∧ Cursor B w' g ∧ w.grownBy w' (some g)
theorem en_end {B g s : Nat} {w u : World} {a b' c m x y z t : Int} (hg : w.grownBy u (some g)) (hc : Cursor B u g) (hs : w.heap.size ≤ s) (hB : B ≤ w.heap.size) (hsm : EnSm (a, b', c, m)) (_h : Q4 s x y z t u) :
    EnD B g w (.returned (.agg #[.int .i64 a, .int .i64 b', .int .i64 c, .int .i64 m])) ((((u.setCell ⟨s, 0, none⟩ (.int .i64 a)).setCell ⟨s, 1, none⟩ (.int .i64 b')).setCell ⟨s, 2, none⟩ (.int .i64 c)).setCell ⟨s, 3, none⟩ (.int .i64 m)) :=
  ⟨a, b', c, m, rfl, hsm, cur_set (cur_set (cur_set (cur_set hc (by omega)) (by omega)) (by omega)) (by omega), set_new (set_new (set_new (set_new hg hs) hs) hs) hs⟩

set_option maxHeartbeats 6400000 in
theorem entryD_any {B : Nat} (g : Nat) (w : World) (hc : Cursor B w g) : Calls Tryz.prog 41 #[.pointer (some ⟨g, 0, none⟩)] w (EnD B g w) := by
  have cb := cursor_bd hc
  have c0 := cursor_alloc hc (.cells #[.int .i64 0, .int .i64 0, .int .i64 0, .int .i64 0] 35)
  have Q0 := q4_new w 0 0 0 0 35
  have G0 := grown_alloc w (.cells #[.int .i64 0, .int .i64 0, .int .i64 0, .int .i64 0] 35) (some g)
  have hgw : some w.heap.size ≠ some g := by simp; omega
  clear hc
  go_enter Tryz.func41, Tryz.ntmps41
  go_wp2_with fail
  refine (below_any _ _ _ c0 (by omega)).mono ?_
  rintro e w1 ⟨x, rfl, x0, x1, c1, g1⟩
  have hx6 := x1 (by omega)
  have Q1 := Q0.grown g1 hgw
  have G1 := G0.trans g1
  clear x1 g1 c0 Q0 G0
  go_wp2_with fail
  refine (below_any _ _ _ c1 (by omega)).mono ?_
  rintro e w2 ⟨y, rfl, y0, y1, c2, g2⟩
  have hy6 := y1 (by omega)
  have Q2 := Q1.grown g2 hgw
  have G2 := G1.trans g2
  clear y1 g2 c1 Q1 G1
  go_wp2_with fail
  refine (pickInt_any _ _ _ [840, 978, 392] _ (cursor_alloc c2 _) (cursor_ne c2) (lit_cells w2 [840, 978, 392] _ rfl) (by decide) (by decide)).mono ?_
  rintro e w3 ⟨cu, rfl, hcu, c3, g3⟩
  have hcb : 0 ≤ cu ∧ cu ≤ 1000 := by simp at hcu; omega
  have Q3 := (Q2.grown (grown_alloc w2 _ (some g)) hgw).grown g3 hgw
  have G3 := (G2.trans (grown_alloc w2 _ (some g))).trans g3
  clear hcu g3 c2 Q2 G2
  go_wp2_with fail
  refine (below_any _ _ _ c3 (by omega)).mono ?_
  rintro e w4 ⟨m, rfl, m0, m1, c4, g4⟩
  have hm5 := m1 (by omega)
  have Q4' := Q3.grown g4 hgw
  have G4 := G3.trans g4
  clear m1 g4 c3 Q3 G3
  have hw4 : w.heap.size < w4.heap.size := Q4'.lt
  obtain ⟨U, hU⟩ : ∃ U, U = w4.alloc (.cells #[.int .i64 (1 + x), .int .i64 (1 + y), .int .i64 cu, .int .i64 (1 + m)] 35) := ⟨_, rfl⟩
  have HQU : Hid (Q4 w4.heap.size (1 + x) (1 + y) cu (1 + m) U) := by rw [Hid, hU]; exact q4_new w4 _ _ _ _ _
  have HRU : Hid (Q4 w.heap.size 0 0 0 0 U) := by rw [Hid, hU]; exact Q4'.grown (grown_alloc w4 _ none) (by simp)
  have HGU : Hid (w.grownBy U (some g)) := by rw [Hid, hU]; exact G4.trans (grown_alloc w4 _ (some g))
  have HCU : Hid (Cursor B U g) := by rw [Hid, hU]; exact cursor_alloc c4 _
  obtain ⟨b, hb⟩ : ∃ b, b = w4.heap.size := ⟨_, rfl⟩
  have hgb : some b ≠ some g := by simp; omega
  have hsx : Sm (1 + x) := by unfold Sm; omega
  have hsy : Sm (1 + y) := by unfold Sm; omega
  have hsc : Sm cu := by unfold Sm; omega
  have hsm : Sm (1 + m) := by unfold Sm; omega
  obtain ⟨X, hX⟩ : ∃ X, X = 1 + x := ⟨_, rfl⟩
  obtain ⟨Y, hY⟩ : ∃ Y, Y = 1 + y := ⟨_, rfl⟩
  obtain ⟨M, hM⟩ : ∃ M, M = 1 + m := ⟨_, rfl⟩
  clear Q4' G4 c4
  go_upto_region 2 with fail
  rw [← hU, ← hb, ← hX, ← hY, ← hM]
  rw [← hb, ← hX, ← hY, ← hM] at HQU
  rw [← hX] at hsx
  rw [← hY] at hsy
  rw [← hM] at hsm
  have hbw : w.heap.size < b := by omega
  clear hU hb hX hY hM x0 y0 m0 hx6 hy6 hm5 hcb hw4
  have q0 := HQU.out.c0
  have q1 := HQU.out.c1
  by_cases hxy : X = Y
  · have hxy' : (X == Y) = true := by simpa using hxy
    have HXY : Hid _ := hxy
    clear hxy
    go_wp2_with fail
    refine (once_any _ _ _ HCU.out (by omega)).mono ?_
    rintro e w5 ⟨o, rfl, c5, g5⟩
    have HQ5 : Hid (Q4 b X Y cu M w5) := HQU.out.grown g5 hgb
    have HR5 : Hid (Q4 w.heap.size 0 0 0 0 w5) := HRU.out.grown g5 hgw
    have HG5 : Hid (w.grownBy w5 (some g)) := HGU.out.trans g5
    have HC5 : Hid (Cursor B w5 g) := c5
    clear g5 c5 q0 q1
    cases o
    · have d1 := HQ5.out.c1
      have e1 := HQ5.out.f1
      have HQ5' : Hid (Q4 b X 7 cu M (w5.setCell ⟨b, 1, none⟩ (.int .i64 7))) := HQ5.out.set1 7
      have HR5' : Hid (Q4 w.heap.size 0 0 0 0 (w5.setCell ⟨b, 1, none⟩ (.int .i64 7))) := HR5.out.grown (grown_set w5 b 1 _) (by simp; omega)
      have HG5' : Hid (w.grownBy (w5.setCell ⟨b, 1, none⟩ (.int .i64 7)) (some g)) := set_new HG5.out (by omega)
      have HC5' : Hid (Cursor B (w5.setCell ⟨b, 1, none⟩ (.int .i64 7)) g) := cur_set HC5.out (by omega)
      have hs7 : Sm 7 := by unfold Sm; omega
      obtain ⟨E, hE⟩ : ∃ E, E = w5.setCell ⟨b, 1, none⟩ (.int .i64 7) := ⟨_, rfl⟩
      rw [← hE] at HQ5' HR5' HG5' HC5'
      clear HQ5 HR5 HG5 HC5
      go_upto_region 4 with fail
      rw [← hE]
      clear hE d1 e1
      go_wp2_with fail
      refine (below_any _ _ _ HC5'.out (by omega)).mono ?_
      rintro e w6 ⟨z, rfl, z0, z1, c6, g6⟩
      have HQ6 : Hid (Q4 b X 7 cu M w6) := HQ5'.out.grown g6 hgb
      have HR6 : Hid (Q4 w.heap.size 0 0 0 0 w6) := HR5'.out.grown g6 hgw
      have HG6 : Hid (w.grownBy w6 (some g)) := HG5'.out.trans g6
      have HC6 : Hid (Cursor B w6 g) := c6
      clear g6 c6 z1
      by_cases h0 : z = 0
      · subst h0
        go_wp2_with fail
        refine (pickInt_any _ _ _ [0, -5, 1000000000000, 1000000000001] _ (cursor_alloc HC6.out _) (cursor_ne HC6.out) (lit_cells w6 [0, -5, 1000000000000, 1000000000001] _ rfl) (by decide) (by decide)).mono ?_
        rintro e w7 ⟨v, rfl, hv, c7, g7⟩
        have hsv : Sm v := by simp at hv; unfold Sm; omega
        have gA := grown_alloc w6 (.cells #[.int .i64 0, .int .i64 (-5), .int .i64 1000000000000, .int .i64 1000000000001] 3) (some g)
        have Q7 := (HQ6.out.grown gA hgb).grown g7 hgb
        have R7 := (HR6.out.grown gA hgw).grown g7 hgw
        have d3 := Q7.c3
        have e3 := Q7.f3
        have HQ8 : Hid (Q4 b X 7 cu v (w7.setCell ⟨b, 3, none⟩ (.int .i64 v))) := Q7.set3 v
        have HR8 : Hid (Q4 w.heap.size 0 0 0 0 (w7.setCell ⟨b, 3, none⟩ (.int .i64 v))) := R7.grown (grown_set w7 b 3 _) (by simp; omega)
        have HG8 : Hid (w.grownBy (w7.setCell ⟨b, 3, none⟩ (.int .i64 v)) (some g)) := set_new ((HG6.out.trans gA).trans g7) (by omega)
        have HC8 : Hid (Cursor B (w7.setCell ⟨b, 3, none⟩ (.int .i64 v)) g) := cur_set c7 (by omega)
        obtain ⟨F, hF⟩ : ∃ F, F = w7.setCell ⟨b, 3, none⟩ (.int .i64 v) := ⟨_, rfl⟩
        rw [← hF] at HQ8 HR8 HG8 HC8
        clear hv g7 c7 gA Q7 R7 HQ6 HR6 HG6 HC6
        go_upto_region 11 with fail
        rw [← hF]
        clear hF d3 e3
        obtain ⟨k0, k1, k2, k3, _, _, _, _⟩ := HQ8.out
        obtain ⟨r0, r1, r2, r3, s0, s1, s2, s3⟩ := HR8.out
        have HE : Hid _ := en_end (B := B) (w := w) HG8.out HC8.out (Nat.le_refl _) cb.2 (show EnSm (X, 7, cu, v) from ⟨hsx, hs7, hsc, hsv⟩) HR8.out
        clear cb hgb hgw
        go_wp2
        refine bodyPost_ret (by simp [results, Tryz.results41, go_sem, r0, r1, r2, r3]; try rfl) rfl ?_
        exact HE.out
      have h0' : (z == 0) = false := by simpa using h0
      by_cases h1 : z = 1
      · subst h1
        go_wp2_with fail
        refine (pickInt_any _ _ _ [0, 10000, 9999] _ (cursor_alloc HC6.out _) (cursor_ne HC6.out) (lit_cells w6 [0, 10000, 9999] _ rfl) (by decide) (by decide)).mono ?_
        rintro e w7 ⟨v, rfl, hv, c7, g7⟩
        have hsv : Sm v := by simp at hv; unfold Sm; omega
        have gA := grown_alloc w6 (.cells #[.int .i64 0, .int .i64 10000, .int .i64 9999] 3) (some g)
        have Q7 := (HQ6.out.grown gA hgb).grown g7 hgb
        have R7 := (HR6.out.grown gA hgw).grown g7 hgw
        have d3 := Q7.c0
        have e3 := Q7.f0
        have HQ8 : Hid (Q4 b v 7 cu M (w7.setCell ⟨b, 0, none⟩ (.int .i64 v))) := Q7.set0 v
        have HR8 : Hid (Q4 w.heap.size 0 0 0 0 (w7.setCell ⟨b, 0, none⟩ (.int .i64 v))) := R7.grown (grown_set w7 b 0 _) (by simp; omega)
        have HG8 : Hid (w.grownBy (w7.setCell ⟨b, 0, none⟩ (.int .i64 v)) (some g)) := set_new ((HG6.out.trans gA).trans g7) (by omega)
        have HC8 : Hid (Cursor B (w7.setCell ⟨b, 0, none⟩ (.int .i64 v)) g) := cur_set c7 (by omega)
        obtain ⟨F, hF⟩ : ∃ F, F = w7.setCell ⟨b, 0, none⟩ (.int .i64 v) := ⟨_, rfl⟩
        rw [← hF] at HQ8 HR8 HG8 HC8
        clear hv g7 c7 gA Q7 R7 HQ6 HR6 HG6 HC6 h0 h0'
        go_upto_region 11 with fail
        rw [← hF]
        clear hF d3 e3
        obtain ⟨k0, k1, k2, k3, _, _, _, _⟩ := HQ8.out
        obtain ⟨r0, r1, r2, r3, s0, s1, s2, s3⟩ := HR8.out
        have HE : Hid _ := en_end (B := B) (w := w) HG8.out HC8.out (Nat.le_refl _) cb.2 (show EnSm (v, 7, cu, M) from ⟨hsv, hs7, hsc, hsm⟩) HR8.out
        clear cb hgb hgw
        go_wp2
        refine bodyPost_ret (by simp [results, Tryz.results41, go_sem, r0, r1, r2, r3]; try rfl) rfl ?_
        exact HE.out
      have h1' : (z == 1) = false := by simpa using h1
      by_cases h2 : z = 2
      · subst h2
        have d3 := HQ6.out.c2
        have e3 := HQ6.out.f2
        have HQ8 : Hid (Q4 b X 7 1 M (w6.setCell ⟨b, 2, none⟩ (.int .i64 1))) := HQ6.out.set2 1
        have HR8 : Hid (Q4 w.heap.size 0 0 0 0 (w6.setCell ⟨b, 2, none⟩ (.int .i64 1))) := HR6.out.grown (grown_set w6 b 2 _) (by simp; omega)
        have HG8 : Hid (w.grownBy (w6.setCell ⟨b, 2, none⟩ (.int .i64 1)) (some g)) := set_new HG6.out (by omega)
        have HC8 : Hid (Cursor B (w6.setCell ⟨b, 2, none⟩ (.int .i64 1)) g) := cur_set HC6.out (by omega)
        obtain ⟨F, hF⟩ : ∃ F, F = w6.setCell ⟨b, 2, none⟩ (.int .i64 1) := ⟨_, rfl⟩
        rw [← hF] at HQ8 HR8 HG8 HC8
        clear HQ6 HR6 HG6 HC6 h0 h0' h1 h1'
        go_upto_region 11 with fail
        rw [← hF]
        clear hF d3 e3
        obtain ⟨k0, k1, k2, k3, _, _, _, _⟩ := HQ8.out
        obtain ⟨r0, r1, r2, r3, s0, s1, s2, s3⟩ := HR8.out
        have HE : Hid _ := en_end (B := B) (w := w) HG8.out HC8.out (Nat.le_refl _) cb.2 (show EnSm (X, 7, 1, M) from ⟨hsx, hs7, (by unfold Sm; simp only; omega), hsm⟩) HR8.out
        clear cb hgb hgw
        go_wp2
        refine bodyPost_ret (by simp [results, Tryz.results41, go_sem, r0, r1, r2, r3]; try rfl) rfl ?_
        exact HE.out
      have h2' : (z == 2) = false := by simpa using h2
      clear h0 h1 h2
      obtain ⟨k0, k1, k2, k3, _, _, _, _⟩ := HQ6.out
      obtain ⟨r0, r1, r2, r3, s0, s1, s2, s3⟩ := HR6.out
      have HE : Hid _ := en_end (B := B) (w := w) HG6.out HC6.out (Nat.le_refl _) cb.2 (show EnSm (X, 7, cu, M) from ⟨hsx, hs7, hsc, hsm⟩) HR6.out
      clear cb hgb hgw
      go_wp2
      refine bodyPost_ret (by simp [results, Tryz.results41, go_sem, r0, r1, r2, r3]; try rfl) rfl ?_
      exact HE.out
    · go_wp2_with fail
      refine (below_any _ _ _ HC5.out (by omega)).mono ?_
      rintro e w6 ⟨z, rfl, z0, z1, c6, g6⟩
      have HQ6 : Hid (Q4 b X Y cu M w6) := HQ5.out.grown g6 hgb
      have HR6 : Hid (Q4 w.heap.size 0 0 0 0 w6) := HR5.out.grown g6 hgw
      have HG6 : Hid (w.grownBy w6 (some g)) := HG5.out.trans g6
      have HC6 : Hid (Cursor B w6 g) := c6
      clear g6 c6 z1
      by_cases h0 : z = 0
      · subst h0
        go_wp2_with fail
        refine (pickInt_any _ _ _ [0, -5, 1000000000000, 1000000000001] _ (cursor_alloc HC6.out _) (cursor_ne HC6.out) (lit_cells w6 [0, -5, 1000000000000, 1000000000001] _ rfl) (by decide) (by decide)).mono ?_
        rintro e w7 ⟨v, rfl, hv, c7, g7⟩
        have hsv : Sm v := by simp at hv; unfold Sm; omega
        have gA := grown_alloc w6 (.cells #[.int .i64 0, .int .i64 (-5), .int .i64 1000000000000, .int .i64 1000000000001] 3) (some g)
        have Q7 := (HQ6.out.grown gA hgb).grown g7 hgb
        have R7 := (HR6.out.grown gA hgw).grown g7 hgw
        have d3 := Q7.c3
        have e3 := Q7.f3
        have HQ8 : Hid (Q4 b X Y cu v (w7.setCell ⟨b, 3, none⟩ (.int .i64 v))) := Q7.set3 v
        have HR8 : Hid (Q4 w.heap.size 0 0 0 0 (w7.setCell ⟨b, 3, none⟩ (.int .i64 v))) := R7.grown (grown_set w7 b 3 _) (by simp; omega)
        have HG8 : Hid (w.grownBy (w7.setCell ⟨b, 3, none⟩ (.int .i64 v)) (some g)) := set_new ((HG6.out.trans gA).trans g7) (by omega)
        have HC8 : Hid (Cursor B (w7.setCell ⟨b, 3, none⟩ (.int .i64 v)) g) := cur_set c7 (by omega)
        obtain ⟨F, hF⟩ : ∃ F, F = w7.setCell ⟨b, 3, none⟩ (.int .i64 v) := ⟨_, rfl⟩
        rw [← hF] at HQ8 HR8 HG8 HC8
        clear hv g7 c7 gA Q7 R7 HQ6 HR6 HG6 HC6
        go_upto_region 11 with fail
        rw [← hF]
        clear hF d3 e3
        obtain ⟨k0, k1, k2, k3, _, _, _, _⟩ := HQ8.out
        obtain ⟨r0, r1, r2, r3, s0, s1, s2, s3⟩ := HR8.out
        have HE : Hid _ := en_end (B := B) (w := w) HG8.out HC8.out (Nat.le_refl _) cb.2 (show EnSm (X, Y, cu, v) from ⟨hsx, hsy, hsc, hsv⟩) HR8.out
        clear cb hgb hgw
        go_wp2
        refine bodyPost_ret (by simp [results, Tryz.results41, go_sem, r0, r1, r2, r3]; try rfl) rfl ?_
        exact HE.out
      have h0' : (z == 0) = false := by simpa using h0
      by_cases h1 : z = 1
      · subst h1
        go_wp2_with fail
        refine (pickInt_any _ _ _ [0, 10000, 9999] _ (cursor_alloc HC6.out _) (cursor_ne HC6.out) (lit_cells w6 [0, 10000, 9999] _ rfl) (by decide) (by decide)).mono ?_
        rintro e w7 ⟨v, rfl, hv, c7, g7⟩
        have hsv : Sm v := by simp at hv; unfold Sm; omega
        have gA := grown_alloc w6 (.cells #[.int .i64 0, .int .i64 10000, .int .i64 9999] 3) (some g)
        have Q7 := (HQ6.out.grown gA hgb).grown g7 hgb
        have R7 := (HR6.out.grown gA hgw).grown g7 hgw
        have d3 := Q7.c0
        have e3 := Q7.f0
        have HQ8 : Hid (Q4 b v Y cu M (w7.setCell ⟨b, 0, none⟩ (.int .i64 v))) := Q7.set0 v
        have HR8 : Hid (Q4 w.heap.size 0 0 0 0 (w7.setCell ⟨b, 0, none⟩ (.int .i64 v))) := R7.grown (grown_set w7 b 0 _) (by simp; omega)
        have HG8 : Hid (w.grownBy (w7.setCell ⟨b, 0, none⟩ (.int .i64 v)) (some g)) := set_new ((HG6.out.trans gA).trans g7) (by omega)
        have HC8 : Hid (Cursor B (w7.setCell ⟨b, 0, none⟩ (.int .i64 v)) g) := cur_set c7 (by omega)
        obtain ⟨F, hF⟩ : ∃ F, F = w7.setCell ⟨b, 0, none⟩ (.int .i64 v) := ⟨_, rfl⟩
        rw [← hF] at HQ8 HR8 HG8 HC8
        clear hv g7 c7 gA Q7 R7 HQ6 HR6 HG6 HC6 h0 h0'
        go_upto_region 11 with fail
        rw [← hF]
        clear hF d3 e3
        obtain ⟨k0, k1, k2, k3, _, _, _, _⟩ := HQ8.out
        obtain ⟨r0, r1, r2, r3, s0, s1, s2, s3⟩ := HR8.out
        have HE : Hid _ := en_end (B := B) (w := w) HG8.out HC8.out (Nat.le_refl _) cb.2 (show EnSm (v, Y, cu, M) from ⟨hsv, hsy, hsc, hsm⟩) HR8.out
        clear cb hgb hgw
        go_wp2
        refine bodyPost_ret (by simp [results, Tryz.results41, go_sem, r0, r1, r2, r3]; try rfl) rfl ?_
        exact HE.out
      have h1' : (z == 1) = false := by simpa using h1
      by_cases h2 : z = 2
      · subst h2
        have d3 := HQ6.out.c2
        have e3 := HQ6.out.f2
        have HQ8 : Hid (Q4 b X Y 1 M (w6.setCell ⟨b, 2, none⟩ (.int .i64 1))) := HQ6.out.set2 1
        have HR8 : Hid (Q4 w.heap.size 0 0 0 0 (w6.setCell ⟨b, 2, none⟩ (.int .i64 1))) := HR6.out.grown (grown_set w6 b 2 _) (by simp; omega)
        have HG8 : Hid (w.grownBy (w6.setCell ⟨b, 2, none⟩ (.int .i64 1)) (some g)) := set_new HG6.out (by omega)
        have HC8 : Hid (Cursor B (w6.setCell ⟨b, 2, none⟩ (.int .i64 1)) g) := cur_set HC6.out (by omega)
        obtain ⟨F, hF⟩ : ∃ F, F = w6.setCell ⟨b, 2, none⟩ (.int .i64 1) := ⟨_, rfl⟩
        rw [← hF] at HQ8 HR8 HG8 HC8
        clear HQ6 HR6 HG6 HC6 h0 h0' h1 h1'
        go_upto_region 11 with fail
        rw [← hF]
        clear hF d3 e3
        obtain ⟨k0, k1, k2, k3, _, _, _, _⟩ := HQ8.out
        obtain ⟨r0, r1, r2, r3, s0, s1, s2, s3⟩ := HR8.out
        have HE : Hid _ := en_end (B := B) (w := w) HG8.out HC8.out (Nat.le_refl _) cb.2 (show EnSm (X, Y, 1, M) from ⟨hsx, hsy, (by unfold Sm; simp only; omega), hsm⟩) HR8.out
        clear cb hgb hgw
        go_wp2
        refine bodyPost_ret (by simp [results, Tryz.results41, go_sem, r0, r1, r2, r3]; try rfl) rfl ?_
        exact HE.out
      have h2' : (z == 2) = false := by simpa using h2
      clear h0 h1 h2
      obtain ⟨k0, k1, k2, k3, _, _, _, _⟩ := HQ6.out
      obtain ⟨r0, r1, r2, r3, s0, s1, s2, s3⟩ := HR6.out
      have HE : Hid _ := en_end (B := B) (w := w) HG6.out HC6.out (Nat.le_refl _) cb.2 (show EnSm (X, Y, cu, M) from ⟨hsx, hsy, hsc, hsm⟩) HR6.out
      clear cb hgb hgw
      go_wp2
      refine bodyPost_ret (by simp [results, Tryz.results41, go_sem, r0, r1, r2, r3]; try rfl) rfl ?_
      exact HE.out
  · have hxy' : (X == Y) = false := by simpa using hxy
    clear hxy
    go_wp2_with fail
    refine (below_any _ _ _ HCU.out (by omega)).mono ?_
    rintro e w6 ⟨z, rfl, z0, z1, c6, g6⟩
    have HQ6 : Hid (Q4 b X Y cu M w6) := HQU.out.grown g6 hgb
    have HR6 : Hid (Q4 w.heap.size 0 0 0 0 w6) := HRU.out.grown g6 hgw
    have HG6 : Hid (w.grownBy w6 (some g)) := HGU.out.trans g6
    have HC6 : Hid (Cursor B w6 g) := c6
    clear g6 c6 z1
    by_cases h0 : z = 0
    · subst h0
      go_wp2_with fail
      refine (pickInt_any _ _ _ [0, -5, 1000000000000, 1000000000001] _ (cursor_alloc HC6.out _) (cursor_ne HC6.out) (lit_cells w6 [0, -5, 1000000000000, 1000000000001] _ rfl) (by decide) (by decide)).mono ?_
      rintro e w7 ⟨v, rfl, hv, c7, g7⟩
      have hsv : Sm v := by simp at hv; unfold Sm; omega
      have gA := grown_alloc w6 (.cells #[.int .i64 0, .int .i64 (-5), .int .i64 1000000000000, .int .i64 1000000000001] 3) (some g)
      have Q7 := (HQ6.out.grown gA hgb).grown g7 hgb
      have R7 := (HR6.out.grown gA hgw).grown g7 hgw
      have d3 := Q7.c3
      have e3 := Q7.f3
      have HQ8 : Hid (Q4 b X Y cu v (w7.setCell ⟨b, 3, none⟩ (.int .i64 v))) := Q7.set3 v
      have HR8 : Hid (Q4 w.heap.size 0 0 0 0 (w7.setCell ⟨b, 3, none⟩ (.int .i64 v))) := R7.grown (grown_set w7 b 3 _) (by simp; omega)
      have HG8 : Hid (w.grownBy (w7.setCell ⟨b, 3, none⟩ (.int .i64 v)) (some g)) := set_new ((HG6.out.trans gA).trans g7) (by omega)
      have HC8 : Hid (Cursor B (w7.setCell ⟨b, 3, none⟩ (.int .i64 v)) g) := cur_set c7 (by omega)
      obtain ⟨F, hF⟩ : ∃ F, F = w7.setCell ⟨b, 3, none⟩ (.int .i64 v) := ⟨_, rfl⟩
      rw [← hF] at HQ8 HR8 HG8 HC8
      clear hv g7 c7 gA Q7 R7 HQ6 HR6 HG6 HC6
      go_upto_region 11 with fail
      rw [← hF]
      clear hF d3 e3
      obtain ⟨k0, k1, k2, k3, _, _, _, _⟩ := HQ8.out
      obtain ⟨r0, r1, r2, r3, s0, s1, s2, s3⟩ := HR8.out
      have HE : Hid _ := en_end (B := B) (w := w) HG8.out HC8.out (Nat.le_refl _) cb.2 (show EnSm (X, Y, cu, v) from ⟨hsx, hsy, hsc, hsv⟩) HR8.out
      clear cb hgb hgw
      go_wp2
      refine bodyPost_ret (by simp [results, Tryz.results41, go_sem, r0, r1, r2, r3]; try rfl) rfl ?_
      exact HE.out
    have h0' : (z == 0) = false := by simpa using h0
    by_cases h1 : z = 1
    · subst h1
      go_wp2_with fail
      refine (pickInt_any _ _ _ [0, 10000, 9999] _ (cursor_alloc HC6.out _) (cursor_ne HC6.out) (lit_cells w6 [0, 10000, 9999] _ rfl) (by decide) (by decide)).mono ?_
      rintro e w7 ⟨v, rfl, hv, c7, g7⟩
      have hsv : Sm v := by simp at hv; unfold Sm; omega
      have gA := grown_alloc w6 (.cells #[.int .i64 0, .int .i64 10000, .int .i64 9999] 3) (some g)
      have Q7 := (HQ6.out.grown gA hgb).grown g7 hgb
      have R7 := (HR6.out.grown gA hgw).grown g7 hgw
      have d3 := Q7.c0
      have e3 := Q7.f0
      have HQ8 : Hid (Q4 b v Y cu M (w7.setCell ⟨b, 0, none⟩ (.int .i64 v))) := Q7.set0 v
      have HR8 : Hid (Q4 w.heap.size 0 0 0 0 (w7.setCell ⟨b, 0, none⟩ (.int .i64 v))) := R7.grown (grown_set w7 b 0 _) (by simp; omega)
      have HG8 : Hid (w.grownBy (w7.setCell ⟨b, 0, none⟩ (.int .i64 v)) (some g)) := set_new ((HG6.out.trans gA).trans g7) (by omega)
      have HC8 : Hid (Cursor B (w7.setCell ⟨b, 0, none⟩ (.int .i64 v)) g) := cur_set c7 (by omega)
      obtain ⟨F, hF⟩ : ∃ F, F = w7.setCell ⟨b, 0, none⟩ (.int .i64 v) := ⟨_, rfl⟩
      rw [← hF] at HQ8 HR8 HG8 HC8
      clear hv g7 c7 gA Q7 R7 HQ6 HR6 HG6 HC6 h0 h0'
      go_upto_region 11 with fail
      rw [← hF]
      clear hF d3 e3
      obtain ⟨k0, k1, k2, k3, _, _, _, _⟩ := HQ8.out
      obtain ⟨r0, r1, r2, r3, s0, s1, s2, s3⟩ := HR8.out
      have HE : Hid _ := en_end (B := B) (w := w) HG8.out HC8.out (Nat.le_refl _) cb.2 (show EnSm (v, Y, cu, M) from ⟨hsv, hsy, hsc, hsm⟩) HR8.out
      clear cb hgb hgw
      go_wp2
      refine bodyPost_ret (by simp [results, Tryz.results41, go_sem, r0, r1, r2, r3]; try rfl) rfl ?_
      exact HE.out
    have h1' : (z == 1) = false := by simpa using h1
    by_cases h2 : z = 2
    · subst h2
      have d3 := HQ6.out.c2
      have e3 := HQ6.out.f2
      have HQ8 : Hid (Q4 b X Y 1 M (w6.setCell ⟨b, 2, none⟩ (.int .i64 1))) := HQ6.out.set2 1
      have HR8 : Hid (Q4 w.heap.size 0 0 0 0 (w6.setCell ⟨b, 2, none⟩ (.int .i64 1))) := HR6.out.grown (grown_set w6 b 2 _) (by simp; omega)
      have HG8 : Hid (w.grownBy (w6.setCell ⟨b, 2, none⟩ (.int .i64 1)) (some g)) := set_new HG6.out (by omega)
      have HC8 : Hid (Cursor B (w6.setCell ⟨b, 2, none⟩ (.int .i64 1)) g) := cur_set HC6.out (by omega)
      obtain ⟨F, hF⟩ : ∃ F, F = w6.setCell ⟨b, 2, none⟩ (.int .i64 1) := ⟨_, rfl⟩
      rw [← hF] at HQ8 HR8 HG8 HC8
      clear HQ6 HR6 HG6 HC6 h0 h0' h1 h1'
      go_upto_region 11 with fail
      rw [← hF]
      clear hF d3 e3
      obtain ⟨k0, k1, k2, k3, _, _, _, _⟩ := HQ8.out
      obtain ⟨r0, r1, r2, r3, s0, s1, s2, s3⟩ := HR8.out
      have HE : Hid _ := en_end (B := B) (w := w) HG8.out HC8.out (Nat.le_refl _) cb.2 (show EnSm (X, Y, 1, M) from ⟨hsx, hsy, (by unfold Sm; simp only; omega), hsm⟩) HR8.out
      clear cb hgb hgw
      go_wp2
      refine bodyPost_ret (by simp [results, Tryz.results41, go_sem, r0, r1, r2, r3]; try rfl) rfl ?_
      exact HE.out
    have h2' : (z == 2) = false := by simpa using h2
    clear h0 h1 h2
    obtain ⟨k0, k1, k2, k3, _, _, _, _⟩ := HQ6.out
    obtain ⟨r0, r1, r2, r3, s0, s1, s2, s3⟩ := HR6.out
    have HE : Hid _ := en_end (B := B) (w := w) HG6.out HC6.out (Nat.le_refl _) cb.2 (show EnSm (X, Y, cu, M) from ⟨hsx, hsy, hsc, hsm⟩) HR6.out
    clear cb hgb hgw
    go_wp2
    refine bodyPost_ret (by simp [results, Tryz.results41, go_sem, r0, r1, r2, r3]; try rfl) rfl ?_
    exact HE.out

end Go.Proofs.YtnimlgdackgcoaaGreatDoor
