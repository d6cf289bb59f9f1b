/- AddWork, the program's: by the iterator over the working days. -/
import Derived.Test.YtlonjjliochbhaaKE1IterWork
namespace Go.Proofs.Ytlonjjliochbhaa
open Go.RowKit Go.Shelf

theorem addV_no {d n : Int} {zs : List Int} (h : dOk d = false ∨ n < 0 ∨ 400 < n ∨ offOk zs = false) : addV d n zs = none := by
  unfold addV
  rw [if_neg]
  rintro ⟨a, b, c, e⟩
  rcases h with h | h | h | h
  · rw [a] at h; cases h
  · omega
  · omega
  · rw [e] at h; cases h
theorem addV_yes {d n : Int} {zs : List Int} (a : dOk d = true) (b : 0 ≤ n) (c : n ≤ 400) (e : offOk zs = true) : addV d n zs = adv zs (80000 - d).toNat n.toNat := by
  unfold addV; rw [if_pos ⟨a, b, c, e⟩]

theorem two_cells (w : World) (x : Int) (y : Bool) : ((w.alloc (.cells #[.int .i64 x] 3)).alloc (.cells #[.bool y] 4)).cell? ⟨w.heap.size, 0, none⟩ = some (.int .i64 x) ∧
    ((w.alloc (.cells #[.int .i64 x] 3)).alloc (.cells #[.bool y] 4)).cell? ⟨w.heap.size + 1, 0, none⟩ = some (.bool y) := by
  refine ⟨?_, ?_⟩
  · rw [World.cell?_alloc_lt _ _ _ (by simp)]; simp
  · rw [← World.size_alloc w (.cells #[.int .i64 x] 3)]; simp
theorem two_below (w : World) (o o' : Obj) : Below w.heap.size w ((w.alloc o).alloc o') := ((Below.refl _ w).alloc (Nat.le_refl _) _).alloc (by simp) _



/-- the box at block k holds v, and may be written -/
def Cl (W : World) (k : Nat) (v : Value) : Prop := W.cell? ⟨k, 0, none⟩ = some v ∧ W.frozen? ⟨k, 0, none⟩ = false
theorem Cl.kept {W W' : World} {row : Option Nat} {k : Nat} {v : Value} (h : Cl W k v) (hg : W.grownBy W' row) (hr : ∀ r, row = some r → ∃ o : Obj, W.heap[r]? = some o ∧ o.isCells = false) : Cl W' k v :=
  ⟨cell_kept h.1 hg hr, (frozen_kept h.1 hg hr).trans h.2⟩
theorem Cl.new (W : World) (v : Value) (t : TypeId) : Cl (W.alloc (.cells #[v] t)) W.heap.size v := by
  have h := World.alloc_heap_new W (.cells #[v] t)
  constructor
  · unfold World.cell?
    simp only [h]
    rfl
  · unfold World.frozen?
    simp only [h]
    rfl
theorem Cl.alloc {W : World} {k : Nat} {v : Value} (h : Cl W k v) (o : Obj) : Cl (W.alloc o) k v := h.kept (World.grownBy_alloc W o none) (fun r e => by cases e)
theorem Cl.other {W : World} {k j : Nat} {v u : Value} (h : Cl W k v) (hj : j ≠ k) : Cl (W.setCell ⟨j, 0, none⟩ u) k v := by
  refine ⟨?_, by rw [World.frozen?_setCell]; exact h.2⟩
  rw [World.cell?_setCell_other W ⟨j, 0, none⟩ u (b := ⟨k, 0, none⟩) (fun e => by injection e with e1; exact hj e1)]; exact h.1
theorem Cl.same {W : World} {k : Nat} {v u : Value} (h : Cl W k v) : Cl (W.setCell ⟨k, 0, none⟩ u) k u :=
  ⟨World.cell?_setCell_same W ⟨k, 0, none⟩ u h.1, by rw [World.frozen?_setCell]; exact h.2⟩
theorem Cl.put {W : World} {k D : Nat} {v : Value} {o o' : Obj} (h : Cl W k v) (hD : W.heap[D]? = some o) (ho : o.isCells = false) : Cl (W.putObj D o') k v :=
  h.kept (grownBy_putObj' W D o') (fun r e => by cases e; exact ⟨_, hD, ho⟩)
theorem bel_set {N j : Nat} {w W : World} (h : Below N w W) (hj : N ≤ j) (u : Value) : Below N w (W.setCell ⟨j, 0, none⟩ u) := h.setCell (p := ⟨j, 0, none⟩) hj u
theorem keep_set {N Bo j : Nat} (W : World) (u : Value) (hN : N ≤ j) (hj : j ≠ Bo) : Keep N Bo W (W.setCell ⟨j, 0, none⟩ u) :=
  ⟨(Below.refl N W).setCell (p := ⟨j, 0, none⟩) hN _, fun v hv => by
    rw [World.cell?_setCell_other W ⟨j, 0, none⟩ u (b := ⟨Bo, 0, none⟩) (fun e => by injection e with e1; exact hj e1)]; exact hv⟩

theorem adv_none {zs : List Int} {f m : Nat} (hm : 1 ≤ m) (h : (wd zs f).length < m) : adv zs f m = none := by
  obtain ⟨k, rfl⟩ : ∃ k, m = k + 1 := ⟨m - 1, by omega⟩
  rw [adv]; exact List.getElem?_eq_none (by omega)
theorem adv_pre {zs : List Int} {f m : Nat} {pre : List Int} {x : Int} (hp : pre ++ [x] <+: wd zs f) (hm : (pre ++ [x]).length = m) : adv zs f m = some x := by
  obtain ⟨t, ht⟩ := hp
  simp at hm
  subst hm
  rw [adv, ← ht]; simp




end Go.Proofs.Ytlonjjliochbhaa
