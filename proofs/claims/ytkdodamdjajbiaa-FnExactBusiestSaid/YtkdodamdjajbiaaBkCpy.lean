/- The laws' own copy of a book: five rows of one's own, no two in one block. -/
import Derived.Test.YtkdodamdjajbiaaBkGen
import Derived.Test.YtkdodamdjajbiaaCaCpy
import Derived.Test.YtkdodamdjajbiaaIntsOwn
import Derived.Deep.AppendLies
namespace Go.Proofs.Ytkdodamdjajbiaa
open Go.RowKit
set_option maxRecDepth 100000

/-- six cells that may be written -/
structure Z6 (B : Nat) (v0 v1 v2 v3 v4 v5 : Value) (u : World) : Prop where
  c0 : u.cell? ⟨B, 0, none⟩ = some v0
  c1 : u.cell? ⟨B, 1, none⟩ = some v1
  c2 : u.cell? ⟨B, 2, none⟩ = some v2
  c3 : u.cell? ⟨B, 3, none⟩ = some v3
  c4 : u.cell? ⟨B, 4, none⟩ = some v4
  c5 : u.cell? ⟨B, 5, none⟩ = some v5
  z0 : u.frozen? ⟨B, 0, none⟩ = false
  z1 : u.frozen? ⟨B, 1, none⟩ = false
  z2 : u.frozen? ⟨B, 2, none⟩ = false
  z3 : u.frozen? ⟨B, 3, none⟩ = false
  z4 : u.frozen? ⟨B, 4, none⟩ = false
  z5 : u.frozen? ⟨B, 5, none⟩ = false
theorem Z6.lt {B : Nat} {v0 v1 v2 v3 v4 v5 : Value} {u : World} (h : Z6 B v0 v1 v2 v3 v4 v5 u) : B < u.heap.size := World.block_lt_of_cell? u _ h.c0
theorem Z6.below {B : Nat} {v0 v1 v2 v3 v4 v5 : Value} {u u' : World} (h : Z6 B v0 v1 v2 v3 v4 v5 u) (b : Below u.heap.size u u') : Z6 B v0 v1 v2 v3 v4 v5 u' := by
  have l := h.lt
  exact ⟨(b.cell (p := ⟨B, 0, none⟩) l).trans h.c0, (b.cell (p := ⟨B, 1, none⟩) l).trans h.c1, (b.cell (p := ⟨B, 2, none⟩) l).trans h.c2, (b.cell (p := ⟨B, 3, none⟩) l).trans h.c3, (b.cell (p := ⟨B, 4, none⟩) l).trans h.c4, (b.cell (p := ⟨B, 5, none⟩) l).trans h.c5, (b.frozen (p := ⟨B, 0, none⟩) l).trans h.z0, (b.frozen (p := ⟨B, 1, none⟩) l).trans h.z1, (b.frozen (p := ⟨B, 2, none⟩) l).trans h.z2, (b.frozen (p := ⟨B, 3, none⟩) l).trans h.z3, (b.frozen (p := ⟨B, 4, none⟩) l).trans h.z4, (b.frozen (p := ⟨B, 5, none⟩) l).trans h.z5⟩
theorem Z6.far {B B' i : Nat} {v0 v1 v2 v3 v4 v5 : Value} {u : World} {x : Value} (h : Z6 B v0 v1 v2 v3 v4 v5 u) (hne : B' ≠ B) : Z6 B v0 v1 v2 v3 v4 v5 (u.setCell ⟨B', i, none⟩ x) := by
  have l := h.lt
  have gr : u.grownBy (u.setCell ⟨B', i, none⟩ x) (some B') := ⟨rfl, rfl, rfl, by simp, fun j _ hj => Below.heap_setCell _ _ _ _ (fun e => hj (by rw [e]))⟩
  have hs : some B ≠ some B' := fun e => hne (by injection e with e; exact e.symm)
  exact ⟨(gr.cell_far ⟨B, 0, none⟩ l hs).trans h.c0, (gr.cell_far ⟨B, 1, none⟩ l hs).trans h.c1, (gr.cell_far ⟨B, 2, none⟩ l hs).trans h.c2, (gr.cell_far ⟨B, 3, none⟩ l hs).trans h.c3, (gr.cell_far ⟨B, 4, none⟩ l hs).trans h.c4, (gr.cell_far ⟨B, 5, none⟩ l hs).trans h.c5, by simp [h.z0], by simp [h.z1], by simp [h.z2], by simp [h.z3], by simp [h.z4], by simp [h.z5]⟩
theorem Z6.set0 {B : Nat} {v0 v1 v2 v3 v4 v5 : Value} {u : World} (h : Z6 B v0 v1 v2 v3 v4 v5 u) (x : Value) : Z6 B x v1 v2 v3 v4 v5 (u.setCell ⟨B, 0, none⟩ x) := by
  obtain ⟨c0, c1, c2, c3, c4, c5, z0, z1, z2, z3, z4, z5⟩ := h
  exact ⟨by simp [go_sem, c0], by simp [go_sem, c1], by simp [go_sem, c2], by simp [go_sem, c3], by simp [go_sem, c4], by simp [go_sem, c5], by simp [go_sem, z0], by simp [go_sem, z1], by simp [go_sem, z2], by simp [go_sem, z3], by simp [go_sem, z4], by simp [go_sem, z5]⟩
theorem Z6.set1 {B : Nat} {v0 v1 v2 v3 v4 v5 : Value} {u : World} (h : Z6 B v0 v1 v2 v3 v4 v5 u) (x : Value) : Z6 B v0 x v2 v3 v4 v5 (u.setCell ⟨B, 1, none⟩ x) := by
  obtain ⟨c0, c1, c2, c3, c4, c5, z0, z1, z2, z3, z4, z5⟩ := h
  exact ⟨by simp [go_sem, c0], by simp [go_sem, c1], by simp [go_sem, c2], by simp [go_sem, c3], by simp [go_sem, c4], by simp [go_sem, c5], by simp [go_sem, z0], by simp [go_sem, z1], by simp [go_sem, z2], by simp [go_sem, z3], by simp [go_sem, z4], by simp [go_sem, z5]⟩
theorem Z6.set2 {B : Nat} {v0 v1 v2 v3 v4 v5 : Value} {u : World} (h : Z6 B v0 v1 v2 v3 v4 v5 u) (x : Value) : Z6 B v0 v1 x v3 v4 v5 (u.setCell ⟨B, 2, none⟩ x) := by
  obtain ⟨c0, c1, c2, c3, c4, c5, z0, z1, z2, z3, z4, z5⟩ := h
  exact ⟨by simp [go_sem, c0], by simp [go_sem, c1], by simp [go_sem, c2], by simp [go_sem, c3], by simp [go_sem, c4], by simp [go_sem, c5], by simp [go_sem, z0], by simp [go_sem, z1], by simp [go_sem, z2], by simp [go_sem, z3], by simp [go_sem, z4], by simp [go_sem, z5]⟩
theorem Z6.set3 {B : Nat} {v0 v1 v2 v3 v4 v5 : Value} {u : World} (h : Z6 B v0 v1 v2 v3 v4 v5 u) (x : Value) : Z6 B v0 v1 v2 x v4 v5 (u.setCell ⟨B, 3, none⟩ x) := by
  obtain ⟨c0, c1, c2, c3, c4, c5, z0, z1, z2, z3, z4, z5⟩ := h
  exact ⟨by simp [go_sem, c0], by simp [go_sem, c1], by simp [go_sem, c2], by simp [go_sem, c3], by simp [go_sem, c4], by simp [go_sem, c5], by simp [go_sem, z0], by simp [go_sem, z1], by simp [go_sem, z2], by simp [go_sem, z3], by simp [go_sem, z4], by simp [go_sem, z5]⟩
theorem Z6.set4 {B : Nat} {v0 v1 v2 v3 v4 v5 : Value} {u : World} (h : Z6 B v0 v1 v2 v3 v4 v5 u) (x : Value) : Z6 B v0 v1 v2 v3 x v5 (u.setCell ⟨B, 4, none⟩ x) := by
  obtain ⟨c0, c1, c2, c3, c4, c5, z0, z1, z2, z3, z4, z5⟩ := h
  exact ⟨by simp [go_sem, c0], by simp [go_sem, c1], by simp [go_sem, c2], by simp [go_sem, c3], by simp [go_sem, c4], by simp [go_sem, c5], by simp [go_sem, z0], by simp [go_sem, z1], by simp [go_sem, z2], by simp [go_sem, z3], by simp [go_sem, z4], by simp [go_sem, z5]⟩
theorem Z6.set5 {B : Nat} {v0 v1 v2 v3 v4 v5 : Value} {u : World} (h : Z6 B v0 v1 v2 v3 v4 v5 u) (x : Value) : Z6 B v0 v1 v2 v3 v4 x (u.setCell ⟨B, 5, none⟩ x) := by
  obtain ⟨c0, c1, c2, c3, c4, c5, z0, z1, z2, z3, z4, z5⟩ := h
  exact ⟨by simp [go_sem, c0], by simp [go_sem, c1], by simp [go_sem, c2], by simp [go_sem, c3], by simp [go_sem, c4], by simp [go_sem, c5], by simp [go_sem, z0], by simp [go_sem, z1], by simp [go_sem, z2], by simp [go_sem, z3], by simp [go_sem, z4], by simp [go_sem, z5]⟩
theorem Z6.new (w : World) (v0 v1 v2 v3 v4 v5 : Value) (ty : TypeId) : Z6 w.heap.size v0 v1 v2 v3 v4 v5 (w.alloc (.cells #[v0, v1, v2, v3, v4, v5] ty)) :=
  ⟨by simp, by simp, by simp, by simp, by simp, by simp, by simp [go_sem], by simp [go_sem], by simp [go_sem], by simp [go_sem], by simp [go_sem], by simp [go_sem]⟩
/-- a book that owns its memory -/
structure OwnBk (base : Nat) (b : Bk) (q : Bp) (u : World) : Prop where
  off : u.ownsRow base 3 1 (.slice q.o b.off.length q.oc) b.off.length (b.off.map (Value.int .i64))
  az : u.ownsRow base 87 6 (.slice q.a b.az.length q.ac) b.az.length (acells b.az)
  cs : u.ownsRow base 57 12 (.slice q.c b.cs.length q.cc) b.cs.length (cscells b.cs)
  ls : u.ownsRow base 100 3 (.slice q.l b.ls.length q.lc) b.ls.length (lcells b.ls)
  log : u.ownsRow base 9 1 (.slice q.g b.log.length q.gc) b.log.length (scells b.log)
  apart : ∃ g1 g2 g3 g4 g5, q.o = some ⟨g1, 0, none⟩ ∧ q.a = some ⟨g2, 0, none⟩ ∧ q.c = some ⟨g3, 0, none⟩ ∧ q.l = some ⟨g4, 0, none⟩ ∧ q.g = some ⟨g5, 0, none⟩ ∧ g1 < g2 ∧ g2 < g3 ∧ g3 < g4 ∧ g4 < g5
theorem OwnBk.below {base : Nat} {b : Bk} {q : Bp} {u u' : World} (h : OwnBk base b q u) (hb : Below u.heap.size u u') : OwnBk base b q u' := ⟨keepL h.off hb, keepL h.az hb, keepL h.cs hb, keepL h.ls hb, keepL h.log hb, h.apart⟩
theorem OwnBk.at {base : Nat} {b : Bk} {q : Bp} {u : World} (h : OwnBk base b q u) : BookAt u b q := ⟨ints_own h.off, auths_any h.az, cases_own h.cs, lines_any h.ls, txts_any h.log⟩

end Go.Proofs.Ytkdodamdjajbiaa
