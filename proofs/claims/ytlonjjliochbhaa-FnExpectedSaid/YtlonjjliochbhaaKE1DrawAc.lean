/- The boxes of a drawn act: what stands while it is drawn. -/
import Derived.Test.YtlonjjliochbhaaJE10b
import Derived.Test.YtlonjjliochbhaaJE13a
namespace Go.Proofs.Ytlonjjliochbhaa
open Go.RowKit
set_option maxRecDepth 100000

/-- three cells of an act, that may be written -/
structure AB (h : Nat) (a : Ac) (u : World) : Prop where
  c0 : u.cell? ⟨h, 0, none⟩ = some (.int .i64 a.kind)
  c1 : u.cell? ⟨h, 1, none⟩ = some (.int .i64 a.am)
  c2 : u.cell? ⟨h, 2, none⟩ = some (.int .i64 a.rsn)
  z0 : u.frozen? ⟨h, 0, none⟩ = false
  z1 : u.frozen? ⟨h, 1, none⟩ = false
  z2 : u.frozen? ⟨h, 2, none⟩ = false
theorem AB.lt {h : Nat} {a : Ac} {u : World} (x : AB h a u) : h < u.heap.size := World.block_lt_of_cell? u _ x.c0
theorem AB.below {h : Nat} {a : Ac} {u u' : World} (x : AB h a u) (b : Below u.heap.size u u') : AB h a u' := by
  have l := x.lt
  exact ⟨(b.cell (p := ⟨h, 0, none⟩) l).trans x.c0, (b.cell (p := ⟨h, 1, none⟩) l).trans x.c1, (b.cell (p := ⟨h, 2, none⟩) l).trans x.c2, (b.frozen (p := ⟨h, 0, none⟩) l).trans x.z0, (b.frozen (p := ⟨h, 1, none⟩) l).trans x.z1, (b.frozen (p := ⟨h, 2, none⟩) l).trans x.z2⟩
theorem AB.grown {h : Nat} {a : Ac} {u u' : World} {row : Option Nat} (x : AB h a u) (g : u.grownBy u' row) (hr : some h ≠ row) : AB h a u' := by
  have l := x.lt
  exact ⟨(g.cell_far ⟨h, 0, none⟩ l hr).trans x.c0, (g.cell_far ⟨h, 1, none⟩ l hr).trans x.c1, (g.cell_far ⟨h, 2, none⟩ l hr).trans x.c2, (g.frozen_far ⟨h, 0, none⟩ l hr).trans x.z0, (g.frozen_far ⟨h, 1, none⟩ l hr).trans x.z1, (g.frozen_far ⟨h, 2, none⟩ l hr).trans x.z2⟩
theorem AB.new (w : World) (a : Ac) (t : TypeId) : AB w.heap.size a (w.alloc (.cells #[.int .i64 a.kind, .int .i64 a.am, .int .i64 a.rsn] t)) :=
  ⟨by simp, by simp, by simp, by simp [go_sem], by simp [go_sem], by simp [go_sem]⟩
theorem AB.set0 {h : Nat} {a : Ac} {u : World} (q : AB h a u) (x : Int) : AB h ⟨x, a.am, a.rsn⟩ (u.setCell ⟨h, 0, none⟩ (.int .i64 x)) := by
  obtain ⟨c0, c1, c2, z0, z1, z2⟩ := q
  exact ⟨by simp [go_sem, c0], by simp [go_sem, c1], by simp [go_sem, c2], by simp [go_sem, z0], by simp [go_sem, z1], by simp [go_sem, z2]⟩
theorem AB.set1 {h : Nat} {a : Ac} {u : World} (q : AB h a u) (x : Int) : AB h ⟨a.kind, x, a.rsn⟩ (u.setCell ⟨h, 1, none⟩ (.int .i64 x)) := by
  obtain ⟨c0, c1, c2, z0, z1, z2⟩ := q
  exact ⟨by simp [go_sem, c0], by simp [go_sem, c1], by simp [go_sem, c2], by simp [go_sem, z0], by simp [go_sem, z1], by simp [go_sem, z2]⟩
theorem AB.set2 {h : Nat} {a : Ac} {u : World} (q : AB h a u) (x : Int) : AB h ⟨a.kind, a.am, x⟩ (u.setCell ⟨h, 2, none⟩ (.int .i64 x)) := by
  obtain ⟨c0, c1, c2, z0, z1, z2⟩ := q
  exact ⟨by simp [go_sem, c0], by simp [go_sem, c1], by simp [go_sem, c2], by simp [go_sem, z0], by simp [go_sem, z1], by simp [go_sem, z2]⟩

/-- while an act is drawn: the case's box, the answer's, the act's own, the cursor; nothing else of what stood has changed -/
structure AS (B g : Nat) (w : World) (k : Cs) (h : Nat) (a : Ac) (u : World) : Prop where
  cb : CB w.heap.size 0 k u
  rb : AB (w.heap.size + 1) ⟨0, 0, 0⟩ u
  ab : AB h a u
  cur : Cursor B u g
  gr : w.grownBy u (some g)
  gl : g < w.heap.size
  hl : w.heap.size + 1 < h
  bl : B ≤ w.heap.size
theorem AS.call {B g : Nat} {w : World} {k : Cs} {h : Nat} {a : Ac} {u u' : World} (q : AS B g w k h a u) (c : Cursor B u' g) (r : u.grownBy u' (some g)) : AS B g w k h a u' :=
  ⟨q.cb.grown r (by have := q.gl; simp; omega), q.rb.grown r (by have := q.gl; simp; omega), q.ab.grown r (by have := q.gl; have := q.hl; simp; omega), c, q.gr.trans r, q.gl, q.hl, q.bl⟩
theorem AS.alloc {B g : Nat} {w : World} {k : Cs} {h : Nat} {a : Ac} {u : World} (q : AS B g w k h a u) (o : Obj) : AS B g w k h a (u.alloc o) :=
  q.call (cursor_alloc q.cur o) (World.grownBy_alloc u o _)
theorem AS.at {B g : Nat} {w : World} {k : Cs} {h : Nat} {a a' : Ac} {u : World} (q : AS B g w k h a u) (i : Nat) (x : Value) (e : AB h a' (u.setCell ⟨h, i, none⟩ x)) : AS B g w k h a' (u.setCell ⟨h, i, none⟩ x) := by
  have l := q.hl
  have gl := q.gl
  have b : Below h u (u.setCell ⟨h, i, none⟩ x) := bel_at u h i x
  refine ⟨q.cb.under b (by omega), ?_, e, cursor_keep q.cur (b.mono (by have := q.bl; omega)), ⟨b.os.trans q.gr.os, b.tape.trans q.gr.tape, b.output.trans q.gr.output, Nat.le_trans q.gr.size b.size, fun j hj hne => (b.block j (by omega)).trans (q.gr.block j hj hne)⟩, gl, l, q.bl⟩
  · obtain ⟨c0, c1, c2, z0, z1, z2⟩ := q.rb
    exact ⟨(b.cell (p := ⟨w.heap.size + 1, 0, none⟩) l).trans c0, (b.cell (p := ⟨w.heap.size + 1, 1, none⟩) l).trans c1, (b.cell (p := ⟨w.heap.size + 1, 2, none⟩) l).trans c2, (b.frozen (p := ⟨w.heap.size + 1, 0, none⟩) l).trans z0, (b.frozen (p := ⟨w.heap.size + 1, 1, none⟩) l).trans z1, (b.frozen (p := ⟨w.heap.size + 1, 2, none⟩) l).trans z2⟩

end Go.Proofs.Ytlonjjliochbhaa
