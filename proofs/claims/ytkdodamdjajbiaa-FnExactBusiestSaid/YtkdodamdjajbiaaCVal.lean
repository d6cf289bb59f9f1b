/- A case as it lies: its value, its box, what stays of it. -/
import Derived.Test.YtkdodamdjajbiaaCaseP
import Derived.Test.YtkdodamdjajbiaaAid
import Derived.Handy
import Derived.OwnWalk
import Derived.Maps.AppendAt
import Derived.Deep.AppendLies
import Derived.Deep.RegionWith
import Derived.Deep.RegionHeld3
namespace Go.Proofs.Ytkdodamdjajbiaa
open Go.RowKit
set_option maxRecDepth 100000

/-- a case as a value, and as cells -/
def cv (c : Cs) : Value := .agg #[.int .i64 c.iss, .int .i64 c.acq, .int .i64 c.cur, .int .i64 c.am, .int .i64 c.st, .int .i64 c.rsn, .int .i64 c.cl, .int .i64 c.bk, .int .i64 c.fee, .bool c.cop, .int .i64 c.sta, .int .i64 c.due]
def ccs (c : Cs) : Array Value := #[.int .i64 c.iss, .int .i64 c.acq, .int .i64 c.cur, .int .i64 c.am, .int .i64 c.st, .int .i64 c.rsn, .int .i64 c.cl, .int .i64 c.bk, .int .i64 c.fee, .bool c.cop, .int .i64 c.sta, .int .i64 c.due]
/-- a case lies in a block, from a place on -/
structure CB (s o : Nat) (c : Cs) (u : World) : Prop where
  f0 : u.cell? ⟨s, o, none⟩ = some (.int .i64 c.iss)
  f1 : u.cell? ⟨s, o + 1, none⟩ = some (.int .i64 c.acq)
  f2 : u.cell? ⟨s, o + 2, none⟩ = some (.int .i64 c.cur)
  f3 : u.cell? ⟨s, o + 3, none⟩ = some (.int .i64 c.am)
  f4 : u.cell? ⟨s, o + 4, none⟩ = some (.int .i64 c.st)
  f5 : u.cell? ⟨s, o + 5, none⟩ = some (.int .i64 c.rsn)
  f6 : u.cell? ⟨s, o + 6, none⟩ = some (.int .i64 c.cl)
  f7 : u.cell? ⟨s, o + 7, none⟩ = some (.int .i64 c.bk)
  f8 : u.cell? ⟨s, o + 8, none⟩ = some (.int .i64 c.fee)
  f9 : u.cell? ⟨s, o + 9, none⟩ = some (.bool c.cop)
  f10 : u.cell? ⟨s, o + 10, none⟩ = some (.int .i64 c.sta)
  f11 : u.cell? ⟨s, o + 11, none⟩ = some (.int .i64 c.due)
theorem CB.lt {s o : Nat} {c : Cs} {u : World} (h : CB s o c u) : s < u.heap.size := World.block_lt_of_cell? u _ h.f0
theorem CB.below {s o : Nat} {c : Cs} {u u' : World} (h : CB s o c u) (b : Below u.heap.size u u') : CB s o c u' := by
  have l := h.lt
  exact ⟨(b.cell (p := ⟨s, o, none⟩) l).trans h.f0, (b.cell (p := ⟨s, o + 1, none⟩) l).trans h.f1, (b.cell (p := ⟨s, o + 2, none⟩) l).trans h.f2, (b.cell (p := ⟨s, o + 3, none⟩) l).trans h.f3, (b.cell (p := ⟨s, o + 4, none⟩) l).trans h.f4, (b.cell (p := ⟨s, o + 5, none⟩) l).trans h.f5,
    (b.cell (p := ⟨s, o + 6, none⟩) l).trans h.f6, (b.cell (p := ⟨s, o + 7, none⟩) l).trans h.f7, (b.cell (p := ⟨s, o + 8, none⟩) l).trans h.f8, (b.cell (p := ⟨s, o + 9, none⟩) l).trans h.f9, (b.cell (p := ⟨s, o + 10, none⟩) l).trans h.f10, (b.cell (p := ⟨s, o + 11, none⟩) l).trans h.f11⟩
theorem CB.grown {s o : Nat} {c : Cs} {u u' : World} {row : Option Nat} (h : CB s o c u) (g : u.grownBy u' row) (hr : some s ≠ row) : CB s o c u' := by
  have l := h.lt
  exact ⟨(g.cell_far ⟨s, o, none⟩ l hr).trans h.f0, (g.cell_far ⟨s, o + 1, none⟩ l hr).trans h.f1, (g.cell_far ⟨s, o + 2, none⟩ l hr).trans h.f2, (g.cell_far ⟨s, o + 3, none⟩ l hr).trans h.f3, (g.cell_far ⟨s, o + 4, none⟩ l hr).trans h.f4, (g.cell_far ⟨s, o + 5, none⟩ l hr).trans h.f5,
    (g.cell_far ⟨s, o + 6, none⟩ l hr).trans h.f6, (g.cell_far ⟨s, o + 7, none⟩ l hr).trans h.f7, (g.cell_far ⟨s, o + 8, none⟩ l hr).trans h.f8, (g.cell_far ⟨s, o + 9, none⟩ l hr).trans h.f9, (g.cell_far ⟨s, o + 10, none⟩ l hr).trans h.f10, (g.cell_far ⟨s, o + 11, none⟩ l hr).trans h.f11⟩
theorem CB.new (w : World) (c : Cs) (t : TypeId) : CB w.heap.size 0 c (w.alloc (.cells #[.int .i64 c.iss, .int .i64 c.acq, .int .i64 c.cur, .int .i64 c.am, .int .i64 c.st, .int .i64 c.rsn, .int .i64 c.cl, .int .i64 c.bk, .int .i64 c.fee, .bool c.cop, .int .i64 c.sta, .int .i64 c.due] t)) := by
  exact ⟨by simp, by simp, by simp, by simp, by simp, by simp, by simp, by simp, by simp, by simp, by simp, by simp⟩

/-- the cells of a case may be written -/
structure FZ (s o : Nat) (u : World) : Prop where
  z0 : u.frozen? ⟨s, o, none⟩ = false
  z1 : u.frozen? ⟨s, o + 1, none⟩ = false
  z2 : u.frozen? ⟨s, o + 2, none⟩ = false
  z3 : u.frozen? ⟨s, o + 3, none⟩ = false
  z4 : u.frozen? ⟨s, o + 4, none⟩ = false
  z5 : u.frozen? ⟨s, o + 5, none⟩ = false
  z6 : u.frozen? ⟨s, o + 6, none⟩ = false
  z7 : u.frozen? ⟨s, o + 7, none⟩ = false
  z8 : u.frozen? ⟨s, o + 8, none⟩ = false
  z9 : u.frozen? ⟨s, o + 9, none⟩ = false
  z10 : u.frozen? ⟨s, o + 10, none⟩ = false
  z11 : u.frozen? ⟨s, o + 11, none⟩ = false
theorem FZ.below {s o : Nat} {u u' : World} (h : FZ s o u) (l : s < u.heap.size) (b : Below u.heap.size u u') : FZ s o u' :=
  ⟨(b.frozen (p := ⟨s, o, none⟩) l).trans h.z0, (b.frozen (p := ⟨s, o + 1, none⟩) l).trans h.z1, (b.frozen (p := ⟨s, o + 2, none⟩) l).trans h.z2, (b.frozen (p := ⟨s, o + 3, none⟩) l).trans h.z3, (b.frozen (p := ⟨s, o + 4, none⟩) l).trans h.z4, (b.frozen (p := ⟨s, o + 5, none⟩) l).trans h.z5, (b.frozen (p := ⟨s, o + 6, none⟩) l).trans h.z6, (b.frozen (p := ⟨s, o + 7, none⟩) l).trans h.z7, (b.frozen (p := ⟨s, o + 8, none⟩) l).trans h.z8, (b.frozen (p := ⟨s, o + 9, none⟩) l).trans h.z9, (b.frozen (p := ⟨s, o + 10, none⟩) l).trans h.z10, (b.frozen (p := ⟨s, o + 11, none⟩) l).trans h.z11⟩
theorem FZ.grown {s o : Nat} {u u' : World} {row : Option Nat} (h : FZ s o u) (l : s < u.heap.size) (g : u.grownBy u' row) (hr : some s ≠ row) : FZ s o u' :=
  ⟨(g.frozen_far ⟨s, o, none⟩ l hr).trans h.z0, (g.frozen_far ⟨s, o + 1, none⟩ l hr).trans h.z1, (g.frozen_far ⟨s, o + 2, none⟩ l hr).trans h.z2, (g.frozen_far ⟨s, o + 3, none⟩ l hr).trans h.z3, (g.frozen_far ⟨s, o + 4, none⟩ l hr).trans h.z4, (g.frozen_far ⟨s, o + 5, none⟩ l hr).trans h.z5, (g.frozen_far ⟨s, o + 6, none⟩ l hr).trans h.z6, (g.frozen_far ⟨s, o + 7, none⟩ l hr).trans h.z7, (g.frozen_far ⟨s, o + 8, none⟩ l hr).trans h.z8, (g.frozen_far ⟨s, o + 9, none⟩ l hr).trans h.z9, (g.frozen_far ⟨s, o + 10, none⟩ l hr).trans h.z10, (g.frozen_far ⟨s, o + 11, none⟩ l hr).trans h.z11⟩
theorem FZ.new (w : World) (cs : Array Value) (t : TypeId) : FZ w.heap.size 0 (w.alloc (.cells cs t)) :=
  ⟨by simp [go_sem], by simp [go_sem], by simp [go_sem], by simp [go_sem], by simp [go_sem], by simp [go_sem], by simp [go_sem], by simp [go_sem], by simp [go_sem], by simp [go_sem], by simp [go_sem], by simp [go_sem]⟩
/-- a case put into a block -/
def put12 (u : World) (h : Nat) (c : Cs) : World :=
  (((((((((((u.setCell ⟨h, 0, none⟩ (.int .i64 c.iss)).setCell ⟨h, 1, none⟩ (.int .i64 c.acq)).setCell ⟨h, 2, none⟩ (.int .i64 c.cur)).setCell ⟨h, 3, none⟩ (.int .i64 c.am)).setCell ⟨h, 4, none⟩ (.int .i64 c.st)).setCell ⟨h, 5, none⟩ (.int .i64 c.rsn)).setCell ⟨h, 6, none⟩ (.int .i64 c.cl)).setCell ⟨h, 7, none⟩ (.int .i64 c.bk)).setCell ⟨h, 8, none⟩ (.int .i64 c.fee)).setCell ⟨h, 9, none⟩ (.bool c.cop)).setCell ⟨h, 10, none⟩ (.int .i64 c.sta)).setCell ⟨h, 11, none⟩ (.int .i64 c.due)
theorem put12_below {w u : World} {h n : Nat} (c : Cs) (b : Below n w u) (hn : n ≤ h) : Below n w (put12 u h c) :=
  (((((((((((b.setCell hn _).setCell hn _).setCell hn _).setCell hn _).setCell hn _).setCell hn _).setCell hn _).setCell hn _).setCell hn _).setCell hn _).setCell hn _).setCell hn _
theorem put12_size (u : World) (h : Nat) (c : Cs) : (put12 u h c).heap.size = u.heap.size := by simp [put12]
theorem put12_cb {u : World} {h : Nat} {c d : Cs} (b : CB h 0 d u) : CB h 0 c (put12 u h c) := by
  obtain ⟨f0, f1, f2, f3, f4, f5, f6, f7, f8, f9, f10, f11⟩ := b
  simp only [Nat.zero_add] at f0 f1 f2 f3 f4 f5 f6 f7 f8 f9 f10 f11
  exact ⟨by simp [put12, go_sem, f0], by simp [put12, go_sem, f1], by simp [put12, go_sem, f2], by simp [put12, go_sem, f3], by simp [put12, go_sem, f4], by simp [put12, go_sem, f5], by simp [put12, go_sem, f6], by simp [put12, go_sem, f7], by simp [put12, go_sem, f8], by simp [put12, go_sem, f9], by simp [put12, go_sem, f10], by simp [put12, go_sem, f11]⟩

end Go.Proofs.Ytkdodamdjajbiaa
