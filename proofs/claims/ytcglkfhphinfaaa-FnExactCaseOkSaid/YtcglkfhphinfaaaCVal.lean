/- A case as it lies: its value, its box, what stays of it. -/
import Derived.Test.YtcglkfhphinfaaaCaseP
import Derived.Test.YtcglkfhphinfaaaAid
import Derived.Handy
import Derived.OwnWalk
import Derived.Maps.AppendAt
import Derived.Deep.AppendLies
import Derived.Deep.RegionWith
import Derived.Deep.RegionHeld3
namespace Go.Proofs.Ytcglkfhphinfaaa
open Go.RowKit
set_option maxRecDepth 100000

/-- a case as a value, and as cells -/
def cv (c : Cs) : Value := .agg #[.int .i64 c.iss, .int .i64 c.acq, .int .i64 c.cur, .int .i64 c.am, .int .i64 c.st, .int .i64 c.rsn, .int .i64 c.cl, .int .i64 c.bk, .int .i64 c.fee, .bool c.cop, .int .i64 c.sta, .int .i64 c.due]
def ccs (c : Cs) : Array Value := #[.int .i64 c.iss, .int .i64 c.acq, .int .i64 c.cur, .int .i64 c.am, .int .i64 c.st, .int .i64 c.rsn, .int .i64 c.cl, .int .i64 c.bk, .int .i64 c.fee, .bool c.cop, .int .i64 c.sta, .int .i64 c.due]
/-- a case lies in a block, from a place on -/
structure CB (s o : Nat) (c : Cs) (u : World) : Prop where
  f0 : u.cell? ⟨s, o, none⟩ = some (.int .i64 c.iss)
  f1 : u.cell? ⟨s, o + 1, none⟩ = some (.int .i64 c.acq)
  f2 : u.cell? ⟨s, o + 2, none⟩ = some (.int .i64 c.cur)
  f3 : u.cell? ⟨s, o + 3, none⟩ = some (.int .i64 c.am)
  f4 : u.cell? ⟨s, o + 4, none⟩ = some (.int .i64 c.st)
  f5 : u.cell? ⟨s, o + 5, none⟩ = some (.int .i64 c.rsn)
  f6 : u.cell? ⟨s, o + 6, none⟩ = some (.int .i64 c.cl)
  f7 : u.cell? ⟨s, o + 7, none⟩ = some (.int .i64 c.bk)
  f8 : u.cell? ⟨s, o + 8, none⟩ = some (.int .i64 c.fee)
  f9 : u.cell? ⟨s, o + 9, none⟩ = some (.bool c.cop)
  f10 : u.cell? ⟨s, o + 10, none⟩ = some (.int .i64 c.sta)
  f11 : u.cell? ⟨s, o + 11, none⟩ = some (.int .i64 c.due)
theorem CB.lt {s o : Nat} {c : Cs} {u : World} (h : CB s o c u) : s < u.heap.size := World.block_lt_of_cell? u _ h.f0
theorem CB.below {s o : Nat} {c : Cs} {u u' : World} (h : CB s o c u) (b : Below u.heap.size u u') : CB s o c u' := by
  have l := h.lt
  exact ⟨(b.cell (p := ⟨s, o, none⟩) l).trans h.f0, (b.cell (p := ⟨s, o + 1, none⟩) l).trans h.f1, (b.cell (p := ⟨s, o + 2, none⟩) l).trans h.f2, (b.cell (p := ⟨s, o + 3, none⟩) l).trans h.f3, (b.cell (p := ⟨s, o + 4, none⟩) l).trans h.f4, (b.cell (p := ⟨s, o + 5, none⟩) l).trans h.f5,
    (b.cell (p := ⟨s, o + 6, none⟩) l).trans h.f6, (b.cell (p := ⟨s, o + 7, none⟩) l).trans h.f7, (b.cell (p := ⟨s, o + 8, none⟩) l).trans h.f8, (b.cell (p := ⟨s, o + 9, none⟩) l).trans h.f9, (b.cell (p := ⟨s, o + 10, none⟩) l).trans h.f10, (b.cell (p := ⟨s, o + 11, none⟩) l).trans h.f11⟩
theorem CB.grown {s o : Nat} {c : Cs} {u u' : World} {row : Option Nat} (h : CB s o c u) (g : u.grownBy u' row) (hr : some s ≠ row) : CB s o c u' := by
  have l := h.lt
  exact ⟨(g.cell_far ⟨s, o, none⟩ l hr).trans h.f0, (g.cell_far ⟨s, o + 1, none⟩ l hr).trans h.f1, (g.cell_far ⟨s, o + 2, none⟩ l hr).trans h.f2, (g.cell_far ⟨s, o + 3, none⟩ l hr).trans h.f3, (g.cell_far ⟨s, o + 4, none⟩ l hr).trans h.f4, (g.cell_far ⟨s, o + 5, none⟩ l hr).trans h.f5,
    (g.cell_far ⟨s, o + 6, none⟩ l hr).trans h.f6, (g.cell_far ⟨s, o + 7, none⟩ l hr).trans h.f7, (g.cell_far ⟨s, o + 8, none⟩ l hr).trans h.f8, (g.cell_far ⟨s, o + 9, none⟩ l hr).trans h.f9, (g.cell_far ⟨s, o + 10, none⟩ l hr).trans h.f10, (g.cell_far ⟨s, o + 11, none⟩ l hr).trans h.f11⟩
theorem CB.new (w : World) (c : Cs) (t : TypeId) : CB w.heap.size 0 c (w.alloc (.cells #[.int .i64 c.iss, .int .i64 c.acq, .int .i64 c.cur, .int .i64 c.am, .int .i64 c.st, .int .i64 c.rsn, .int .i64 c.cl, .int .i64 c.bk, .int .i64 c.fee, .bool c.cop, .int .i64 c.sta, .int .i64 c.due] t)) := by
  exact ⟨by simp, by simp, by simp, by simp, by simp, by simp, by simp, by simp, by simp, by simp, by simp, by simp⟩

end Go.Proofs.Ytcglkfhphinfaaa
