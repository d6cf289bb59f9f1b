/- An authorization in a box: its six cells. -/
import Derived.Test.YtpjfigjgamlcdaaDoorAuSl
namespace Go.Proofs.YtpjfigjgamlcdaaDoor
open Go.RowKit
set_option maxRecDepth 100000

/-- six cells of an authorization -/
structure AuB (b : Nat) (a : Au) (u : World) : Prop where
  c0 : u.cell? ⟨b, 0, none⟩ = some (.string ⟨a.ref.toArray⟩)
  c1 : u.cell? ⟨b, 1, none⟩ = some (.int .i64 a.iss)
  c2 : u.cell? ⟨b, 2, none⟩ = some (.int .i64 a.cur)
  c3 : u.cell? ⟨b, 3, none⟩ = some (.int .i64 a.am)
  c4 : u.cell? ⟨b, 4, none⟩ = some (.int .i64 a.day)
  c5 : u.cell? ⟨b, 5, none⟩ = some (.bool a.used)
theorem AuB.lt {b : Nat} {a : Au} {u : World} (x : AuB b a u) : b < u.heap.size := World.block_lt_of_cell? u _ x.c0
theorem AuB.below {b : Nat} {a : Au} {u u' : World} (x : AuB b a u) (h : Below u.heap.size u u') : AuB b a u' := by
  have l := x.lt
  exact ⟨(h.cell (p := ⟨b, 0, none⟩) l).trans x.c0, (h.cell (p := ⟨b, 1, none⟩) l).trans x.c1, (h.cell (p := ⟨b, 2, none⟩) l).trans x.c2, (h.cell (p := ⟨b, 3, none⟩) l).trans x.c3, (h.cell (p := ⟨b, 4, none⟩) l).trans x.c4, (h.cell (p := ⟨b, 5, none⟩) l).trans x.c5⟩
theorem AuB.grown {b : Nat} {a : Au} {u u' : World} {row : Option Nat} (x : AuB b a u) (g : u.grownBy u' row) (hr : some b ≠ row) : AuB b a u' := by
  have l := x.lt
  exact ⟨(g.cell_far ⟨b, 0, none⟩ l hr).trans x.c0, (g.cell_far ⟨b, 1, none⟩ l hr).trans x.c1, (g.cell_far ⟨b, 2, none⟩ l hr).trans x.c2, (g.cell_far ⟨b, 3, none⟩ l hr).trans x.c3, (g.cell_far ⟨b, 4, none⟩ l hr).trans x.c4, (g.cell_far ⟨b, 5, none⟩ l hr).trans x.c5⟩
theorem AuB.new (w : World) (a : Au) (t : TypeId) : AuB w.heap.size a (w.alloc (.cells #[.string ⟨a.ref.toArray⟩, .int .i64 a.iss, .int .i64 a.cur, .int .i64 a.am, .int .i64 a.day, .bool a.used] t)) :=
  ⟨by simp, by simp, by simp, by simp, by simp, by simp⟩

end Go.Proofs.YtpjfigjgamlcdaaDoor
