/- Joined: CBox2. -/
import Derived.Test.YtenbhmmknejcjaaDoorKP9DrawCd
/- A case and an act that a law puts into two new boxes. -/
namespace Go.Proofs.YtenbhmmknejcjaaDoor
open Go.RowKit
set_option maxRecDepth 100000

theorem two_boxes (u : World) (c : Cs) (a : Ac) (t t' : TypeId) : NB u.heap.size c ((u.alloc (.cells #[.int .i64 c.iss, .int .i64 c.acq, .int .i64 c.cur, .int .i64 c.am, .int .i64 c.st, .int .i64 c.rsn, .int .i64 c.cl, .int .i64 c.bk, .int .i64 c.fee, .bool c.cop, .int .i64 c.sta, .int .i64 c.due] t)).alloc (.cells #[.int .i64 a.kind, .int .i64 a.am, .int .i64 a.rsn] t')) ∧ AB (u.heap.size + 1) a ((u.alloc (.cells #[.int .i64 c.iss, .int .i64 c.acq, .int .i64 c.cur, .int .i64 c.am, .int .i64 c.st, .int .i64 c.rsn, .int .i64 c.cl, .int .i64 c.bk, .int .i64 c.fee, .bool c.cop, .int .i64 c.sta, .int .i64 c.due] t)).alloc (.cells #[.int .i64 a.kind, .int .i64 a.am, .int .i64 a.rsn] t')) ∧ Below u.heap.size u ((u.alloc (.cells #[.int .i64 c.iss, .int .i64 c.acq, .int .i64 c.cur, .int .i64 c.am, .int .i64 c.st, .int .i64 c.rsn, .int .i64 c.cl, .int .i64 c.bk, .int .i64 c.fee, .bool c.cop, .int .i64 c.sta, .int .i64 c.due] t)).alloc (.cells #[.int .i64 a.kind, .int .i64 a.am, .int .i64 a.rsn] t')) := by
  have p : Below (u.alloc (.cells #[.int .i64 c.iss, .int .i64 c.acq, .int .i64 c.cur, .int .i64 c.am, .int .i64 c.st, .int .i64 c.rsn, .int .i64 c.cl, .int .i64 c.bk, .int .i64 c.fee, .bool c.cop, .int .i64 c.sta, .int .i64 c.due] t)).heap.size (u.alloc (.cells #[.int .i64 c.iss, .int .i64 c.acq, .int .i64 c.cur, .int .i64 c.am, .int .i64 c.st, .int .i64 c.rsn, .int .i64 c.cl, .int .i64 c.bk, .int .i64 c.fee, .bool c.cop, .int .i64 c.sta, .int .i64 c.due] t)) ((u.alloc (.cells #[.int .i64 c.iss, .int .i64 c.acq, .int .i64 c.cur, .int .i64 c.am, .int .i64 c.st, .int .i64 c.rsn, .int .i64 c.cl, .int .i64 c.bk, .int .i64 c.fee, .bool c.cop, .int .i64 c.sta, .int .i64 c.due] t)).alloc (.cells #[.int .i64 a.kind, .int .i64 a.am, .int .i64 a.rsn] t')) := (Below.refl _ _).alloc (Nat.le_refl _) _
  have r1 := AB.new (u.alloc (.cells #[.int .i64 c.iss, .int .i64 c.acq, .int .i64 c.cur, .int .i64 c.am, .int .i64 c.st, .int .i64 c.rsn, .int .i64 c.cl, .int .i64 c.bk, .int .i64 c.fee, .bool c.cop, .int .i64 c.sta, .int .i64 c.due] t)) a t'
  have s1 : (u.alloc (.cells #[.int .i64 c.iss, .int .i64 c.acq, .int .i64 c.cur, .int .i64 c.am, .int .i64 c.st, .int .i64 c.rsn, .int .i64 c.cl, .int .i64 c.bk, .int .i64 c.fee, .bool c.cop, .int .i64 c.sta, .int .i64 c.due] t)).heap.size = u.heap.size + 1 := by simp
  rw [s1] at r1
  exact ⟨⟨(CB.new u c t).below p, (FZ.new u _ t).below (CB.new u c t).lt p⟩, r1, by go_grown⟩
theorem one_box (u : World) (c : Cs) (t : TypeId) : NB u.heap.size c (u.alloc (.cells #[.int .i64 c.iss, .int .i64 c.acq, .int .i64 c.cur, .int .i64 c.am, .int .i64 c.st, .int .i64 c.rsn, .int .i64 c.cl, .int .i64 c.bk, .int .i64 c.fee, .bool c.cop, .int .i64 c.sta, .int .i64 c.due] t)) ∧ Below u.heap.size u (u.alloc (.cells #[.int .i64 c.iss, .int .i64 c.acq, .int .i64 c.cur, .int .i64 c.am, .int .i64 c.st, .int .i64 c.rsn, .int .i64 c.cl, .int .i64 c.bk, .int .i64 c.fee, .bool c.cop, .int .i64 c.sta, .int .i64 c.due] t)) :=
  ⟨⟨CB.new u c t, FZ.new u _ t⟩, (Below.refl _ _).alloc (Nat.le_refl _) _⟩
theorem tab_below {w w' : World} (h : StepTab w) (hb : Below w.heap.size w w') : StepTab w' := h.below hb
theorem tab_lt' {w : World} (h : StepTab w) : 0 < w.heap.size := World.block_lt_of_cell? w _ (h.cell 0 (by decide))

end Go.Proofs.YtenbhmmknejcjaaDoor
