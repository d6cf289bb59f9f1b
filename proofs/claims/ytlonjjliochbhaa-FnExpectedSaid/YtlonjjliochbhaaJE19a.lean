/- Joined: BkDrY. -/
import Derived.Test.YtlonjjliochbhaaKE1BkDraw
/- What stands while a book is drawn, with an empty box beside it. -/
namespace Go.Proofs.Ytlonjjliochbhaa
open Go.RowKit
set_option maxRecDepth 100000

theorem BD.s {B g : Nat} {w : World} {X : Nat} {b : Bk} {p : Bp} {u : World} (q : BD B g w X b p u) : u.cell? ⟨X, 0, none⟩ = some (.int .i64 b.today) ∧ u.cell? ⟨X, 1, none⟩ = some (.slice p.o b.off.length p.oc) ∧ u.cell? ⟨X, 2, none⟩ = some (.slice p.a b.az.length p.ac) ∧ u.cell? ⟨X, 3, none⟩ = some (.slice p.c b.cs.length p.cc) ∧ u.cell? ⟨X, 4, none⟩ = some (.slice p.l b.ls.length p.lc) ∧ u.cell? ⟨X, 5, none⟩ = some (.slice p.g b.log.length p.gc) := ⟨q.z.c0, q.z.c1, q.z.c2, q.z.c3, q.z.c4, q.z.c5⟩
theorem BD.al {B g : Nat} {w : World} {X : Nat} {b : Bk} {p : Bp} {u : World} (q : BD B g w X b p u) (o : Obj) : BD B g w X b p (u.alloc o) := q.below ((Below.refl _ _).alloc (Nat.le_refl _) _)
/-- the box X is written with another book, in whatever world -/
theorem bd_put {B g : Nat} {w : World} {X : Nat} {b2 : Bk} {q2 : Bp} {v : World} {z0 z1 z2 z3 z4 z5 : Value} (cu : Cursor B v g) (gr : w.grownBy v (some g)) (z : Z6 X z0 z1 z2 z3 z4 z5 v)
    (r : Z6 w.heap.size (.int .i64 0) (.slice none 0 0) (.slice none 0 0) (.slice none 0 0) (.slice none 0 0) (.slice none 0 0) v) (hb : BookAt v b2 q2) (og : OffB q2 g) (oX : OffB q2 X) (oR : OffB q2 w.heap.size) (hX : w.heap.size < X) (hB : B ≤ w.heap.size) (hg : g < B) (hfr : FrB q2 w.heap.size) :
    BD B g w X b2 q2 ((((((v.setCell ⟨X, 0, none⟩ (.int .i64 b2.today)).setCell ⟨X, 1, none⟩ (.slice q2.o b2.off.length q2.oc)).setCell ⟨X, 2, none⟩ (.slice q2.a b2.az.length q2.ac)).setCell ⟨X, 3, none⟩ (.slice q2.c b2.cs.length q2.cc)).setCell ⟨X, 4, none⟩ (.slice q2.l b2.ls.length q2.lc)).setCell ⟨X, 5, none⟩ (.slice q2.g b2.log.length q2.gc)) := by
  have zz := Z6.put6 z (.int .i64 b2.today) (.slice q2.o b2.off.length q2.oc) (.slice q2.a b2.az.length q2.ac) (.slice q2.c b2.cs.length q2.cc) (.slice q2.l b2.ls.length q2.lc) (.slice q2.g b2.log.length q2.gc)
  have bel : Below (w.heap.size + 1) v ((((((v.setCell ⟨X, 0, none⟩ (.int .i64 b2.today)).setCell ⟨X, 1, none⟩ (.slice q2.o b2.off.length q2.oc)).setCell ⟨X, 2, none⟩ (.slice q2.a b2.az.length q2.ac)).setCell ⟨X, 3, none⟩ (.slice q2.c b2.cs.length q2.cc)).setCell ⟨X, 4, none⟩ (.slice q2.l b2.ls.length q2.lc)).setCell ⟨X, 5, none⟩ (.slice q2.g b2.log.length q2.gc)) :=
    ((((((Below.refl (w.heap.size + 1) v).setCell (p := ⟨X, 0, none⟩) (by show w.heap.size + 1 ≤ X; omega) _).setCell (p := ⟨X, 1, none⟩) (by show w.heap.size + 1 ≤ X; omega) _).setCell (p := ⟨X, 2, none⟩) (by show w.heap.size + 1 ≤ X; omega) _).setCell (p := ⟨X, 3, none⟩) (by show w.heap.size + 1 ≤ X; omega) _).setCell (p := ⟨X, 4, none⟩) (by show w.heap.size + 1 ≤ X; omega) _).setCell (p := ⟨X, 5, none⟩) (by show w.heap.size + 1 ≤ X; omega) _
  exact ⟨cursor_keep cu (bel.mono (by omega)), ⟨bel.os.trans gr.os, bel.tape.trans gr.tape, bel.output.trans gr.output, Nat.le_trans gr.size bel.size, fun k hk hne => (bel.block k (by omega)).trans (gr.block k hk hne)⟩, zz, r.under bel (by omega), hb.put6 oX _ _ _ _ _ _, og, oX, oR, hX, hB, hg, hfr⟩
structure BY (B g : Nat) (w : World) (X : Nat) (b : Bk) (p : Bp) (Y : Nat) (u : World) : Prop where
  bd : BD B g w X b p u
  zy : Z6 Y (.int .i64 0) (.slice none 0 0) (.slice none 0 0) (.slice none 0 0) (.slice none 0 0) (.slice none 0 0) u
  hY : X < Y
theorem BY.call {B g : Nat} {w : World} {X : Nat} {b : Bk} {p : Bp} {Y : Nat} {u u' : World} (q : BY B g w X b p Y u) (c : Cursor B u' g) (r : u.grownBy u' (some g)) : BY B g w X b p Y u' := by
  have h1 := q.bd.hX; have h2 := q.bd.hB; have h3 := q.bd.hg; have h4 := q.hY
  exact ⟨q.bd.call c r, q.zy.grown r (by simp; omega), q.hY⟩
theorem BY.below {B g : Nat} {w : World} {X : Nat} {b : Bk} {p : Bp} {Y : Nat} {u u' : World} (q : BY B g w X b p Y u) (h : Below u.heap.size u u') : BY B g w X b p Y u' := q.call (cursor_below q.bd.cu h) (grown_ofL h _)
theorem BY.drew {B g : Nat} {w : World} {X : Nat} {b : Bk} {p : Bp} {Y : Nat} {u : World} (q : BY B g w X b p Y u) : BY B g w X b p Y u.drew := q.below ((Below.refl _ _).drew)
theorem BY.new {B g : Nat} {w : World} {X : Nat} {b : Bk} {p : Bp} {u : World} (q : BD B g w X b p u) (t : TypeId) : BY B g w X b p u.heap.size (u.alloc (.cells #[.int .i64 0, .slice none 0 0, .slice none 0 0, .slice none 0 0, .slice none 0 0, .slice none 0 0] t)) :=
  ⟨q.al _, Z6.new u _ _ _ _ _ _ _, Z6.lt q.z⟩
/-- the empty box is written, then the box X -/
theorem BY.mid {B g : Nat} {w : World} {X : Nat} {b : Bk} {p : Bp} {Y : Nat} {u : World} (q : BY B g w X b p Y u) (x0 x1 x2 x3 x4 x5 : Value) :
    Z6b X b p ((((((u.setCell ⟨Y, 0, none⟩ x0).setCell ⟨Y, 1, none⟩ x1).setCell ⟨Y, 2, none⟩ x2).setCell ⟨Y, 3, none⟩ x3).setCell ⟨Y, 4, none⟩ x4).setCell ⟨Y, 5, none⟩ x5) := Z6.far6 q.bd.z (by have := q.hY; omega) _ _ _ _ _ _
theorem BY.ms {B g : Nat} {w : World} {X : Nat} {b : Bk} {p : Bp} {Y : Nat} {u : World} (q : BY B g w X b p Y u) (x0 x1 x2 x3 x4 x5 : Value) :
    ((((((u.setCell ⟨Y, 0, none⟩ x0).setCell ⟨Y, 1, none⟩ x1).setCell ⟨Y, 2, none⟩ x2).setCell ⟨Y, 3, none⟩ x3).setCell ⟨Y, 4, none⟩ x4).setCell ⟨Y, 5, none⟩ x5).cell? ⟨X, 0, none⟩ = some (.int .i64 b.today) ∧ ((((((u.setCell ⟨Y, 0, none⟩ x0).setCell ⟨Y, 1, none⟩ x1).setCell ⟨Y, 2, none⟩ x2).setCell ⟨Y, 3, none⟩ x3).setCell ⟨Y, 4, none⟩ x4).setCell ⟨Y, 5, none⟩ x5).cell? ⟨X, 1, none⟩ = some (.slice p.o b.off.length p.oc) ∧ ((((((u.setCell ⟨Y, 0, none⟩ x0).setCell ⟨Y, 1, none⟩ x1).setCell ⟨Y, 2, none⟩ x2).setCell ⟨Y, 3, none⟩ x3).setCell ⟨Y, 4, none⟩ x4).setCell ⟨Y, 5, none⟩ x5).cell? ⟨X, 2, none⟩ = some (.slice p.a b.az.length p.ac) ∧ ((((((u.setCell ⟨Y, 0, none⟩ x0).setCell ⟨Y, 1, none⟩ x1).setCell ⟨Y, 2, none⟩ x2).setCell ⟨Y, 3, none⟩ x3).setCell ⟨Y, 4, none⟩ x4).setCell ⟨Y, 5, none⟩ x5).cell? ⟨X, 3, none⟩ = some (.slice p.c b.cs.length p.cc) ∧ ((((((u.setCell ⟨Y, 0, none⟩ x0).setCell ⟨Y, 1, none⟩ x1).setCell ⟨Y, 2, none⟩ x2).setCell ⟨Y, 3, none⟩ x3).setCell ⟨Y, 4, none⟩ x4).setCell ⟨Y, 5, none⟩ x5).cell? ⟨X, 4, none⟩ = some (.slice p.l b.ls.length p.lc) ∧ ((((((u.setCell ⟨Y, 0, none⟩ x0).setCell ⟨Y, 1, none⟩ x1).setCell ⟨Y, 2, none⟩ x2).setCell ⟨Y, 3, none⟩ x3).setCell ⟨Y, 4, none⟩ x4).setCell ⟨Y, 5, none⟩ x5).cell? ⟨X, 5, none⟩ = some (.slice p.g b.log.length p.gc) :=
  ⟨(q.mid x0 x1 x2 x3 x4 x5).c0, (q.mid x0 x1 x2 x3 x4 x5).c1, (q.mid x0 x1 x2 x3 x4 x5).c2, (q.mid x0 x1 x2 x3 x4 x5).c3, (q.mid x0 x1 x2 x3 x4 x5).c4, (q.mid x0 x1 x2 x3 x4 x5).c5⟩
theorem BY.put {B g : Nat} {w : World} {X : Nat} {b b2 : Bk} {p q2 : Bp} {Y : Nat} {u v : World} (q : BY B g w X b p Y u) (hv : Below u.heap.size u v) (hb : BookAt v b2 q2) (hf : FrB q2 u.heap.size) (x0 x1 x2 x3 x4 x5 : Value) :
    BD B g w X b2 q2 ((((((((((((v.setCell ⟨Y, 0, none⟩ x0).setCell ⟨Y, 1, none⟩ x1).setCell ⟨Y, 2, none⟩ x2).setCell ⟨Y, 3, none⟩ x3).setCell ⟨Y, 4, none⟩ x4).setCell ⟨Y, 5, none⟩ x5).setCell ⟨X, 0, none⟩ (.int .i64 b2.today)).setCell ⟨X, 1, none⟩ (.slice q2.o b2.off.length q2.oc)).setCell ⟨X, 2, none⟩ (.slice q2.a b2.az.length q2.ac)).setCell ⟨X, 3, none⟩ (.slice q2.c b2.cs.length q2.cc)).setCell ⟨X, 4, none⟩ (.slice q2.l b2.ls.length q2.lc)).setCell ⟨X, 5, none⟩ (.slice q2.g b2.log.length q2.gc)) := by
  have hX := q.bd.hX; have hB := q.bd.hB; have hg := q.bd.hg; have hY := q.hY
  have lY := q.zy.lt
  have lX : X < u.heap.size := Z6.lt q.bd.z
  have qv := q.below hv
  have bel : Below (w.heap.size + 1) v ((((((v.setCell ⟨Y, 0, none⟩ x0).setCell ⟨Y, 1, none⟩ x1).setCell ⟨Y, 2, none⟩ x2).setCell ⟨Y, 3, none⟩ x3).setCell ⟨Y, 4, none⟩ x4).setCell ⟨Y, 5, none⟩ x5) :=
    ((((((Below.refl (w.heap.size + 1) v).setCell (p := ⟨Y, 0, none⟩) (by show w.heap.size + 1 ≤ Y; omega) _).setCell (p := ⟨Y, 1, none⟩) (by show w.heap.size + 1 ≤ Y; omega) _).setCell (p := ⟨Y, 2, none⟩) (by show w.heap.size + 1 ≤ Y; omega) _).setCell (p := ⟨Y, 3, none⟩) (by show w.heap.size + 1 ≤ Y; omega) _).setCell (p := ⟨Y, 4, none⟩) (by show w.heap.size + 1 ≤ Y; omega) _).setCell (p := ⟨Y, 5, none⟩) (by show w.heap.size + 1 ≤ Y; omega) _
  have gr := qv.bd.gr
  exact bd_put (cursor_keep qv.bd.cu (bel.mono (by omega))) ⟨bel.os.trans gr.os, bel.tape.trans gr.tape, bel.output.trans gr.output, Nat.le_trans gr.size bel.size, fun k hk hne => (bel.block k (by omega)).trans (gr.block k hk hne)⟩ (qv.mid x0 x1 x2 x3 x4 x5) (qv.bd.r.under bel (by omega)) (hb.put6 (offB_fresh hf lY) _ _ _ _ _ _) (offB_fresh hf (by omega)) (offB_fresh hf lX) (offB_fresh hf (by omega)) hX hB hg (hf.mono (by omega))

end Go.Proofs.Ytlonjjliochbhaa
