/- A book that is drawn, whatever the bytes: some lines behind its start. -/
import Derived.Test.YtlonjjliochbhaaJE15a
import Derived.Test.YtlonjjliochbhaaJE18a
import Derived.Test.YtlonjjliochbhaaJE10b
import Derived.Test.YtlonjjliochbhaaKE1BStart
namespace Go.Proofs.Ytlonjjliochbhaa
open Go.RowKit
set_option maxRecDepth 100000

/-- the book's six cells -/
def Z6b (X : Nat) (b : Bk) (p : Bp) (u : World) : Prop := Z6 X (.int .i64 b.today) (.slice p.o b.off.length p.oc) (.slice p.a b.az.length p.ac) (.slice p.c b.cs.length p.cc) (.slice p.l b.ls.length p.lc) (.slice p.g b.log.length p.gc) u
structure BD (B g : Nat) (w : World) (X : Nat) (b : Bk) (p : Bp) (u : World) : Prop where
  cu : Cursor B u g
  gr : w.grownBy u (some g)
  z : Z6b X b p u
  r : Z6 w.heap.size (.int .i64 0) (.slice none 0 0) (.slice none 0 0) (.slice none 0 0) (.slice none 0 0) (.slice none 0 0) u
  bk : BookAt u b p
  og : OffB p g
  oX : OffB p X
  oR : OffB p w.heap.size
  hX : w.heap.size < X
  hB : B ≤ w.heap.size
  hg : g < B
  fr : FrB p w.heap.size
theorem FrB.mono {q : Bp} {n m : Nat} (h : FrB q n) (hm : m ≤ n) : FrB q m := ⟨fr_mono h.o hm, fr_mono h.a hm, fr_mono h.c hm, fr_mono h.l hm, fr_mono h.g hm⟩
theorem BookAt.farB {u u' : World} {b : Bk} {p : Bp} {g : Nat} (h : BookAt u b p) (r : u.grownBy u' (some g)) (n : OffB p g) : BookAt u' b p :=
  ⟨h.off.far r (fun B' e => by cases e; exact n.o), h.az.far r (fun B' e => by cases e; exact n.a), h.cs.far r (fun B' e => by cases e; exact n.c), h.ls.far r (fun B' e => by cases e; exact n.l), h.log.far r (fun B' e => by cases e; exact n.g)⟩
theorem BD.call {B g : Nat} {w : World} {X : Nat} {b : Bk} {p : Bp} {u u' : World} (q : BD B g w X b p u) (c : Cursor B u' g) (r : u.grownBy u' (some g)) : BD B g w X b p u' := by
  have h1 := q.hX; have h2 := q.hB; have h3 := q.hg
  exact ⟨c, q.gr.trans r, Z6.grown q.z r (by simp; omega), q.r.grown r (by simp; omega), q.bk.farB r q.og, q.og, q.oX, q.oR, q.hX, q.hB, q.hg, q.fr⟩
theorem BD.below {B g : Nat} {w : World} {X : Nat} {b : Bk} {p : Bp} {u u' : World} (q : BD B g w X b p u) (h : Below u.heap.size u u') : BD B g w X b p u' := q.call (cursor_below q.cu h) (grown_ofL h _)
theorem BD.drew {B g : Nat} {w : World} {X : Nat} {b : Bk} {p : Bp} {u : World} (q : BD B g w X b p u) : BD B g w X b p u.drew := q.below ((Below.refl _ _).drew)
theorem offB_fresh {q : Bp} {n B : Nat} (h : FrB q n) (hB : B < n) : OffB q B := ⟨fresh_off h.o hB, fresh_off h.a hB, fresh_off h.c hB, fresh_off h.l hB, fresh_off h.g hB⟩
/-- the box is written with another book -/
theorem BD.put {B g : Nat} {w : World} {X : Nat} {b b2 : Bk} {p q2 : Bp} {u v : World} (q : BD B g w X b p u) (hv : Below u.heap.size u v) (hb : BookAt v b2 q2) (hf : FrB q2 u.heap.size) :
    BD B g w X b2 q2 ((((((v.setCell ⟨X, 0, none⟩ (.int .i64 b2.today)).setCell ⟨X, 1, none⟩ (.slice q2.o b2.off.length q2.oc)).setCell ⟨X, 2, none⟩ (.slice q2.a b2.az.length q2.ac)).setCell ⟨X, 3, none⟩ (.slice q2.c b2.cs.length q2.cc)).setCell ⟨X, 4, none⟩ (.slice q2.l b2.ls.length q2.lc)).setCell ⟨X, 5, none⟩ (.slice q2.g b2.log.length q2.gc)) := by
  have hX := q.hX; have hB := q.hB; have hg := q.hg
  have lX : X < u.heap.size := Z6.lt q.z
  have lR := q.r.lt
  have qv := q.below hv
  have z := Z6.put6 qv.z (.int .i64 b2.today) (.slice q2.o b2.off.length q2.oc) (.slice q2.a b2.az.length q2.ac) (.slice q2.c b2.cs.length q2.cc) (.slice q2.l b2.ls.length q2.lc) (.slice q2.g b2.log.length q2.gc)
  have oX := offB_fresh hf lX
  have bel : Below (w.heap.size + 1) v ((((((v.setCell ⟨X, 0, none⟩ (.int .i64 b2.today)).setCell ⟨X, 1, none⟩ (.slice q2.o b2.off.length q2.oc)).setCell ⟨X, 2, none⟩ (.slice q2.a b2.az.length q2.ac)).setCell ⟨X, 3, none⟩ (.slice q2.c b2.cs.length q2.cc)).setCell ⟨X, 4, none⟩ (.slice q2.l b2.ls.length q2.lc)).setCell ⟨X, 5, none⟩ (.slice q2.g b2.log.length q2.gc)) :=
    ((((((Below.refl (w.heap.size + 1) v).setCell (p := ⟨X, 0, none⟩) (by show w.heap.size + 1 ≤ X; omega) _).setCell (p := ⟨X, 1, none⟩) (by show w.heap.size + 1 ≤ X; omega) _).setCell (p := ⟨X, 2, none⟩) (by show w.heap.size + 1 ≤ X; omega) _).setCell (p := ⟨X, 3, none⟩) (by show w.heap.size + 1 ≤ X; omega) _).setCell (p := ⟨X, 4, none⟩) (by show w.heap.size + 1 ≤ X; omega) _).setCell (p := ⟨X, 5, none⟩) (by show w.heap.size + 1 ≤ X; omega) _
  exact ⟨cursor_keep qv.cu (bel.mono (by omega)), ⟨bel.os.trans qv.gr.os, bel.tape.trans qv.gr.tape, bel.output.trans qv.gr.output, Nat.le_trans qv.gr.size bel.size, fun k hk hne => (bel.block k (by omega)).trans (qv.gr.block k hk hne)⟩, z, qv.r.under bel (by omega), hb.put6 oX _ _ _ _ _ _, offB_fresh hf (by omega), oX, offB_fresh hf lR, hX, hB, hg, hf.mono (by omega)⟩

end Go.Proofs.Ytlonjjliochbhaa
