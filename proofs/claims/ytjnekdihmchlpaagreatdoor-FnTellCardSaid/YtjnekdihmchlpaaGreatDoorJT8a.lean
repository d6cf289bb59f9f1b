import Derived.Test.YtjnekdihmchlpaaGreatDoorJT1a
import Derived.Test.YtjnekdihmchlpaaGreatDoorKTSDo6
import Derived.Test.YtjnekdihmchlpaaGreatDoorKTCStart
/- The boxes of a drawn case: what stands while it is drawn. -/
namespace Go.Proofs.YtjnekdihmchlpaaGreatDoor
open Go.RowKit
set_option maxRecDepth 100000
theorem grown_ofK {w w' : World} (h : Below w.heap.size w w') (r : Option Nat) : w.grownBy w' r := ⟨h.os, h.tape, h.output, h.size, fun k hk _ => h.block k hk⟩
/-- a list of ints that the cursor is no part of, later on -/
theorem ints_far {w u : World} {g : Nat} {ao : Option Addr} {zs : List Int} (h : IntsAt w ao zs) (gr : w.grownBy u (some g)) (ne : ∀ a, ao = some a → a.block ≠ g) : IntsAt u ao zs := by
  rcases h with h | ⟨b, off, h1, h2, h3⟩
  · exact .inl h
  · have hb : b ≠ g := ne _ h1
    exact .inr ⟨b, off, h1, Nat.lt_of_lt_of_le h2 gr.size, fun i hi => (gr.cell_far ⟨b, off + i, none⟩ h2 (by simp; exact hb)).trans (h3 i hi)⟩
/-- while a case is drawn: the answer's box, the case's own, the cursor; nothing else of what stood has changed -/
structure KS (B g : Nat) (w : World) (h : Nat) (k : Cs) (u : World) : Prop where
  rb : CB w.heap.size 0 zeroC u
  rz : FZ w.heap.size 0 u
  kb : CB h 0 k u
  kz : FZ h 0 u
  cur : Cursor B u g
  gr : w.grownBy u (some g)
  gl : g < w.heap.size
  hl : w.heap.size < h
  bl : B ≤ w.heap.size
theorem KS.call {B g : Nat} {w : World} {h : Nat} {k : Cs} {u u' : World} (q : KS B g w h k u) (c : Cursor B u' g) (r : u.grownBy u' (some g)) : KS B g w h k u' :=
  ⟨q.rb.grown r (by have := q.gl; simp; omega), q.rz.grown q.rb.lt r (by have := q.gl; simp; omega), q.kb.grown r (by have := q.gl; have := q.hl; simp; omega), q.kz.grown q.kb.lt r (by have := q.gl; have := q.hl; simp; omega), c, q.gr.trans r, q.gl, q.hl, q.bl⟩
theorem KS.below {B g : Nat} {w : World} {h : Nat} {k : Cs} {u u' : World} (q : KS B g w h k u) (b : Below u.heap.size u u') : KS B g w h k u' :=
  q.call (cursor_below q.cur b) (grown_ofK b _)
theorem KS.alloc {B g : Nat} {w : World} {h : Nat} {k : Cs} {u : World} (q : KS B g w h k u) (o : Obj) : KS B g w h k (u.alloc o) :=
  q.below ((Below.refl _ _).alloc (Nat.le_refl _) _)
theorem KS.drew {B g : Nat} {w : World} {h : Nat} {k : Cs} {u : World} (q : KS B g w h k u) : KS B g w h k u.drew := q.below ((Below.refl _ _).drew)
/-- a store into the case's box -/
theorem KS.set {B g : Nat} {w : World} {h : Nat} {k d : Cs} {u u' : World} (q : KS B g w h k u) (b : Below h u u') (e : NB h d u') : KS B g w h d u' := by
  have l := q.hl
  have gl := q.gl
  exact ⟨q.rb.under b l, ⟨(b.frozen (p := ⟨w.heap.size, _, none⟩) l).trans q.rz.z0, (b.frozen (p := ⟨w.heap.size, _, none⟩) l).trans q.rz.z1, (b.frozen (p := ⟨w.heap.size, _, none⟩) l).trans q.rz.z2, (b.frozen (p := ⟨w.heap.size, _, none⟩) l).trans q.rz.z3, (b.frozen (p := ⟨w.heap.size, _, none⟩) l).trans q.rz.z4, (b.frozen (p := ⟨w.heap.size, _, none⟩) l).trans q.rz.z5, (b.frozen (p := ⟨w.heap.size, _, none⟩) l).trans q.rz.z6, (b.frozen (p := ⟨w.heap.size, _, none⟩) l).trans q.rz.z7, (b.frozen (p := ⟨w.heap.size, _, none⟩) l).trans q.rz.z8, (b.frozen (p := ⟨w.heap.size, _, none⟩) l).trans q.rz.z9, (b.frozen (p := ⟨w.heap.size, _, none⟩) l).trans q.rz.z10, (b.frozen (p := ⟨w.heap.size, _, none⟩) l).trans q.rz.z11⟩, e.cb, e.fz, cursor_keep q.cur (b.mono (by have := q.bl; omega)), ⟨b.os.trans q.gr.os, b.tape.trans q.gr.tape, b.output.trans q.gr.output, Nat.le_trans q.gr.size b.size, fun j hj hne => (b.block j (by omega)).trans (q.gr.block j hj hne)⟩, gl, l, q.bl⟩
theorem KS.nb {B g : Nat} {w : World} {h : Nat} {k : Cs} {u : World} (q : KS B g w h k u) : NB h k u := ⟨q.kb, q.kz⟩
theorem KS.at {B g : Nat} {w : World} {h : Nat} {k d : Cs} {u : World} (q : KS B g w h k u) (i : Nat) (x : Value) (e : NB h d (u.setCell ⟨h, i, none⟩ x)) : KS B g w h d (u.setCell ⟨h, i, none⟩ x) := q.set (bel_at u h i x) e
/-- the case's box and, where it is made, the box of what is to come: a world on the way through the statement that does an act -/
structure KZ (B g : Nat) (w : World) (h : Nat) (k : Cs) (u : World) (ob : Option Nat) : Prop where
  ks : KS B g w h k u
  box : ∀ b, ob = some b → h < b ∧ CB b 0 zeroC u ∧ FZ b 0 u
theorem KZ.call {B g : Nat} {w : World} {h : Nat} {k : Cs} {u u' : World} {ob : Option Nat} (z : KZ B g w h k u ob) (c : Cursor B u' g) (r : u.grownBy u' (some g)) : KZ B g w h k u' ob :=
  ⟨z.ks.call c r, fun b hb => by
    obtain ⟨h1, h2, h3⟩ := z.box b hb
    have := z.ks.gl; have := z.ks.hl
    exact ⟨h1, h2.grown r (by simp; omega), h3.grown h2.lt r (by simp; omega)⟩⟩
theorem KZ.below {B g : Nat} {w : World} {h : Nat} {k : Cs} {u u' : World} {ob : Option Nat} (z : KZ B g w h k u ob) (b : Below u.heap.size u u') : KZ B g w h k u' ob := z.call (cursor_below z.ks.cur b) (grown_ofK b _)
theorem KZ.drew {B g : Nat} {w : World} {h : Nat} {k : Cs} {u : World} {ob : Option Nat} (z : KZ B g w h k u ob) : KZ B g w h k u.drew ob := z.below ((Below.refl _ _).drew)
theorem KZ.al {B g : Nat} {w : World} {h : Nat} {k : Cs} {u : World} (z : KZ B g w h k u none) (t : TypeId) : KZ B g w h k (u.alloc (.cells #[.int .i64 0, .int .i64 0, .int .i64 0, .int .i64 0, .int .i64 0, .int .i64 0, .int .i64 0, .int .i64 0, .int .i64 0, .bool false, .int .i64 0, .int .i64 0] t)) (some u.heap.size) := by
  refine ⟨z.ks.alloc _, fun b hb => ?_⟩
  injection hb with hb
  subst hb
  exact ⟨z.ks.kb.lt, CB.new u zeroC t, FZ.new u _ t⟩
/-- behind that statement: the case as it was, and the next one in its own box -/
structure KN (B g : Nat) (w : World) (h : Nat) (k : Cs) (b : Nat) (d : Cs) (u : World) : Prop where
  ks : KS B g w h k u
  cb : CB b 0 d u
  gt : h < b
theorem KN.new {B g : Nat} {w : World} {h : Nat} {k : Cs} {u : World} (z : KZ B g w h k u none) (n : Cs) (t : TypeId) : KN B g w h k u.heap.size n (u.alloc (.cells #[.int .i64 n.iss, .int .i64 n.acq, .int .i64 n.cur, .int .i64 n.am, .int .i64 n.st, .int .i64 n.rsn, .int .i64 n.cl, .int .i64 n.bk, .int .i64 n.fee, .bool n.cop, .int .i64 n.sta, .int .i64 n.due] t)) :=
  ⟨z.ks.alloc _, CB.new u n t, z.ks.kb.lt⟩
theorem KN.put {B g : Nat} {w : World} {h : Nat} {k : Cs} {u : World} {b : Nat} (z : KZ B g w h k u (some b)) (n : Cs) : KN B g w h k b n (put12 u b n) := by
  obtain ⟨h1, h2, h3⟩ := z.box b rfl
  have hl := z.ks.hl
  have gl := z.ks.gl
  have bw : Below b u (put12 u b n) := put12_below n (Below.refl _ _) (Nat.le_refl _)
  have q := z.ks
  refine ⟨⟨q.rb.under bw (by omega), ?_, q.kb.under bw h1, ?_, cursor_keep q.cur (bw.mono (by have := q.bl; omega)), ⟨bw.os.trans q.gr.os, bw.tape.trans q.gr.tape, bw.output.trans q.gr.output, Nat.le_trans q.gr.size bw.size, fun j hj hne => (bw.block j (by omega)).trans (q.gr.block j hj hne)⟩, gl, hl, q.bl⟩, put12_cb h2, h1⟩
  · have l : w.heap.size < b := by omega
    exact ⟨(bw.frozen (p := ⟨w.heap.size, _, none⟩) l).trans q.rz.z0, (bw.frozen (p := ⟨w.heap.size, _, none⟩) l).trans q.rz.z1, (bw.frozen (p := ⟨w.heap.size, _, none⟩) l).trans q.rz.z2, (bw.frozen (p := ⟨w.heap.size, _, none⟩) l).trans q.rz.z3, (bw.frozen (p := ⟨w.heap.size, _, none⟩) l).trans q.rz.z4, (bw.frozen (p := ⟨w.heap.size, _, none⟩) l).trans q.rz.z5, (bw.frozen (p := ⟨w.heap.size, _, none⟩) l).trans q.rz.z6, (bw.frozen (p := ⟨w.heap.size, _, none⟩) l).trans q.rz.z7, (bw.frozen (p := ⟨w.heap.size, _, none⟩) l).trans q.rz.z8, (bw.frozen (p := ⟨w.heap.size, _, none⟩) l).trans q.rz.z9, (bw.frozen (p := ⟨w.heap.size, _, none⟩) l).trans q.rz.z10, (bw.frozen (p := ⟨w.heap.size, _, none⟩) l).trans q.rz.z11⟩
  · exact ⟨(bw.frozen (p := ⟨h, _, none⟩) h1).trans q.kz.z0, (bw.frozen (p := ⟨h, _, none⟩) h1).trans q.kz.z1, (bw.frozen (p := ⟨h, _, none⟩) h1).trans q.kz.z2, (bw.frozen (p := ⟨h, _, none⟩) h1).trans q.kz.z3, (bw.frozen (p := ⟨h, _, none⟩) h1).trans q.kz.z4, (bw.frozen (p := ⟨h, _, none⟩) h1).trans q.kz.z5, (bw.frozen (p := ⟨h, _, none⟩) h1).trans q.kz.z6, (bw.frozen (p := ⟨h, _, none⟩) h1).trans q.kz.z7, (bw.frozen (p := ⟨h, _, none⟩) h1).trans q.kz.z8, (bw.frozen (p := ⟨h, _, none⟩) h1).trans q.kz.z9, (bw.frozen (p := ⟨h, _, none⟩) h1).trans q.kz.z10, (bw.frozen (p := ⟨h, _, none⟩) h1).trans q.kz.z11⟩
end Go.Proofs.YtjnekdihmchlpaaGreatDoor
