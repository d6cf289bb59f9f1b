/- Joined: LnB. -/
import Derived.Test.YtlonjjliochbhaaKE1BkDoS
import Derived.Test.YtlonjjliochbhaaKE1BkNumW
import Derived.Test.YtlonjjliochbhaaJE10a
/- What stands while a line is drawn for a book. -/
namespace Go.Proofs.Ytlonjjliochbhaa
open Go.RowKit
set_option maxRecDepth 100000

theorem padT_18 (x n : Int) : (padT x n).length ≤ 18 := by
  rcases padT_cases x n with h | ⟨a, m, _, _, h1, h2, h3, h⟩
  · rw [h]; simp
  · rw [h, padN_len h1 h3]; omega
structure LS (B g : Nat) (w : World) (b : Bk) (p : Bp) (u : World) : Prop where
  z0 : u.cell? ⟨w.heap.size, 0, none⟩ = some (.int .i64 b.today)
  z2 : u.cell? ⟨w.heap.size, 2, none⟩ = some (.slice p.a b.az.length p.ac)
  z3 : u.cell? ⟨w.heap.size, 3, none⟩ = some (.slice p.c b.cs.length p.cc)
  cu : Cursor B u g
  gr : w.grownBy u (some g)
  az : AuthsAt u p.a b.az
  cs : CasesAt u p.c b.cs
  lt : g < w.heap.size
  oa : Off1 p.a g
  oc : Off1 p.c g
theorem LS.call {B g : Nat} {w : World} {b : Bk} {p : Bp} {u u' : World} (q : LS B g w b p u) (c : Cursor B u' g) (r : u.grownBy u' (some g)) : LS B g w b p u' := by
  have hl := q.lt
  refine ⟨r.cell (a := ⟨w.heap.size, 0, none⟩) q.z0 (by simp; omega), r.cell (a := ⟨w.heap.size, 2, none⟩) q.z2 (by simp; omega), r.cell (a := ⟨w.heap.size, 3, none⟩) q.z3 (by simp; omega), c, q.gr.trans r, q.az.far r (fun B' e => by cases e; exact q.oa), q.cs.far r (fun B' e => by cases e; exact q.oc), q.lt, q.oa, q.oc⟩
theorem grown_ofL {w w' : World} (h : Below w.heap.size w w') (r : Option Nat) : w.grownBy w' r := ⟨h.os, h.tape, h.output, h.size, fun k hk _ => h.block k hk⟩
theorem LS.below {B g : Nat} {w : World} {b : Bk} {p : Bp} {u u' : World} (q : LS B g w b p u) (h : Below u.heap.size u u') : LS B g w b p u' := q.call (cursor_below q.cu h) (grown_ofL h _)
theorem LS.alloc {B g : Nat} {w : World} {b : Bk} {p : Bp} {u : World} (q : LS B g w b p u) (o : Obj) : LS B g w b p (u.alloc o) := q.below ((Below.refl _ _).alloc (Nat.le_refl _) _)
theorem LS.drew {B g : Nat} {w : World} {b : Bk} {p : Bp} {u : World} (q : LS B g w b p u) : LS B g w b p u.drew := q.below ((Below.refl _ _).drew)
theorem LS.new {B g : Nat} {w : World} {b : Bk} {p : Bp} (hc : Cursor B w g) (hx : BookAt w b p) (ho : OffB p g) (t : TypeId) :
    LS B g w b p (w.alloc (.cells #[.int .i64 b.today, .slice p.o b.off.length p.oc, .slice p.a b.az.length p.ac, .slice p.c b.cs.length p.cc, .slice p.l b.ls.length p.lc, .slice p.g b.log.length p.gc] t)) := by
  have z := Z6.new w (.int .i64 b.today) (.slice p.o b.off.length p.oc) (.slice p.a b.az.length p.ac) (.slice p.c b.cs.length p.cc) (.slice p.l b.ls.length p.lc) (.slice p.g b.log.length p.gc) t
  have bA : Below w.heap.size w (w.alloc (.cells #[.int .i64 b.today, .slice p.o b.off.length p.oc, .slice p.a b.az.length p.ac, .slice p.c b.cs.length p.cc, .slice p.l b.ls.length p.lc, .slice p.g b.log.length p.gc] t)) := (Below.refl _ _).alloc (Nat.le_refl _) _
  have hb := cursor_bd hc
  exact ⟨z.c0, z.c2, z.c3, cursor_alloc hc _, grown_ofL bA _, hx.az.below bA, hx.cs.below bA, by omega, ho.a, ho.c⟩
theorem qBelow {B g : Nat} {w : World} {b : Bk} {p : Bp} {u : World} (q : LS B g w b p u) (n : Int) (hn : n ≤ 1099511627776) :
    Calls Try.prog 16 #[.pointer (some ⟨g, 0, none⟩), .int .i64 n] u fun e u' => ∃ x : Int, e = .returned (.int .i64 x) ∧ 0 ≤ x ∧ (1 ≤ n → x < n) ∧ LS B g w b p u' :=
  (below_any g n u q.cu hn).mono (by rintro e u' ⟨x, h1, h2, h3, c, r⟩; exact ⟨x, h1, h2, h3, q.call c r⟩)
theorem qOnce {B g : Nat} {w : World} {b : Bk} {p : Bp} {u : World} (q : LS B g w b p u) (n : Int) (hn : n ≤ 1099511627776) :
    Calls Try.prog 30 #[.pointer (some ⟨g, 0, none⟩), .int .i64 n] u fun e u' => ∃ x : Bool, e = .returned (.bool x) ∧ LS B g w b p u' :=
  (once_any g n u q.cu hn).mono (by rintro e u' ⟨x, h1, c, r⟩; exact ⟨x, h1, q.call c r⟩)
theorem qPad {B g : Nat} {w : World} {b : Bk} {p : Bp} {u : World} (q : LS B g w b p u) (x n : Int) :
    Calls Try.prog 29 #[.int .i64 x, .int .i64 n] u fun e u' => ∃ l : List UInt8, e = .returned (.string ⟨l.toArray⟩) ∧ l.length ≤ 18 ∧ LS B g w b p u' :=
  (sPadNum_any x n u).mono (by rintro e u' ⟨h, c⟩; exact ⟨_, h, padT_18 x n, q.below c⟩)
theorem qPick2 {B g : Nat} {w : World} {b : Bk} {p : Bp} {u : World} (q : LS B g w b p u) :
    Calls Try.prog 10 #[.pointer (some ⟨g, 0, none⟩), .slice (some ⟨u.heap.size, 0, none⟩) 2 2] (u.alloc (.cells #[.int .i64 840, .int .i64 978] 3)) fun e u' => ∃ x : Int, e = .returned (.int .i64 x) ∧ LS B g w b p u' :=
  (pickInt_any g u.heap.size 2 [840, 978] (u.alloc (.cells #[.int .i64 840, .int .i64 978] 3)) (cursor_alloc q.cu _) (cursor_ne q.cu) (lit_cells u [840, 978] #[.int .i64 840, .int .i64 978] rfl) (by decide) (by decide)).mono (by rintro e u' ⟨x, h1, -, c, r⟩; exact ⟨x, h1, (q.alloc _).call c r⟩)
theorem ba_cat (a b : ByteArray) : (a ++ b).size = a.size + b.size := by simp
/-- a line that is drawn -/
def LnR (B g : Nat) (w : World) (e : Ending) (u : World) : Prop :=
  ∃ l : List UInt8, e = .returned (.string ⟨l.toArray⟩) ∧ l.length ≤ 400 ∧ Cursor B u g ∧ w.grownBy u (some g)
theorem ln_end {B g : Nat} {w : World} {b : Bk} {p : Bp} {u : World} {s : ByteArray} (q : LS B g w b p u) (h : s.size ≤ 400) : LnR B g w (.returned (.string s)) u :=
  ⟨s.data.toList, by cases s; simp, by cases s; simpa [ByteArray.size] using h, q.cu, q.gr⟩

end Go.Proofs.Ytlonjjliochbhaa
