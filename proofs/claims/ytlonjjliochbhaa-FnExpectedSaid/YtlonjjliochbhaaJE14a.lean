/- Joined: BkFar, BkFns, SDo5, PAllP. -/
import Derived.Test.YtlonjjliochbhaaKE1BkCopyS
import Derived.Test.YtlonjjliochbhaaKE1BkNumW
import Derived.Test.YtlonjjliochbhaaJE10a
import Derived.Test.YtlonjjliochbhaaKE1SDo2
import Derived.Test.YtlonjjliochbhaaJE10b
import Derived.Test.YtlonjjliochbhaaKE1SPost2
import Derived.WalkKit
/- Books that stand while a cell of another block is written. -/
namespace Go.Proofs.Ytlonjjliochbhaa
open Go.RowKit
set_option maxRecDepth 100000

/-- no list lies in block B -/
def Off1 (a : Option Addr) (B : Nat) : Prop := ∀ x, a = some x → x.block ≠ B
theorem set_grown (u : World) (B i : Nat) (x : Value) : u.grownBy (u.setCell ⟨B, i, none⟩ x) (some B) := ⟨rfl, rfl, rfl, by simp, fun j _ hj => Below.heap_setCell _ _ _ _ (fun e => hj (by rw [e]))⟩
theorem off_row {b off : Nat} {a : Option Addr} {row : Option Nat} (ha : a = some ⟨b, off, none⟩) (h : ∀ B, row = some B → Off1 a B) : some b ≠ row := fun e => h b e.symm _ ha rfl
theorem IntsAt.far {u u' : World} {a : Option Addr} {zs : List Int} {row : Option Nat} (h : IntsAt u a zs) (g : u.grownBy u' row) (hne : ∀ B, row = some B → Off1 a B) : IntsAt u' a zs := by
  rcases h with h | ⟨b, off, h1, h2, h3⟩
  · exact .inl h
  · exact .inr ⟨b, off, h1, Nat.lt_of_lt_of_le h2 g.size, fun i hi => (g.cell_far ⟨b, off + i, none⟩ h2 (off_row h1 hne)).trans (h3 i hi)⟩
theorem TxtsAt.far {u u' : World} {a : Option Addr} {rs : Recs} {row : Option Nat} (h : TxtsAt u a rs) (g : u.grownBy u' row) (hne : ∀ B, row = some B → Off1 a B) : TxtsAt u' a rs := by
  rcases h with h | ⟨b, off, h1, h2, h3⟩
  · exact .inl h
  · exact .inr ⟨b, off, h1, Nat.lt_of_lt_of_le h2 g.size, fun i hi => (g.cell_far ⟨b, off + i, none⟩ h2 (off_row h1 hne)).trans (h3 i hi)⟩
theorem AuthsAt.far {u u' : World} {a : Option Addr} {az : List Au} {row : Option Nat} (h : AuthsAt u a az) (g : u.grownBy u' row) (hne : ∀ B, row = some B → Off1 a B) : AuthsAt u' a az := by
  rcases h with h | ⟨b, off, h1, h2, h3⟩
  · exact .inl h
  · have hs := off_row h1 hne
    exact .inr ⟨b, off, h1, Nat.lt_of_lt_of_le h2 g.size, fun i hi => ⟨(g.cell_far ⟨b, off + i * 6, none⟩ h2 hs).trans (h3 i hi).1, (g.cell_far ⟨b, off + i * 6 + 1, none⟩ h2 hs).trans (h3 i hi).2.1, (g.cell_far ⟨b, off + i * 6 + 2, none⟩ h2 hs).trans (h3 i hi).2.2.1, (g.cell_far ⟨b, off + i * 6 + 3, none⟩ h2 hs).trans (h3 i hi).2.2.2.1, (g.cell_far ⟨b, off + i * 6 + 4, none⟩ h2 hs).trans (h3 i hi).2.2.2.2.1, (g.cell_far ⟨b, off + i * 6 + 5, none⟩ h2 hs).trans (h3 i hi).2.2.2.2.2⟩⟩
theorem CasesAt.far {u u' : World} {a : Option Addr} {cs : List Cs} {row : Option Nat} (h : CasesAt u a cs) (g : u.grownBy u' row) (hne : ∀ B, row = some B → Off1 a B) : CasesAt u' a cs := by
  rcases h with h | ⟨b, off, h1, h2, h3⟩
  · exact .inl h
  · exact .inr ⟨b, off, h1, Nat.lt_of_lt_of_le h2 g.size, fun i hi => (h3 i hi).grown g (off_row h1 hne)⟩
theorem LinesAt.far {u u' : World} {a : Option Addr} {ls : List Ln} {row : Option Nat} (h : LinesAt u a ls) (g : u.grownBy u' row) (hne : ∀ B, row = some B → Off1 a B) : LinesAt u' a ls := by
  rcases h with h | ⟨b, off, h1, h2, h3⟩
  · exact .inl h
  · have hs := off_row h1 hne
    exact .inr ⟨b, off, h1, Nat.lt_of_lt_of_le h2 g.size, fun i hi => ⟨(g.cell_far ⟨b, off + i * 3, none⟩ h2 hs).trans (h3 i hi).1, (g.cell_far ⟨b, off + i * 3 + 1, none⟩ h2 hs).trans (h3 i hi).2.1, (g.cell_far ⟨b, off + i * 3 + 2, none⟩ h2 hs).trans (h3 i hi).2.2⟩⟩
/-- no list of the book lies in block B -/
structure OffB (q : Bp) (B : Nat) : Prop where
  o : Off1 q.o B
  a : Off1 q.a B
  c : Off1 q.c B
  l : Off1 q.l B
  g : Off1 q.g B
theorem BookAt.set {u : World} {b : Bk} {q : Bp} {B i : Nat} {x : Value} (h : BookAt u b q) (n : OffB q B) : BookAt (u.setCell ⟨B, i, none⟩ x) b q :=
  ⟨h.off.far (set_grown u B i x) (fun B' e => by cases e; exact n.o), h.az.far (set_grown u B i x) (fun B' e => by cases e; exact n.a), h.cs.far (set_grown u B i x) (fun B' e => by cases e; exact n.c), h.ls.far (set_grown u B i x) (fun B' e => by cases e; exact n.l), h.log.far (set_grown u B i x) (fun B' e => by cases e; exact n.g)⟩
theorem BookAt.put6 {u : World} {b : Bk} {q : Bp} {B : Nat} (h : BookAt u b q) (n : OffB q B) (x0 x1 x2 x3 x4 x5 : Value) :
    BookAt ((((((u.setCell ⟨B, 0, none⟩ x0).setCell ⟨B, 1, none⟩ x1).setCell ⟨B, 2, none⟩ x2).setCell ⟨B, 3, none⟩ x3).setCell ⟨B, 4, none⟩ x4).setCell ⟨B, 5, none⟩ x5) b q :=
  (((((h.set n).set n).set n).set n).set n).set n
theorem fresh_off {a : Option Addr} {n B : Nat} (h : Fresh a n) (hB : B < n) : Off1 a B := fun x hx e => by have := h x hx; omega
theorem ahead_off {a : Option Addr} {n B : Nat} (h : Ahead a n) (hB : n ≤ B) : Off1 a B := fun x hx e => by have := h x hx; omega
/-- all lists of a book lie ahead of a place -/
structure AhB (p : Bp) (n : Nat) : Prop where
  o : Ahead p.o n
  a : Ahead p.a n
  c : Ahead p.c n
  l : Ahead p.l n
  g : Ahead p.g n
theorem Ahead.mono {a : Option Addr} {n m : Nat} (h : Ahead a n) (hm : n ≤ m) : Ahead a m := fun x hx => by have := h x hx; omega
theorem same_off {a a1 : Option Addr} {n m B : Nat} (h : a = a1 ∨ Fresh a m) (h1 : Ahead a1 n) (hb : n ≤ B) (hB : B < m) : Off1 a B := by
  rcases h with rfl | h
  · exact ahead_off h1 hb
  · exact fresh_off h hB
theorem offB_of {p q : Bp} {n m B : Nat} (h : AhB p n) (hg : q.g = p.g) (hp : q.o = p.o ∧ (q.a = p.a ∨ Fresh q.a m) ∧ (q.c = p.c ∨ Fresh q.c m) ∧ (q.l = p.l ∨ Fresh q.l m)) (hb : n ≤ B) (hB : B < m) : OffB q B :=
  ⟨same_off (m := m) (.inl hp.1) h.o hb hB, same_off hp.2.1 h.a hb hB, same_off hp.2.2.1 h.c hb hB, same_off hp.2.2.2 h.l hb hB, same_off (m := m) (.inl hg) h.g hb hB⟩
theorem Z6.put6 {B : Nat} {v0 v1 v2 v3 v4 v5 : Value} {u : World} (h : Z6 B v0 v1 v2 v3 v4 v5 u) (x0 x1 x2 x3 x4 x5 : Value) :
    Z6 B x0 x1 x2 x3 x4 x5 ((((((u.setCell ⟨B, 0, none⟩ x0).setCell ⟨B, 1, none⟩ x1).setCell ⟨B, 2, none⟩ x2).setCell ⟨B, 3, none⟩ x3).setCell ⟨B, 4, none⟩ x4).setCell ⟨B, 5, none⟩ x5) :=
  (((((h.set0 x0).set1 x1).set2 x2).set3 x3).set4 x4).set5 x5
theorem Z6.far6 {B B' : Nat} {v0 v1 v2 v3 v4 v5 : Value} {u : World} (h : Z6 B v0 v1 v2 v3 v4 v5 u) (hne : B' ≠ B) (x0 x1 x2 x3 x4 x5 : Value) :
    Z6 B v0 v1 v2 v3 v4 v5 ((((((u.setCell ⟨B', 0, none⟩ x0).setCell ⟨B', 1, none⟩ x1).setCell ⟨B', 2, none⟩ x2).setCell ⟨B', 3, none⟩ x3).setCell ⟨B', 4, none⟩ x4).setCell ⟨B', 5, none⟩ x5) :=
  (((((h.far hne).far hne).far hne).far hne).far hne).far hne

end Go.Proofs.Ytlonjjliochbhaa

/- What a line does to a book hangs on the chapters ahead: their functions as they are, and what is known of the specification's calls of them. -/
namespace Go.Proofs.Ytlonjjliochbhaa
open Go.RowKit
set_option maxRecDepth 100000

structure Fns where
  prune : List Au → Int → List Au
  use : List Au → Int → List Au
  useOk : List Au → Int → Bool
  add : List Au → Au → List Au
  addOk : List Au → Au → Bool
  best : List Au → Int → Int → Int → Int → Int → Prop
  stC : Int → Int → Int → Int → Int → Cs
  stE : Int → Int → Int → Int → Int → List En
  stOk : Int → Int → Int → Int → Int → Bool
  doC : Cs → Ac → Int → List Int → Cs
  doE : Cs → Ac → Int → List Int → List En
  doV : Cs → Ac → Int → List Int → Int
  all : List Ln → List En → List Ln
  allOk : List Ln → List En → Bool
structure Known (F : Fns) : Prop where
  prune : ∀ (ao : Option Addr) (cap : Nat) (az : List Au) (t : Int) (w : World), AuthsAt w ao az → az.length ≤ 1048576 → Calls Try.prog 47 #[.slice ao az.length cap, .int .i64 t] w (AuR1 w (F.prune az t))
  use : ∀ (ao : Option Addr) (cap : Nat) (az : List Au) (i : Int) (w : World), AuthsAt w ao az → az.length ≤ 1048576 → Calls Try.prog 52 #[.slice ao az.length cap, .int .i64 i] w (AuR2 w (F.use az i) (F.useOk az i))
  add : ∀ (ao : Option Addr) (cap : Nat) (az : List Au) (a : Au) (w : World), AuthsAt w ao az → az.length ≤ 1048576 → a.ref.length ≤ 1048576 → Calls Try.prog 40 #[.slice ao az.length cap, auv a] w (AuR2 w (F.add az a) (F.addOk az a))
  best : ∀ (ao : Option Addr) (cap : Nat) (az : List Au) (iss cur am day : Int) (w : World), AuthsAt w ao az → az.length ≤ 1048576 → (∀ a ∈ az, a.ref.length ≤ 1048576) → (Lit.int .i64 am).wf = true → (Lit.int .i64 day).wf = true →
    Calls Try.prog 49 #[.slice ao az.length cap, .int .i64 iss, .int .i64 cur, .int .i64 am, .int .i64 day] w fun e w' => ∃ x, e = .returned (.int .i64 x) ∧ F.best az iss cur am day x ∧ Below w.heap.size w w'
  start : ∀ (iss acq cur am day : Int) (w : World), Calls Try.prog 50 #[.int .i64 iss, .int .i64 acq, .int .i64 cur, .int .i64 am, .int .i64 day] w fun e w' => ∃ ao cap, e = .returned (.tuple #[cv (F.stC iss acq cur am day), .slice ao (F.stE iss acq cur am day).length cap, .bool (F.stOk iss acq cur am day)]) ∧ w'.ownsRow w.heap.size 99 4 (.slice ao (F.stE iss acq cur am day).length cap) (F.stE iss acq cur am day).length (ecells (F.stE iss acq cur am day)) ∧ Below w.heap.size w w'
  small : ∀ iss acq cur am day, (F.stE iss acq cur am day).length ≤ 1048576
  act : ∀ (c : Cs) (a : Ac) (t : Int) (ao : Option Addr) (cp : Nat) (zs : List Int) (w : World), IntsAt w ao zs → zs.length ≤ 1048576 → Calls Try.prog 53 #[cv c, av a, .int .i64 t, .slice ao zs.length cp] w fun e w' => ∃ ao cap, e = .returned (.tuple #[cv (F.doC c a t zs), .slice ao (F.doE c a t zs).length cap, .int .i64 (F.doV c a t zs)]) ∧ w'.ownsRow w.heap.size 99 4 (.slice ao (F.doE c a t zs).length cap) (F.doE c a t zs).length (ecells (F.doE c a t zs)) ∧ Below w.heap.size w w'
  few : ∀ c a t zs, (F.doE c a t zs).length ≤ 1048576
  code : ∀ c a t zs, 0 ≤ F.doV c a t zs ∧ F.doV c a t zs ≤ 1000
  post : ∀ (ao : Option Addr) (cap : Nat) (ls : List Ln) (eo : Option Addr) (ec : Nat) (es : List En) (w : World), LinesAt w ao ls → ls.length ≤ 1048576 → EntsAt w eo es → es.length ≤ 1048576 →
    Calls Try.prog 51 #[.agg #[.slice ao ls.length cap], .slice eo es.length ec] w fun e w' => ∃ ao cap, e = .returned (.tuple #[.agg #[.slice ao (F.all ls es).length cap], .bool (F.allOk ls es)]) ∧ w'.ownsRow w.heap.size 115 3 (.slice ao (F.all ls es).length cap) (F.all ls es).length (lcells (F.all ls es)) ∧ Below w.heap.size w w'
/-- the answer of a step: a book, whose log is the one that came in, and a code -/
def BdR (w : World) (p : Bp) (b' : Bk) (code : Int) (e : Ending) (w' : World) : Prop :=
  ∃ q, e = .returned (.tuple #[bkv b' q, .int .i64 code]) ∧ BookAt w' b' q ∧ q.g = p.g ∧ q.gc = p.gc ∧ (q.o = p.o ∧ (q.a = p.a ∨ Fresh q.a w.heap.size) ∧ (q.c = p.c ∨ Fresh q.c w.heap.size) ∧ (q.l = p.l ∨ Fresh q.l w.heap.size)) ∧ Below w.heap.size w w'
/-- the box into which a step's answer is written lies apart -/
theorem put6_below {w u : World} {R : Nat} (hR : w.heap.size ≤ R) (h : Below w.heap.size w u) (x0 x1 x2 x3 x4 x5 : Value) :
    Below w.heap.size w ((((((u.setCell ⟨R, 0, none⟩ x0).setCell ⟨R, 1, none⟩ x1).setCell ⟨R, 2, none⟩ x2).setCell ⟨R, 3, none⟩ x3).setCell ⟨R, 4, none⟩ x4).setCell ⟨R, 5, none⟩ x5) :=
  (((((h.setCell (p := ⟨R, 0, none⟩) hR _).setCell (p := ⟨R, 1, none⟩) hR _).setCell (p := ⟨R, 2, none⟩) hR _).setCell (p := ⟨R, 3, none⟩) hR _).setCell (p := ⟨R, 4, none⟩) hR _).setCell (p := ⟨R, 5, none⟩) hR _
theorem put6_row {u : World} {base n size R : Nat} {t : TypeId} {v : Value} {xs : List Value} (o : u.ownsRow base t size v n xs) (hB : R < base) (x0 x1 x2 x3 x4 x5 : Value) :
    ((((((u.setCell ⟨R, 0, none⟩ x0).setCell ⟨R, 1, none⟩ x1).setCell ⟨R, 2, none⟩ x2).setCell ⟨R, 3, none⟩ x3).setCell ⟨R, 4, none⟩ x4).setCell ⟨R, 5, none⟩ x5).ownsRow base t size v n xs :=
  row_far (row_far (row_far (row_far (row_far (row_far o hB) hB) hB) hB) hB) hB

theorem row_put12 {u : World} {base n size X : Nat} {t : TypeId} {v : Value} {xs : List Value} (c : Cs) (o : u.ownsRow base t size v n xs) (hB : X < base) : (put12 u X c).ownsRow base t size v n xs :=
  row_far (row_far (row_far (row_far (row_far (row_far (row_far (row_far (row_far (row_far (row_far (row_far o hB) hB) hB) hB) hB) hB) hB) hB) hB) hB) hB) hB
theorem box_kept {u u2 : World} {t : TypeId} (bb : Below (u.alloc (.cells #[.int .i64 0, .int .i64 0, .int .i64 0, .int .i64 0, .int .i64 0, .int .i64 0, .int .i64 0, .int .i64 0, .int .i64 0, .bool false, .int .i64 0, .int .i64 0] t)).drew.heap.size (u.alloc (.cells #[.int .i64 0, .int .i64 0, .int .i64 0, .int .i64 0, .int .i64 0, .int .i64 0, .int .i64 0, .int .i64 0, .int .i64 0, .bool false, .int .i64 0, .int .i64 0] t)).drew u2) :
    CB u.heap.size 0 ⟨0, 0, 0, 0, 0, 0, 0, 0, 0, false, 0, 0⟩ u2 ∧ FZ u.heap.size 0 u2 ∧ Below (u.heap.size + 1) (u.alloc (.cells #[.int .i64 0, .int .i64 0, .int .i64 0, .int .i64 0, .int .i64 0, .int .i64 0, .int .i64 0, .int .i64 0, .int .i64 0, .bool false, .int .i64 0, .int .i64 0] t)) u2 := by
  have h1 := (CB.new u ⟨0, 0, 0, 0, 0, 0, 0, 0, 0, false, 0, 0⟩ t).below ((Below.refl _ _).drew)
  have h2 := (FZ.new u #[.int .i64 0, .int .i64 0, .int .i64 0, .int .i64 0, .int .i64 0, .int .i64 0, .int .i64 0, .int .i64 0, .int .i64 0, .bool false, .int .i64 0, .int .i64 0] t).below (by simp) ((Below.refl _ _).drew)
  refine ⟨h1.below bb, h2.below (by simp) bb, ?_⟩
  exact ((Below.refl (u.heap.size + 1) _).drew).trans (bb.mono (by simp))

end Go.Proofs.Ytlonjjliochbhaa

/- The contract of the specification's l09Expire. -/
namespace Go.Proofs.Ytlonjjliochbhaa
open Go.RowKit
set_option maxRecDepth 100000

set_option maxHeartbeats 6400000 in
theorem sExpire_any (c : Cs) (w : World) (hb : 0 ≤ c.bk ∧ c.bk ≤ 1000000000000) (hc : 0 ≤ c.cl ∧ c.cl ≤ 1000000000000) (hf : 0 ≤ c.fee ∧ c.fee ≤ 1000000) : Calls Try.prog 66 #[cv c] w (PairR w (expireC c) (expireE c)) := by
  have HG : Hid (∀ u, Calls Try.prog 64 #[cv c, .int .i64 c.cl] u (PairR u (endC c c.cl) (toIss c c.cl))) := fun u => sEnd_any c c.cl u hb hc
  have HG0 : Hid (∀ u, Calls Try.prog 64 #[cv c, .int .i64 0] u (PairR u (endC c 0) (toIss c 0))) := fun u => sEnd_any c 0 u hb (by omega)
  have HR : Hid (∀ u, Calls Try.prog 65 #[cv c, .int .i64 (c.cl / 2)] u (PairR u (ruleC c (c.cl / 2)) (ruleE c (c.cl / 2)))) := fun u => sRule_any c (c.cl / 2) u hb (by omega) hf
  have HT : Hid (c.cl.tdiv 2 = c.cl / 2) := Int.tdiv_eq_ediv_of_nonneg hc.1
  obtain ⟨W, hW⟩ : ∃ W, W = (w.alloc (.cells #[.int .i64 c.iss, .int .i64 c.acq, .int .i64 c.cur, .int .i64 c.am, .int .i64 c.st, .int .i64 c.rsn, .int .i64 c.cl, .int .i64 c.bk, .int .i64 c.fee, .bool c.cop, .int .i64 c.sta, .int .i64 c.due] 37)).alloc (.cells #[.int .i64 0, .int .i64 0, .int .i64 0, .int .i64 0, .int .i64 0, .int .i64 0, .int .i64 0, .int .i64 0, .int .i64 0, .bool false, .int .i64 0, .int .i64 0] 37) := ⟨_, rfl⟩
  have b1 : Below (w.alloc (.cells #[.int .i64 c.iss, .int .i64 c.acq, .int .i64 c.cur, .int .i64 c.am, .int .i64 c.st, .int .i64 c.rsn, .int .i64 c.cl, .int .i64 c.bk, .int .i64 c.fee, .bool c.cop, .int .i64 c.sta, .int .i64 c.due] 37)).heap.size (w.alloc (.cells #[.int .i64 c.iss, .int .i64 c.acq, .int .i64 c.cur, .int .i64 c.am, .int .i64 c.st, .int .i64 c.rsn, .int .i64 c.cl, .int .i64 c.bk, .int .i64 c.fee, .bool c.cop, .int .i64 c.sta, .int .i64 c.due] 37)) W := by rw [hW]; exact (Below.refl _ _).alloc (Nat.le_refl _) _
  have e1 : (w.alloc (.cells #[.int .i64 c.iss, .int .i64 c.acq, .int .i64 c.cur, .int .i64 c.am, .int .i64 c.st, .int .i64 c.rsn, .int .i64 c.cl, .int .i64 c.bk, .int .i64 c.fee, .bool c.cop, .int .i64 c.sta, .int .i64 c.due] 37)).heap.size = w.heap.size + 1 := by simp
  have HC1 : Hid (CB w.heap.size 0 c W) := (CB.new w c _).below b1
  have HC2 : Hid (CB (w.heap.size + 1) 0 zeroC W) := by
    have h := CB.new (w.alloc (.cells #[.int .i64 c.iss, .int .i64 c.acq, .int .i64 c.cur, .int .i64 c.am, .int .i64 c.st, .int .i64 c.rsn, .int .i64 c.cl, .int .i64 c.bk, .int .i64 c.fee, .bool c.cop, .int .i64 c.sta, .int .i64 c.due] 37)) zeroC 37
    rw [e1] at h
    rw [Hid, hW]; exact h
  have HF2 : Hid (FZ (w.heap.size + 1) 0 W) := by
    have h := FZ.new (w.alloc (.cells #[.int .i64 c.iss, .int .i64 c.acq, .int .i64 c.cur, .int .i64 c.am, .int .i64 c.st, .int .i64 c.rsn, .int .i64 c.cl, .int .i64 c.bk, .int .i64 c.fee, .bool c.cop, .int .i64 c.sta, .int .i64 c.due] 37)) #[.int .i64 0, .int .i64 0, .int .i64 0, .int .i64 0, .int .i64 0, .int .i64 0, .int .i64 0, .int .i64 0, .int .i64 0, .bool false, .int .i64 0, .int .i64 0] 37
    rw [e1] at h
    rw [Hid, hW]; exact h
  have HBW : Hid (Below w.heap.size w W) := by rw [Hid, hW]; go_grown
  have HW : Hid _ := hW
  have HS : Hid (W.heap.size = w.heap.size + 1 + 1) := by rw [Hid, hW]; simp
  clear b1 e1 hW hb hf
  obtain ⟨ex, hex⟩ : ∃ x, expireC c = x := ⟨_, rfl⟩
  obtain ⟨ee, hee⟩ : ∃ x, expireE c = x := ⟨_, rfl⟩
  have HX0 : Hid _ := hex
  have HE0 : Hid _ := hee
  rw [hex, hee]
  clear hex hee
  obtain ⟨iss, acq, cur, am, st, rsn, cl, bk, fee, cop, sta, due⟩ := c
  unfold PairR cv at HG HG0 HR
  unfold cv
  unfold endC at HG HG0
  unfold ruleC at HR
  simp only at HG HG0 HR HT HW hc ⊢
  by_cases h1 : st = 1
  · have HX : Hid (ex = givenC ⟨iss, acq, cur, am, st, rsn, cl, bk, fee, cop, sta, due⟩) := by rw [Hid, ← HX0.out]; simp [expireC, h1]
    have HE : Hid (ee = []) := by rw [Hid, ← HE0.out]; simp [expireE, h1]
    subst h1
    clear HG HG0 HR HT HX0 HE0 HC1 HC2 HF2 HBW HS HW W
    go_enter Try.func66, Try.ntmps66
    go_wp2
    go_returns
    rw [HX.out, HE.out]
    exact ⟨_, _, rfl, own_none' _ _ _ (by simp) (by simp <;> omega), by go_grown⟩
  have h1' := beq_no h1
  by_cases h5 : st = 5
  · have HX : Hid (ex = endC ⟨iss, acq, cur, am, st, rsn, cl, bk, fee, cop, sta, due⟩ cl) := by rw [Hid, ← HX0.out]; simp [expireC, h5]
    have HE : Hid (ee = toIss ⟨iss, acq, cur, am, st, rsn, cl, bk, fee, cop, sta, due⟩ cl) := by rw [Hid, ← HE0.out]; simp [expireE, h5]
    subst h5
    clear HG0 HR HT HX0 HE0 h1
    go_enter Try.func66, Try.ntmps66
    go_upto_region 1 with fail
    rw [← HW.out]
    clear HW
    obtain ⟨f0, f1, f2, f3, f4, f5, f6, f7, f8, f9, f10, f11⟩ := HC1.out
    simp only [Nat.zero_add] at f0 f1 f2 f3 f4 f5 f6 f7 f8 f9 f10 f11
    go_wp2_with fail
    refine (HG.out _).mono ?_
    rintro e u ⟨ae, ke, rfl, oe, b⟩
    have HO : Hid (u.ownsRow W.heap.size 99 4 (.slice ae (toIss ⟨iss, acq, cur, am, 5, rsn, cl, bk, fee, cop, sta, due⟩ cl).length ke) (toIss ⟨iss, acq, cur, am, 5, rsn, cl, bk, fee, cop, sta, due⟩ cl).length (ecells (toIss ⟨iss, acq, cur, am, 5, rsn, cl, bk, fee, cop, sta, due⟩ cl))) := oe
    have HB : Hid (Below w.heap.size w u) := next HBW.out b
    have HU2 : Hid (CB (w.heap.size + 1) 0 zeroC u) := HC2.out.below b
    have HV2 : Hid (FZ (w.heap.size + 1) 0 u) := HF2.out.below HC2.out.lt b
    clear b oe f0 f1 f2 f3 f4 f5 f6 f7 f8 f9 f10 f11
    obtain ⟨g0, g1, g2, g3, g4, g5, g6, g7, g8, g9, g10, g11⟩ := HU2.out
    obtain ⟨z0, z1, z2, z3, z4, z5, z6, z7, z8, z9, z10, z11⟩ := HV2.out
    simp only [Nat.zero_add, zeroC] at g0 g1 g2 g3 g4 g5 g6 g7 g8 g9 g10 g11 z0 z1 z2 z3 z4 z5 z6 z7 z8 z9 z10 z11
    obtain ⟨N, hN⟩ : ∃ N, (toIss ⟨iss, acq, cur, am, 5, rsn, cl, bk, fee, cop, sta, due⟩ cl).length = N := ⟨_, rfl⟩
    have HNN : Hid _ := hN
    rw [hN]
    clear hN
    go_wp2
    refine bodyPost_ret (by simp [results, Try.results66, go_sem, g0, g1, g2, g3, g4, g5, g6, g7, g8, g9, g10, g11]; try rfl) rfl ?_
    rw [HX.out, HE.out, ← HNN.out]
    exact pair_end (c := endC ⟨iss, acq, cur, am, 5, rsn, cl, bk, fee, cop, sta, due⟩ cl) (h := w.heap.size + 1) (base := W.heap.size) (by omega) (by have := HS.out; omega) HO.out HB.out
  have h5' := beq_no h5
  by_cases h6 : st = 6
  · have HX : Hid (ex = ruleC ⟨iss, acq, cur, am, st, rsn, cl, bk, fee, cop, sta, due⟩ (cl / 2)) := by rw [Hid, ← HX0.out]; simp [expireC, h6]
    have HE : Hid (ee = ruleE ⟨iss, acq, cur, am, st, rsn, cl, bk, fee, cop, sta, due⟩ (cl / 2)) := by rw [Hid, ← HE0.out]; simp [expireE, h6]
    subst h6
    clear HG HG0 HX0 HE0 h1 h5
    go_enter Try.func66, Try.ntmps66
    go_upto_region 1 with fail
    rw [← HW.out]
    clear HW
    obtain ⟨f0, f1, f2, f3, f4, f5, f6, f7, f8, f9, f10, f11⟩ := HC1.out
    simp only [Nat.zero_add] at f0 f1 f2 f3 f4 f5 f6 f7 f8 f9 f10 f11
    go_wp2_with fail
    try rw [HT.out]
    refine (HR.out _).mono ?_
    rintro e u ⟨ae, ke, rfl, oe, b⟩
    have HO : Hid (u.ownsRow W.heap.size 99 4 (.slice ae (ruleE ⟨iss, acq, cur, am, 6, rsn, cl, bk, fee, cop, sta, due⟩ (cl / 2)).length ke) (ruleE ⟨iss, acq, cur, am, 6, rsn, cl, bk, fee, cop, sta, due⟩ (cl / 2)).length (ecells (ruleE ⟨iss, acq, cur, am, 6, rsn, cl, bk, fee, cop, sta, due⟩ (cl / 2)))) := oe
    have HB : Hid (Below w.heap.size w u) := next HBW.out b
    have HU2 : Hid (CB (w.heap.size + 1) 0 zeroC u) := HC2.out.below b
    have HV2 : Hid (FZ (w.heap.size + 1) 0 u) := HF2.out.below HC2.out.lt b
    clear b oe f0 f1 f2 f3 f4 f5 f6 f7 f8 f9 f10 f11
    obtain ⟨g0, g1, g2, g3, g4, g5, g6, g7, g8, g9, g10, g11⟩ := HU2.out
    obtain ⟨z0, z1, z2, z3, z4, z5, z6, z7, z8, z9, z10, z11⟩ := HV2.out
    simp only [Nat.zero_add, zeroC] at g0 g1 g2 g3 g4 g5 g6 g7 g8 g9 g10 g11 z0 z1 z2 z3 z4 z5 z6 z7 z8 z9 z10 z11
    obtain ⟨N, hN⟩ : ∃ N, (ruleE ⟨iss, acq, cur, am, 6, rsn, cl, bk, fee, cop, sta, due⟩ (cl / 2)).length = N := ⟨_, rfl⟩
    have HNN : Hid _ := hN
    rw [hN]
    clear hN
    go_wp2
    refine bodyPost_ret (by simp [results, Try.results66, go_sem, g0, g1, g2, g3, g4, g5, g6, g7, g8, g9, g10, g11]; try rfl) rfl ?_
    rw [HX.out, HE.out, ← HNN.out]
    exact pair_end (c := ruleC ⟨iss, acq, cur, am, 6, rsn, cl, bk, fee, cop, sta, due⟩ (cl / 2)) (h := w.heap.size + 1) (base := W.heap.size) (by omega) (by have := HS.out; omega) HO.out HB.out
  have h6' := beq_no h6
  · have HX : Hid (ex = ⟨iss, acq, cur, am, 7, rsn, 0, bk, fee, cop, sta, -1⟩) := by rw [Hid, ← HX0.out]; simp [expireC, h1, h5, h6, endC]
    rw [Int.add_zero] at HG0
    have HE : Hid (ee = toIss ⟨iss, acq, cur, am, st, rsn, cl, bk, fee, cop, sta, due⟩ 0) := by rw [Hid, ← HE0.out]; simp [expireE, h1, h5, h6, toIss]
    clear HG HR HT HX0 HE0 h1 h5 h6
    go_enter Try.func66, Try.ntmps66
    go_upto_region 1 with fail
    rw [← HW.out]
    clear HW
    obtain ⟨f0, f1, f2, f3, f4, f5, f6, f7, f8, f9, f10, f11⟩ := HC1.out
    simp only [Nat.zero_add] at f0 f1 f2 f3 f4 f5 f6 f7 f8 f9 f10 f11
    go_wp2_with fail
    refine (HG0.out _).mono ?_
    rintro e u ⟨ae, ke, rfl, oe, b⟩
    have HO : Hid (u.ownsRow W.heap.size 99 4 (.slice ae (toIss ⟨iss, acq, cur, am, st, rsn, cl, bk, fee, cop, sta, due⟩ 0).length ke) (toIss ⟨iss, acq, cur, am, st, rsn, cl, bk, fee, cop, sta, due⟩ 0).length (ecells (toIss ⟨iss, acq, cur, am, st, rsn, cl, bk, fee, cop, sta, due⟩ 0))) := oe
    have HB : Hid (Below w.heap.size w u) := next HBW.out b
    have HU2 : Hid (CB (w.heap.size + 1) 0 zeroC u) := HC2.out.below b
    have HV2 : Hid (FZ (w.heap.size + 1) 0 u) := HF2.out.below HC2.out.lt b
    clear b oe f0 f1 f2 f3 f4 f5 f6 f7 f8 f9 f10 f11
    obtain ⟨g0, g1, g2, g3, g4, g5, g6, g7, g8, g9, g10, g11⟩ := HU2.out
    obtain ⟨z0, z1, z2, z3, z4, z5, z6, z7, z8, z9, z10, z11⟩ := HV2.out
    simp only [Nat.zero_add, zeroC] at g0 g1 g2 g3 g4 g5 g6 g7 g8 g9 g10 g11 z0 z1 z2 z3 z4 z5 z6 z7 z8 z9 z10 z11
    obtain ⟨N, hN⟩ : ∃ N, (toIss ⟨iss, acq, cur, am, st, rsn, cl, bk, fee, cop, sta, due⟩ 0).length = N := ⟨_, rfl⟩
    have HNN : Hid _ := hN
    rw [hN]
    clear hN
    go_wp2
    refine bodyPost_ret (by simp [results, Try.results66, go_sem, g0, g1, g2, g3, g4, g5, g6, g7, g8, g9, g10, g11]; try rfl) rfl ?_
    rw [HX.out, HE.out, ← HNN.out]
    exact pair_end (c := ⟨iss, acq, cur, am, 7, rsn, 0, bk, fee, cop, sta, -1⟩) (h := w.heap.size + 1) (base := W.heap.size) (by omega) (by have := HS.out; omega) HO.out HB.out


end Go.Proofs.Ytlonjjliochbhaa

/- Entries in a row, plainly, and what lies while they are posted. -/
namespace Go.Proofs.Ytlonjjliochbhaa
open Go.RowKit
set_option maxRecDepth 100000

def allL (ls : List Ln) (es : List En) : List Ln := (postsL ls es).getD ls
def allOk (ls : List Ln) (es : List En) : Bool := (postsL ls es).isSome
theorem posts_step (cur : List Ln) (es : List En) (k : Nat) (h : k < es.length) : postsL cur (es.drop k) = if postOk cur (enAt es k) = true then postsL (postTry cur (enAt es k)) (es.drop (k + 1)) else none := by
  rw [List.drop_eq_getElem_cons h, ← enAt_is h]; rfl
theorem posts_end (cur : List Ln) (es : List En) : postsL cur (es.drop es.length) = some cur := by
  rw [List.drop_of_length_le (Nat.le_refl _)]; rfl
theorem wf_small {x : Int} (h : -1000000000000 ≤ x ∧ x ≤ 1000000000000) : wf64 x := WalkArith.wf_i64 (by omega)
theorem bd_of_ok {ls : List Ln} (h : ledgerOk ls = true) : ∀ x ∈ ls, lnBd x := by
  intro x hx
  obtain ⟨h1, h2, h3, _⟩ := lnOk_is (linesOk_mem (ledgerOk_parts h).1 x hx)
  refine ⟨wf_small (by omega), wf_small ?_, wf_small h3⟩
  have := cur_mem h2
  simp [curL] at this
  omega
theorem posted_ok {ls : List Ln} {e : En} (h : postOk ls e = true) : postL ls e = postTry ls e ∧ ledgerOk (postTry ls e) = true := by
  refine ⟨postL_yes h, ?_⟩
  simp only [postOk, Bool.and_eq_true] at h
  exact h.2

/-- the boxes: the ledger's, the answer's, the running one's -/
structure PA (s B : Nat) (ao : Option Addr) (cap n : Nat) (cur : List Ln) (a2 : Option Addr) (k2 : Nat) (u : World) : Prop where
  l0 : u.cell? ⟨s, 0, none⟩ = some (.slice ao n cap)
  r0 : u.cell? ⟨s + 1, 0, none⟩ = some (.slice none 0 0)
  rf : u.frozen? ⟨s + 1, 0, none⟩ = false
  c6 : u.cell? ⟨B, 0, none⟩ = some (.slice a2 cur.length k2)
  f6 : u.frozen? ⟨B, 0, none⟩ = false
  own : u.ownsRow (s + 2) 115 3 (.slice a2 cur.length k2) cur.length (lcells cur)
  ne : ∀ g, (Value.slice a2 cur.length k2).ownBlock = some g → g ≠ B
  hB : s + 2 ≤ B
theorem PA.below {s B : Nat} {ao : Option Addr} {cap n : Nat} {cur : List Ln} {a2 : Option Addr} {k2 : Nat} {u u' : World} (h : PA s B ao cap n cur a2 k2 u) (b : Below u.heap.size u u') : PA s B ao cap n cur a2 k2 u' := by
  have h0 : s < u.heap.size := World.block_lt_of_cell? u _ h.l0
  have h1 : s + 1 < u.heap.size := World.block_lt_of_cell? u _ h.r0
  have h2 : B < u.heap.size := World.block_lt_of_cell? u _ h.c6
  exact ⟨(b.cell (p := ⟨s, 0, none⟩) h0).trans h.l0, (b.cell (p := ⟨s + 1, 0, none⟩) h1).trans h.r0, (b.frozen (p := ⟨s + 1, 0, none⟩) h1).trans h.rf, (b.cell (p := ⟨B, 0, none⟩) h2).trans h.c6, (b.frozen (p := ⟨B, 0, none⟩) h2).trans h.f6, keepL h.own b, h.ne, h.hB⟩
/-- another ledger is stored into the running box -/
theorem PA.put {s B base : Nat} {ao : Option Addr} {cap n : Nat} {cur nxt : List Ln} {a2 a3 : Option Addr} {k2 k3 : Nat} {u : World} (h : PA s B ao cap n cur a2 k2 u) (o : u.ownsRow base 115 3 (.slice a3 nxt.length k3) nxt.length (lcells nxt)) (hb : B < base) :
    PA s B ao cap n nxt a3 k3 (u.setCell ⟨B, 0, none⟩ (.slice a3 nxt.length k3)) := by
  have hs := h.hB
  have hne : ∀ g, (Value.slice a3 nxt.length k3).ownBlock = some g → g ≠ B := fun g hg => by have := (o.lt g hg).1; omega
  refine ⟨?_, ?_, ?_, by simp [go_sem, h.c6], ?_, lowerL (keepSetL o _ _ hne) (by omega), hne, hs⟩
  · rw [World.cell?_setCell_far _ _ _ _ (by simp; omega)]; exact h.l0
  · rw [World.cell?_setCell_far _ _ _ _ (by simp; omega)]; exact h.r0
  · simp [go_sem, h.rf]
  · simp [go_sem, h.f6]
theorem pa_start {w w1 : World} {ao a1 : Option Addr} {cap k1 n : Nat} {ls : List Ln} {t : TypeId} (l0 : w1.cell? ⟨w.heap.size, 0, none⟩ = some (.slice ao n cap)) (r0 : w1.cell? ⟨w.heap.size + 1, 0, none⟩ = some (.slice none 0 0)) (rf : w1.frozen? ⟨w.heap.size + 1, 0, none⟩ = false)
    (o : w1.ownsRow (w.heap.size + 2) 115 3 (.slice a1 ls.length k1) ls.length (lcells ls)) : PA w.heap.size w1.heap.size ao cap n ls a1 k1 (w1.alloc (.cells #[.slice a1 ls.length k1] t)) := by
  have b : Below w1.heap.size w1 (w1.alloc (.cells #[.slice a1 ls.length k1] t)) := by go_grown
  have h0 : w.heap.size < w1.heap.size := World.block_lt_of_cell? w1 _ l0
  have h1 : w.heap.size + 1 < w1.heap.size := World.block_lt_of_cell? w1 _ r0
  exact ⟨(b.cell (p := ⟨w.heap.size, 0, none⟩) h0).trans l0, (b.cell (p := ⟨w.heap.size + 1, 0, none⟩) h1).trans r0, (b.frozen (p := ⟨w.heap.size + 1, 0, none⟩) h1).trans rf, by simp, by simp [go_sem], keepL o b, fun g hg => by have := (o.lt g hg).2; omega, by omega⟩
theorem all_end {w u : World} {gs cur : List Ln} {ok : Bool} {ao : Option Addr} {cap base : Nat} (hg : gs = cur) (ho : u.ownsRow base 115 3 (.slice ao cur.length cap) cur.length (lcells cur)) (hb : w.heap.size + 1 < base) (bel : Below w.heap.size w u) :
    PostR w gs ok (.returned (.tuple #[.agg #[.slice ao cur.length cap], .bool ok])) (u.setCell ⟨w.heap.size + 1, 0, none⟩ (.slice ao cur.length cap)) := by
  subst hg
  exact ⟨ao, cap, rfl, lowerL (keepSetL ho _ _ (fun g hg => by have := (ho.lt g hg).1; simp only; omega)) (by omega), bel.setCell (by show w.heap.size ≤ w.heap.size + 1; omega) _⟩

end Go.Proofs.Ytlonjjliochbhaa
