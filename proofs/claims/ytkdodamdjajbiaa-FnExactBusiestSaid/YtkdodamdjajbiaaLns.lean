/- Slices of lines and of entries: those that came in, those in a row of one's own. -/
import Derived.Test.YtkdodamdjajbiaaAid
import Derived.Test.YtkdodamdjajbiaaBase
import Derived.Test.YtkdodamdjajbiaaLedP
import Derived.Deep.SlicePairs
import Derived.Deep.Strs
import Derived.Lib.SmallJoins
import Derived.Lib.AppendZeros
import Derived.Maps.AppendAt
import Derived.Deep.AppendLies
namespace Go.Proofs.Ytkdodamdjajbiaa
open Go.ChangeShapes Go.WideShapes Go.ChangeAt Go.RowKit Go.Deep

def wf64 (n : Int) : Prop := (Lit.int .i64 n).wf = true
def lnBd (x : Ln) : Prop := wf64 x.1 ∧ wf64 x.2.1 ∧ wf64 x.2.2
def enBd (e : En) : Prop := wf64 e.1 ∧ wf64 e.2.1 ∧ wf64 e.2.2.1 ∧ wf64 e.2.2.2
/-- The slice of lines at 'ao' reads as 'ls' in w. -/
def LinesAt (w : World) (ao : Option Addr) (ls : List Ln) : Prop :=
  ls = [] ∨ ∃ b off, ao = some ⟨b, off, none⟩ ∧ b < w.heap.size ∧ ∀ i, i < ls.length →
    w.cell? ⟨b, off + i * 3, none⟩ = some (.int .i64 (lnAt ls i).1) ∧ w.cell? ⟨b, off + i * 3 + 1, none⟩ = some (.int .i64 (lnAt ls i).2.1) ∧ w.cell? ⟨b, off + i * 3 + 2, none⟩ = some (.int .i64 (lnAt ls i).2.2)
def LinesBd (ls : List Ln) : Prop := ls.length ≤ maxLen ∧ ∀ x ∈ ls, lnBd x
theorem LinesAt.below {w w' : World} {ao : Option Addr} {ls : List Ln} (h : LinesAt w ao ls) (hb : Below w.heap.size w w') : LinesAt w' ao ls := by
  rcases h with h | ⟨b, off, h1, h2, h3⟩
  · exact .inl h
  · exact .inr ⟨b, off, h1, Nat.lt_of_lt_of_le h2 hb.size, fun i hi => ⟨(hb.cell (p := ⟨b, off + i * 3, none⟩) h2).trans (h3 i hi).1, (hb.cell (p := ⟨b, off + i * 3 + 1, none⟩) h2).trans (h3 i hi).2.1, (hb.cell (p := ⟨b, off + i * 3 + 2, none⟩) h2).trans (h3 i hi).2.2⟩⟩
theorem LinesAt.at {w : World} {ao : Option Addr} {ls : List Ln} (h : LinesAt w ao ls) {k : Nat} (hk : k < ls.length) :
    ∃ b off, ao = some ⟨b, off, none⟩ ∧ b < w.heap.size ∧ w.cell? ⟨b, off + k * 3, none⟩ = some (.int .i64 (lnAt ls k).1) ∧ w.cell? ⟨b, off + k * 3 + 1, none⟩ = some (.int .i64 (lnAt ls k).2.1) ∧ w.cell? ⟨b, off + k * 3 + 2, none⟩ = some (.int .i64 (lnAt ls k).2.2) := by
  rcases h with rfl | ⟨b, off, h1, h2, h3⟩
  · simp at hk
  · exact ⟨b, off, h1, h2, h3 k hk⟩

def enAt (es : List En) (k : Nat) : En := es.getD k (0, 0, 0, 0)
theorem enAt_is {es : List En} {k : Nat} (h : k < es.length) : enAt es k = es[k] := by simp [enAt, List.getD_eq_getElem?_getD, h]
theorem enAt_mem {es : List En} {k : Nat} (h : k < es.length) : enAt es k ∈ es := by rw [enAt_is h]; exact List.getElem_mem h
/-- The slice of entries at 'ao' reads as 'es' in w. -/
def EntsAt (w : World) (ao : Option Addr) (es : List En) : Prop :=
  es = [] ∨ ∃ b off, ao = some ⟨b, off, none⟩ ∧ b < w.heap.size ∧ ∀ i, i < es.length →
    w.cell? ⟨b, off + i * 4, none⟩ = some (.int .i64 (enAt es i).1) ∧ w.cell? ⟨b, off + i * 4 + 1, none⟩ = some (.int .i64 (enAt es i).2.1) ∧ w.cell? ⟨b, off + i * 4 + 2, none⟩ = some (.int .i64 (enAt es i).2.2.1) ∧ w.cell? ⟨b, off + i * 4 + 3, none⟩ = some (.int .i64 (enAt es i).2.2.2)
def EntsBd (es : List En) : Prop := es.length ≤ maxLen ∧ ∀ x ∈ es, enBd x
theorem EntsAt.below {w w' : World} {ao : Option Addr} {es : List En} (h : EntsAt w ao es) (hb : Below w.heap.size w w') : EntsAt w' ao es := by
  rcases h with h | ⟨b, off, h1, h2, h3⟩
  · exact .inl h
  · exact .inr ⟨b, off, h1, Nat.lt_of_lt_of_le h2 hb.size, fun i hi => ⟨(hb.cell (p := ⟨b, off + i * 4, none⟩) h2).trans (h3 i hi).1, (hb.cell (p := ⟨b, off + i * 4 + 1, none⟩) h2).trans (h3 i hi).2.1, (hb.cell (p := ⟨b, off + i * 4 + 2, none⟩) h2).trans (h3 i hi).2.2.1, (hb.cell (p := ⟨b, off + i * 4 + 3, none⟩) h2).trans (h3 i hi).2.2.2⟩⟩
theorem EntsAt.at {w : World} {ao : Option Addr} {es : List En} (h : EntsAt w ao es) {k : Nat} (hk : k < es.length) :
    ∃ b off, ao = some ⟨b, off, none⟩ ∧ b < w.heap.size ∧ w.cell? ⟨b, off + k * 4, none⟩ = some (.int .i64 (enAt es k).1) ∧ w.cell? ⟨b, off + k * 4 + 1, none⟩ = some (.int .i64 (enAt es k).2.1) ∧ w.cell? ⟨b, off + k * 4 + 2, none⟩ = some (.int .i64 (enAt es k).2.2.1) ∧ w.cell? ⟨b, off + k * 4 + 3, none⟩ = some (.int .i64 (enAt es k).2.2.2) := by
  rcases h with rfl | ⟨b, off, h1, h2, h3⟩
  · simp at hk
  · exact ⟨b, off, h1, h2, h3 k hk⟩

section
variable {P : Program} {H : Type} {enc : TypeId × Value → H} {W : World}
/-- a struct of three ints, cell by cell -/
theorem ints3 {e : TypeId} {f0 f1 f2 : Field} {fuel : Nat} {cs : List Value} {x : DataW H × List MemPlace} (he : P.underlying e = some (.struct #[f0, f1, f2])) (ce : P.cellsOf e = 3) (o0 : f0.offset = 0) (o1 : f1.offset = 1) (o2 : f2.offset = 2)
    (c0 : P.cellsOf f0.type = 1) (c1 : P.cellsOf f1.type = 1) (c2 : P.cellsOf f2.type = 1) (u0 : P.underlying f0.type = some (.int .i64)) (u1 : P.underlying f1.type = some (.int .i64)) (u2 : P.underlying f2.type = some (.int .i64))
    (h : DataW.trod enc P W 0 (fun _ => true) true fuel e cs = some x) : ∃ l : Ln, cs = [.int .i64 l.1, .int .i64 l.2.1, .int .i64 l.2.2] ∧ lnBd l := by
  obtain ⟨y0, y1, y2, n, _, hl, h0, h1, h2⟩ := trod_struct3 he h
  rw [ce] at hl
  match cs, hl with
  | [a, b, c], _ =>
    simp [o0, o1, o2, c0, c1, c2] at h0 h1 h2
    obtain ⟨z0, q0, _, r0⟩ := DataW.trod_int u0 h0
    obtain ⟨z1, q1, _, r1⟩ := DataW.trod_int u1 h1
    obtain ⟨z2, q2, _, r2⟩ := DataW.trod_int u2 h2
    simp at q0 q1 q2
    exact ⟨(z0, z1, z2), by rw [q0, q1, q2], r0, r1, r2⟩
/-- a struct of four ints, cell by cell -/
theorem ints4 {e : TypeId} {f0 f1 f2 f3 : Field} {fuel : Nat} {cs : List Value} {x : DataW H × List MemPlace} (he : P.underlying e = some (.struct #[f0, f1, f2, f3])) (ce : P.cellsOf e = 4) (o0 : f0.offset = 0) (o1 : f1.offset = 1) (o2 : f2.offset = 2) (o3 : f3.offset = 3)
    (c0 : P.cellsOf f0.type = 1) (c1 : P.cellsOf f1.type = 1) (c2 : P.cellsOf f2.type = 1) (c3 : P.cellsOf f3.type = 1) (u0 : P.underlying f0.type = some (.int .i64)) (u1 : P.underlying f1.type = some (.int .i64)) (u2 : P.underlying f2.type = some (.int .i64)) (u3 : P.underlying f3.type = some (.int .i64))
    (h : DataW.trod enc P W 0 (fun _ => true) true fuel e cs = some x) : ∃ l : En, cs = [.int .i64 l.1, .int .i64 l.2.1, .int .i64 l.2.2.1, .int .i64 l.2.2.2] ∧ enBd l := by
  obtain ⟨xs, n, _, _, hl, hxl, hf⟩ := DataW.trod_struct he h
  rw [ce] at hl
  match xs, hxl, cs, hl with
  | [y0, y1, y2, y3], _, [a, b, c, d], _ =>
    have h0 := hf 0 f0 rfl
    have h1 := hf 1 f1 rfl
    have h2 := hf 2 f2 rfl
    have h3 := hf 3 f3 rfl
    simp [o0, o1, o2, o3, c0, c1, c2, c3] at h0 h1 h2 h3
    obtain ⟨z0, q0, _, r0⟩ := DataW.trod_int u0 h0
    obtain ⟨z1, q1, _, r1⟩ := DataW.trod_int u1 h1
    obtain ⟨z2, q2, _, r2⟩ := DataW.trod_int u2 h2
    obtain ⟨z3, q3, _, r3⟩ := DataW.trod_int u3 h3
    simp at q0 q1 q2 q3
    exact ⟨(z0, z1, z2, z3), by rw [q0, q1, q2, q3], r0, r1, r2, r3⟩
theorem add_at3 (b off i j : Nat) : ((⟨b, off, none⟩ : Addr).add i).add j = ⟨b, off + i + j, none⟩ := by
  have e : ∀ o k, ((⟨b, o, none⟩ : Addr).add k) = ⟨b, o + k, none⟩ := fun o k => by unfold Addr.add; split <;> simp_all
  rw [e, e]
/-- a slice of structs of three ints -/
theorem lines_open {t e : TypeId} {f0 f1 f2 : Field} {fuel : Nat} {y : Value} {x : DataW H × List MemPlace} (ht : P.underlying t = some (.slice e)) (he : P.underlying e = some (.struct #[f0, f1, f2])) (ce : P.cellsOf e = 3) (o0 : f0.offset = 0) (o1 : f1.offset = 1) (o2 : f2.offset = 2)
    (c0 : P.cellsOf f0.type = 1) (c1 : P.cellsOf f1.type = 1) (c2 : P.cellsOf f2.type = 1) (u0 : P.underlying f0.type = some (.int .i64)) (u1 : P.underlying f1.type = some (.int .i64)) (u2 : P.underlying f2.type = some (.int .i64))
    (h : DataW.trod enc P W 0 (fun _ => true) true fuel t [y] = some x) : ∃ a cap ls, y = .slice a (List.length ls) cap ∧ LinesAt W a ls ∧ LinesBd ls := by
  rcases open_slice ht h with ⟨e1, _⟩ | ⟨a, len, cap, m, n, D, Pl, e1, hb, hlc, hm, hmm, _, hx⟩
  · simp at e1
    exact ⟨none, 0, [], by rw [e1]; rfl, .inl rfl, Nat.zero_le _, fun f hf => by cases hf⟩
  · simp at e1 hmm
    subst hmm
    obtain ⟨F, hF⟩ := choose_lt (α := Ln) (n := m) (p := fun i l => W.cells? 0 (a.add (i * P.cellsOf e)) (P.cellsOf e) = some [.int .i64 l.1, .int .i64 l.2.1, .int .i64 l.2.2] ∧ lnBd l) (fun i hi => by
      obtain ⟨cs', g1, g2⟩ := hx i hi
      obtain ⟨l, rfl, hl⟩ := ints3 he ce o0 o1 o2 c0 c1 c2 u0 u1 u2 g2
      exact ⟨l, g1, hl⟩)
    refine ⟨some a, m, (List.range len).map F, by rw [e1]; simp, ?_, by rw [List.length_map, List.length_range]; exact Nat.le_trans hlc hm, fun f hf => by
      obtain ⟨i, hi, rfl⟩ := List.mem_map.1 hf
      exact (hF i (by have := List.mem_range.1 hi; omega)).2⟩
    by_cases hz : len = 0
    · subst hz; exact .inl rfl
    · have each : ∀ i, i < len → ∀ j v, [Value.int .i64 (F i).1, .int .i64 (F i).2.1, .int .i64 (F i).2.2][j]? = some v → W.cell? ((a.add (i * 3)).add j) = some v := fun i hi j v hv => by
        have g := (hF i (by omega)).1
        rw [ce] at g
        obtain ⟨_, _, hcell⟩ := World.cells?_some g
        have := hcell j (by have := (List.getElem?_eq_some_iff.1 hv).1; simpa using this)
        rw [this]; simpa using hv
      obtain ⟨bk, off, spot⟩ := a
      have hc0 := each 0 (by omega) 0 _ rfl
      have hspot : spot = none := by simpa [Addr.add] using World.cell?_spot hc0
      subst hspot
      refine .inr ⟨bk, off, rfl, ?_, fun i hi => ?_⟩
      · have := World.block_lt_of_cell? W _ hc0
        simpa [add_at3] using this
      · have hi' : i < len := by simpa using hi
        have hat : lnAt ((List.range len).map F) i = F i := by simp [lnAt, List.getD_eq_getElem?_getD, hi']
        rw [hat]
        have g0 := each i hi' 0 _ rfl
        have g1 := each i hi' 1 _ rfl
        have g2 := each i hi' 2 _ rfl
        rw [add_at3] at g0 g1 g2
        exact ⟨g0, g1, g2⟩
/-- a slice of structs of four ints -/
theorem ents_open {t e : TypeId} {f0 f1 f2 f3 : Field} {fuel : Nat} {y : Value} {x : DataW H × List MemPlace} (ht : P.underlying t = some (.slice e)) (he : P.underlying e = some (.struct #[f0, f1, f2, f3])) (ce : P.cellsOf e = 4) (o0 : f0.offset = 0) (o1 : f1.offset = 1) (o2 : f2.offset = 2) (o3 : f3.offset = 3)
    (c0 : P.cellsOf f0.type = 1) (c1 : P.cellsOf f1.type = 1) (c2 : P.cellsOf f2.type = 1) (c3 : P.cellsOf f3.type = 1) (u0 : P.underlying f0.type = some (.int .i64)) (u1 : P.underlying f1.type = some (.int .i64)) (u2 : P.underlying f2.type = some (.int .i64)) (u3 : P.underlying f3.type = some (.int .i64))
    (h : DataW.trod enc P W 0 (fun _ => true) true fuel t [y] = some x) : ∃ a cap ls, y = .slice a (List.length ls) cap ∧ EntsAt W a ls ∧ EntsBd ls := by
  rcases open_slice ht h with ⟨e1, _⟩ | ⟨a, len, cap, m, n, D, Pl, e1, hb, hlc, hm, hmm, _, hx⟩
  · simp at e1
    exact ⟨none, 0, [], by rw [e1]; rfl, .inl rfl, Nat.zero_le _, fun f hf => by cases hf⟩
  · simp at e1 hmm
    subst hmm
    obtain ⟨F, hF⟩ := choose_lt (α := En) (n := m) (p := fun i l => W.cells? 0 (a.add (i * P.cellsOf e)) (P.cellsOf e) = some [.int .i64 l.1, .int .i64 l.2.1, .int .i64 l.2.2.1, .int .i64 l.2.2.2] ∧ enBd l) (fun i hi => by
      obtain ⟨cs', g1, g2⟩ := hx i hi
      obtain ⟨l, rfl, hl⟩ := ints4 he ce o0 o1 o2 o3 c0 c1 c2 c3 u0 u1 u2 u3 g2
      exact ⟨l, g1, hl⟩)
    refine ⟨some a, m, (List.range len).map F, by rw [e1]; simp, ?_, by rw [List.length_map, List.length_range]; exact Nat.le_trans hlc hm, fun f hf => by
      obtain ⟨i, hi, rfl⟩ := List.mem_map.1 hf
      exact (hF i (by have := List.mem_range.1 hi; omega)).2⟩
    by_cases hz : len = 0
    · subst hz; exact .inl rfl
    · have each : ∀ i, i < len → ∀ j v, [Value.int .i64 (F i).1, .int .i64 (F i).2.1, .int .i64 (F i).2.2.1, .int .i64 (F i).2.2.2][j]? = some v → W.cell? ((a.add (i * 4)).add j) = some v := fun i hi j v hv => by
        have g := (hF i (by omega)).1
        rw [ce] at g
        obtain ⟨_, _, hcell⟩ := World.cells?_some g
        have := hcell j (by have := (List.getElem?_eq_some_iff.1 hv).1; simpa using this)
        rw [this]; simpa using hv
      obtain ⟨bk, off, spot⟩ := a
      have hc0 := each 0 (by omega) 0 _ rfl
      have hspot : spot = none := by simpa [Addr.add] using World.cell?_spot hc0
      subst hspot
      refine .inr ⟨bk, off, rfl, ?_, fun i hi => ?_⟩
      · have := World.block_lt_of_cell? W _ hc0
        simpa [add_at3] using this
      · have hi' : i < len := by simpa using hi
        have hat : enAt ((List.range len).map F) i = F i := by simp [enAt, List.getD_eq_getElem?_getD, hi']
        rw [hat]
        have g0 := each i hi' 0 _ rfl
        have g1 := each i hi' 1 _ rfl
        have g2 := each i hi' 2 _ rfl
        have g3 := each i hi' 3 _ rfl
        rw [add_at3] at g0 g1 g2 g3
        exact ⟨g0, g1, g2, g3⟩
/-- a struct whose one field is a slice of structs of three ints -/
theorem is_ledger {r : Reach} {base : Nat} {t e : TypeId} {g0 f0 f1 f2 : Field} {v : Value} {d : DataW H} {p : List MemPlace} (hg : P.underlying t = some (.struct #[g0])) (cg : P.cellsOf t = 1) (og : g0.offset = 0) (cg0 : P.cellsOf g0.type = 1) (ht : P.underlying g0.type = some (.slice e))
    (he : P.underlying e = some (.struct #[f0, f1, f2])) (ce : P.cellsOf e = 3) (o0 : f0.offset = 0) (o1 : f1.offset = 1) (o2 : f2.offset = 2)
    (c0 : P.cellsOf f0.type = 1) (c1 : P.cellsOf f1.type = 1) (c2 : P.cellsOf f2.type = 1) (u0 : P.underlying f0.type = some (.int .i64)) (u1 : P.underlying f1.type = some (.int .i64)) (u2 : P.underlying f2.type = some (.int .i64))
    (hv : Value.okWide P W r base t v) (h : DataW.Trod enc P W 0 (fun _ => true) true t v d p) : ∃ a cap ls, v = .agg #[.slice a (List.length ls) cap] ∧ LinesAt W a ls ∧ LinesBd ls := by
  obtain ⟨cs, rfl, _⟩ := okWide_struct hg hv
  obtain ⟨fuel, hf⟩ := h
  obtain ⟨y0, m, _, hl, h0⟩ := trod_struct1 hg hf
  simp only [Value.cells] at hl h0
  rw [cg] at hl
  obtain ⟨l⟩ := cs
  match l, hl with
  | [y], _ =>
    simp [og, cg0] at h0
    obtain ⟨a, cap, ls, e1, e2, e3⟩ := lines_open ht he ce o0 o1 o2 c0 c1 c2 u0 u1 u2 h0
    exact ⟨a, cap, ls, by rw [e1], e2, e3⟩
theorem is_entry {r : Reach} {base : Nat} {t : TypeId} {f0 f1 f2 f3 : Field} {v : Value} {d : DataW H} {p : List MemPlace} (he : P.underlying t = some (.struct #[f0, f1, f2, f3])) (ce : P.cellsOf t = 4) (o0 : f0.offset = 0) (o1 : f1.offset = 1) (o2 : f2.offset = 2) (o3 : f3.offset = 3)
    (c0 : P.cellsOf f0.type = 1) (c1 : P.cellsOf f1.type = 1) (c2 : P.cellsOf f2.type = 1) (c3 : P.cellsOf f3.type = 1) (u0 : P.underlying f0.type = some (.int .i64)) (u1 : P.underlying f1.type = some (.int .i64)) (u2 : P.underlying f2.type = some (.int .i64)) (u3 : P.underlying f3.type = some (.int .i64))
    (hv : Value.okWide P W r base t v) (h : DataW.Trod enc P W 0 (fun _ => true) true t v d p) : ∃ a b c m, v = .agg #[.int .i64 a, .int .i64 b, .int .i64 c, .int .i64 m] ∧ enBd (a, b, c, m) := by
  obtain ⟨cs, rfl, _⟩ := okWide_struct he hv
  obtain ⟨fuel, hf⟩ := h
  obtain ⟨l, e1, e2⟩ := ints4 he ce o0 o1 o2 o3 c0 c1 c2 c3 u0 u1 u2 u3 hf
  simp only [Value.cells] at e1
  obtain ⟨cl⟩ := cs
  simp only at e1
  subst e1
  exact ⟨l.1, l.2.1, l.2.2.1, l.2.2.2, rfl, e2⟩
theorem is_ents {r : Reach} {base : Nat} {t e : TypeId} {f0 f1 f2 f3 : Field} {v : Value} {d : DataW H} {p : List MemPlace} (ht : P.underlying t = some (.slice e)) (he : P.underlying e = some (.struct #[f0, f1, f2, f3])) (ce : P.cellsOf e = 4) (o0 : f0.offset = 0) (o1 : f1.offset = 1) (o2 : f2.offset = 2) (o3 : f3.offset = 3)
    (c0 : P.cellsOf f0.type = 1) (c1 : P.cellsOf f1.type = 1) (c2 : P.cellsOf f2.type = 1) (c3 : P.cellsOf f3.type = 1) (u0 : P.underlying f0.type = some (.int .i64)) (u1 : P.underlying f1.type = some (.int .i64)) (u2 : P.underlying f2.type = some (.int .i64)) (u3 : P.underlying f3.type = some (.int .i64))
    (hv : Value.okWide P W r base t v) (h : DataW.Trod enc P W 0 (fun _ => true) true t v d p) : ∃ a cap es, v = .slice a (List.length es) cap ∧ EntsAt W a es ∧ EntsBd es := by
  obtain ⟨va, vl, vc, rfl⟩ := okWide_slice ht hv
  obtain ⟨fuel, h1⟩ := h
  exact ents_open ht he ce o0 o1 o2 o3 c0 c1 c2 c3 u0 u1 u2 u3 h1
end

def lcell (x : Ln) : List Value := [.int .i64 x.1, .int .i64 x.2.1, .int .i64 x.2.2]
def lcells (ls : List Ln) : List Value := ls.flatMap lcell
theorem lcells_cons (x : Ln) (r : List Ln) : lcells (x :: r) = .int .i64 x.1 :: .int .i64 x.2.1 :: .int .i64 x.2.2 :: lcells r := rfl
theorem lcells_append (a b : List Ln) : lcells (a ++ b) = lcells a ++ lcells b := by simp [lcells]
theorem lcells_len (ls : List Ln) : (lcells ls).length = ls.length * 3 := by
  induction ls with
  | nil => rfl
  | cons f r ih => rw [lcells_cons]; simp [ih]; omega
theorem lcells_at (ls : List Ln) : ∀ k, k < ls.length → (lcells ls)[k * 3]? = some (.int .i64 (lnAt ls k).1) ∧ (lcells ls)[k * 3 + 1]? = some (.int .i64 (lnAt ls k).2.1) ∧ (lcells ls)[k * 3 + 2]? = some (.int .i64 (lnAt ls k).2.2) := by
  induction ls with
  | nil => intro k h; simp at h
  | cons f r ih =>
    intro k h
    rw [lcells_cons]
    cases k with
    | zero => exact ⟨rfl, rfl, rfl⟩
    | succ k =>
      have := ih k (by simpa using h)
      rw [show (k + 1) * 3 = k * 3 + 1 + 1 + 1 by omega]
      simp only [List.getElem?_cons_succ]
      exact this
theorem lcells_set (ls : List Ln) (x : Ln) : ∀ k, k < ls.length → (((lcells ls).set (k * 3) (.int .i64 x.1)).set (k * 3 + 1) (.int .i64 x.2.1)).set (k * 3 + 2) (.int .i64 x.2.2) = lcells (ls.set k x) := by
  induction ls with
  | nil => intro k h; simp at h
  | cons g r ih =>
    intro k h
    rw [lcells_cons]
    cases k with
    | zero => rfl
    | succ k =>
      have := ih k (by simpa using h)
      rw [show (k + 1) * 3 = k * 3 + 1 + 1 + 1 by omega]
      simp only [List.set_cons_succ]
      rw [this]
      rfl
theorem lcells_one (ls : List Ln) : ∀ u ∈ lcells ls, u.oneCell' = true := by
  intro u hu
  simp only [lcells, List.mem_flatMap, lcell] at hu
  obtain ⟨f, _, hf⟩ := hu
  simp at hf
  rcases hf with rfl | rfl | rfl <;> rfl
theorem lines_of_own {w : World} {base n : Nat} {t : TypeId} {v : Value} {ls : List Ln} (h : w.ownsRow base t 3 v n (lcells ls)) : ∃ ao cap, v = .slice ao ls.length cap ∧ LinesAt w ao ls ∧ n = ls.length := by
  have hn : n = ls.length := by have := h.1; rw [lcells_len] at this; omega
  subst hn
  rcases h.2 with ⟨rfl, hn⟩ | ⟨g, cap, cur, rfl, _⟩
  · have : ls = [] := List.eq_nil_of_length_eq_zero hn
    subst this
    exact ⟨none, 0, rfl, .inl rfl, rfl⟩
  · refine ⟨_, cap, rfl, ?_, rfl⟩
    by_cases h0 : ls = []
    · exact .inl h0
    · refine .inr ⟨g, 0, rfl, (h.lt g rfl).2, fun i hi => ?_⟩
      have := lcells_at ls i hi
      rw [Nat.zero_add, h.cellAt (i * 3) (by omega), h.cellAt (i * 3 + 1) (by omega), h.cellAt (i * 3 + 2) (by omega)]
      exact this

end Go.Proofs.Ytkdodamdjajbiaa
