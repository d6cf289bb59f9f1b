/- Fields and messages that came in: what such a struct reads as. -/
import Derived.Test.YtopgcfgomappjaaDoorBase
import Derived.Test.YtopgcfgomappjaaDoorMsgP
import Derived.Deep.SlicePairs
namespace Go.Proofs.YtopgcfgomappjaaDoor
open Go.ChangeShapes Go.WideShapes Go.ChangeAt Go.RowKit Go.Deep

def FldsBd (fs : List Fld) : Prop := fs.length ≤ maxLen ∧ ∀ f ∈ fs, f.2.length ≤ maxLen
/-- The slice of fields at 'ao' reads as 'fs' in w. -/
def FldsAt (w : World) (ao : Option Addr) (fs : List Fld) : Prop :=
  fs = [] ∨ ∃ b off, ao = some ⟨b, off, none⟩ ∧ b < w.heap.size ∧ ∀ i, i < fs.length →
    w.cell? ⟨b, off + i * 2, none⟩ = some (.int .i64 (at0 fs i).1) ∧ w.cell? ⟨b, off + i * 2 + 1, none⟩ = some (.string ⟨(at0 fs i).2.toArray⟩)

theorem FldsAt.below {w w' : World} {ao : Option Addr} {fs : List Fld} (h : FldsAt w ao fs) (hb : Below w.heap.size w w') : FldsAt w' ao fs := by
  rcases h with h | ⟨b, off, h1, h2, h3⟩
  · exact .inl h
  · exact .inr ⟨b, off, h1, Nat.lt_of_lt_of_le h2 hb.size, fun i hi => ⟨(hb.cell (p := ⟨b, off + i * 2, none⟩) h2).trans (h3 i hi).1, (hb.cell (p := ⟨b, off + i * 2 + 1, none⟩) h2).trans (h3 i hi).2⟩⟩

theorem is_field {P : Program} {H : Type} {enc : TypeId × Value → H} {W : World} {r : Reach} {base : Nat} {t : TypeId} {f0 f1 : Field} {v : Value} {d : DataW H} {p : List MemPlace}
    (ht : P.underlying t = some (.struct #[f0, f1])) (hc : P.cellsOf t = 2) (o0 : f0.offset = 0) (o1 : f1.offset = 1) (c0 : P.cellsOf f0.type = 1) (c1 : P.cellsOf f1.type = 1)
    (t0 : P.underlying f0.type = some (.int .i64)) (t1 : P.underlying f1.type = some .string)
    (hv : Value.okWide P W r base t v) (h : DataW.Trod enc P W 0 (fun _ => true) true t v d p) : ∃ n s, v = .agg #[.int .i64 n, .string s] ∧ s.size ≤ maxLen := by
  obtain ⟨cs, rfl, _⟩ := okWide_struct ht hv
  obtain ⟨fuel, hf⟩ := h
  obtain ⟨y0, y1, m, _, hl, h0, h1⟩ := trod_struct2 ht hf
  simp only [Value.cells] at hl h0 h1
  rw [hc] at hl
  obtain ⟨l⟩ := cs
  match l, hl with
  | [a, b], _ =>
    simp [o0, o1, c0, c1] at h0 h1
    obtain ⟨n, e0, _⟩ := DataW.trod_int t0 h0
    obtain ⟨s, e1, _, hs⟩ := DataW.trod_string t1 h1
    simp at e0 e1
    exact ⟨n, s, by rw [e0, e1], hs⟩

theorem is_message {P : Program} {H : Type} {enc : TypeId × Value → H} {W : World} {r : Reach} {base : Nat} {t e : TypeId} {f0 f1 g0 g1 : Field} {v : Value} {d : DataW H} {p : List MemPlace}
    (ht : P.underlying t = some (.struct #[f0, f1])) (hc : P.cellsOf t = 2) (o0 : f0.offset = 0) (o1 : f1.offset = 1) (c0 : P.cellsOf f0.type = 1) (c1 : P.cellsOf f1.type = 1)
    (t0 : P.underlying f0.type = some (.int .i64)) (t1 : P.underlying f1.type = some (.slice e))
    (he : P.underlying e = some (.struct #[g0, g1])) (ce : P.cellsOf e = 2) (p0 : g0.offset = 0) (p1 : g1.offset = 1) (d0 : P.cellsOf g0.type = 1) (d1 : P.cellsOf g1.type = 1)
    (u0 : P.underlying g0.type = some (.int .i64)) (u1 : P.underlying g1.type = some .string)
    (hv : Value.okWide P W r base t v) (h : DataW.Trod enc P W 0 (fun _ => true) true t v d p) :
    ∃ n a cap fs, v = .agg #[.int .i64 n, .slice a (List.length fs) cap] ∧ FldsAt W a fs ∧ FldsBd fs := by
  obtain ⟨cs, rfl, _⟩ := okWide_struct ht hv
  obtain ⟨fuel, hf⟩ := h
  obtain ⟨y0, y1, m, _, hl, h0, h1⟩ := trod_struct2 ht hf
  simp only [Value.cells] at hl h0 h1
  rw [hc] at hl
  obtain ⟨l⟩ := cs
  match l, hl with
  | [x, y], _ =>
    simp [o0, o1, c0, c1] at h0 h1
    obtain ⟨n, e0, _⟩ := DataW.trod_int t0 h0
    simp at e0
    rcases open_slice_pairs t1 he ce p0 p1 d0 d1 h1 with ⟨e1, _⟩ | ⟨a, len, cap, m, k, V0, V1, D0, D1, P0, P1, e1, hb, hlc, hm, hmm, _, hx⟩
    · simp at e1
      exact ⟨n, none, 0, [], by rw [e0, e1]; rfl, .inl rfl, Nat.zero_le _, fun f hf => by cases hf⟩
    · simp at e1 hmm
      subst hmm
      obtain ⟨F, hF⟩ := choose_lt (α := Fld) (n := m) (p := fun i f => V0 i = .int .i64 f.1 ∧ V1 i = .string ⟨f.2.toArray⟩ ∧ f.2.length ≤ maxLen) (fun i hi => by
        obtain ⟨_, _, g2, g3⟩ := hx i hi
        obtain ⟨z, q0, _⟩ := DataW.trod_int u0 g2
        obtain ⟨s, q1, _, hs⟩ := DataW.trod_string u1 g3
        simp at q0 q1
        exact ⟨(z, s.data.toList), q0, by rw [q1], by show s.data.toList.length ≤ maxLen; rw [Array.length_toList]; exact hs⟩)
      refine ⟨n, some a, m, (List.range len).map F, by rw [e0, e1]; simp, ?_, by rw [List.length_map, List.length_range]; exact Nat.le_trans hlc hm, fun f hf => by
        obtain ⟨i, hi, rfl⟩ := List.mem_map.1 hf
        exact (hF i (by have := List.mem_range.1 hi; omega)).2.2⟩
      by_cases hz : len = 0
      · subst hz; exact .inl rfl
      · obtain ⟨bk, off, spot⟩ := a
        have hc0 := (hx 0 (by omega)).1
        have hspot : spot = none := by simpa [Addr.add] using World.cell?_spot hc0
        subst hspot
        refine .inr ⟨bk, off, rfl, ?_, fun i hi => ?_⟩
        · exact World.block_lt_of_cell? W _ hc0
        · have hi' : i < len := by simpa using hi
          have hat : at0 ((List.range len).map F) i = F i := by simp [at0, List.getD_eq_getElem?_getD, hi']
          obtain ⟨g0, g1, _, _⟩ := hx i (by omega)
          rw [hat, ← (hF i (by omega)).1, ← (hF i (by omega)).2.1]
          rw [add_plain] at g0 g1
          exact ⟨g0, by rw [Nat.add_assoc]; exact g1⟩

end Go.Proofs.YtopgcfgomappjaaDoor
