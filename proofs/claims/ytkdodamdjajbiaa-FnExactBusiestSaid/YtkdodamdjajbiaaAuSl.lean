/- Authorizations and slices of them: those that came in. -/
import Derived.Test.YtkdodamdjajbiaaAid
import Derived.Test.YtkdodamdjajbiaaBase
import Derived.Test.YtkdodamdjajbiaaAuP
import Derived.Test.YtkdodamdjajbiaaLns
namespace Go.Proofs.Ytkdodamdjajbiaa
open Go.ChangeShapes Go.WideShapes Go.ChangeAt Go.RowKit Go.Deep

def aucells (a : Au) : List Value := [.string ⟨a.ref.toArray⟩, .int .i64 a.iss, .int .i64 a.cur, .int .i64 a.am, .int .i64 a.day, .bool a.used]
def auv (a : Au) : Value := .agg #[.string ⟨a.ref.toArray⟩, .int .i64 a.iss, .int .i64 a.cur, .int .i64 a.am, .int .i64 a.day, .bool a.used]
/-- its numbers fit, its text is not too long -/
def auBd (a : Au) : Prop := a.ref.length ≤ maxLen ∧ wf64 a.iss ∧ wf64 a.cur ∧ wf64 a.am ∧ wf64 a.day
/-- The slice of authorizations at 'ao' reads as 'az' in w. -/
def AuthsAt (w : World) (ao : Option Addr) (az : List Au) : Prop :=
  az = [] ∨ ∃ b off, ao = some ⟨b, off, none⟩ ∧ b < w.heap.size ∧ ∀ i, i < az.length →
    w.cell? ⟨b, off + i * 6, none⟩ = some (.string ⟨(auAt az i).ref.toArray⟩) ∧ w.cell? ⟨b, off + i * 6 + 1, none⟩ = some (.int .i64 (auAt az i).iss) ∧ w.cell? ⟨b, off + i * 6 + 2, none⟩ = some (.int .i64 (auAt az i).cur) ∧ w.cell? ⟨b, off + i * 6 + 3, none⟩ = some (.int .i64 (auAt az i).am) ∧ w.cell? ⟨b, off + i * 6 + 4, none⟩ = some (.int .i64 (auAt az i).day) ∧ w.cell? ⟨b, off + i * 6 + 5, none⟩ = some (.bool (auAt az i).used)
def AuthsBd (az : List Au) : Prop := az.length ≤ maxLen ∧ ∀ x ∈ az, auBd x
theorem AuthsAt.below {w w' : World} {ao : Option Addr} {az : List Au} (h : AuthsAt w ao az) (hb : Below w.heap.size w w') : AuthsAt w' ao az := by
  rcases h with h | ⟨b, off, h1, h2, h3⟩
  · exact .inl h
  · exact .inr ⟨b, off, h1, Nat.lt_of_lt_of_le h2 hb.size, fun i hi => ⟨(hb.cell (p := ⟨b, off + i * 6, none⟩) h2).trans (h3 i hi).1, (hb.cell (p := ⟨b, off + i * 6 + 1, none⟩) h2).trans (h3 i hi).2.1, (hb.cell (p := ⟨b, off + i * 6 + 2, none⟩) h2).trans (h3 i hi).2.2.1, (hb.cell (p := ⟨b, off + i * 6 + 3, none⟩) h2).trans (h3 i hi).2.2.2.1, (hb.cell (p := ⟨b, off + i * 6 + 4, none⟩) h2).trans (h3 i hi).2.2.2.2.1, (hb.cell (p := ⟨b, off + i * 6 + 5, none⟩) h2).trans (h3 i hi).2.2.2.2.2⟩⟩

section
variable {P : Program} {H : Type} {enc : TypeId × Value → H} {W : World}
theorem cells_auth {e : TypeId} {f0 f1 f2 f3 f4 f5 : Field} {fuel : Nat} {cs : List Value} {x : DataW H × List MemPlace} (he : P.underlying e = some (.struct #[f0, f1, f2, f3, f4, f5])) (ce : P.cellsOf e = 6) (o0 : f0.offset = 0) (o1 : f1.offset = 1) (o2 : f2.offset = 2) (o3 : f3.offset = 3) (o4 : f4.offset = 4) (o5 : f5.offset = 5)
    (c0 : P.cellsOf f0.type = 1) (c1 : P.cellsOf f1.type = 1) (c2 : P.cellsOf f2.type = 1) (c3 : P.cellsOf f3.type = 1) (c4 : P.cellsOf f4.type = 1) (c5 : P.cellsOf f5.type = 1) (u0 : P.underlying f0.type = some .string) (u1 : P.underlying f1.type = some (.int .i64)) (u2 : P.underlying f2.type = some (.int .i64)) (u3 : P.underlying f3.type = some (.int .i64)) (u4 : P.underlying f4.type = some (.int .i64)) (u5 : P.underlying f5.type = some .bool)
    (h : DataW.trod enc P W 0 (fun _ => true) true fuel e cs = some x) : ∃ l : Au, cs = aucells l ∧ auBd l := by
  obtain ⟨xs, n, _, _, hl, hxl, hf⟩ := DataW.trod_struct he h
  rw [ce] at hl
  match xs, hxl, cs, hl with
  | [y0, y1, y2, y3, y4, y5], _, [a0, a1, a2, a3, a4, a5], _ =>
    have h0 := hf 0 f0 rfl
    have h1 := hf 1 f1 rfl
    have h2 := hf 2 f2 rfl
    have h3 := hf 3 f3 rfl
    have h4 := hf 4 f4 rfl
    have h5 := hf 5 f5 rfl
    simp [o0, c0] at h0
    simp [o1, c1] at h1
    simp [o2, c2] at h2
    simp [o3, c3] at h3
    simp [o4, c4] at h4
    simp [o5, c5] at h5
    obtain ⟨z0, q0, _, r0⟩ := DataW.trod_string u0 h0
    obtain ⟨z1, q1, _, r1⟩ := DataW.trod_int u1 h1
    obtain ⟨z2, q2, _, r2⟩ := DataW.trod_int u2 h2
    obtain ⟨z3, q3, _, r3⟩ := DataW.trod_int u3 h3
    obtain ⟨z4, q4, _, r4⟩ := DataW.trod_int u4 h4
    obtain ⟨z5, q5, _⟩ := DataW.trod_bool u5 h5
    simp at q0 q1 q2 q3 q4 q5
    exact ⟨⟨z0.data.toList, z1, z2, z3, z4, z5⟩, by rw [q0, q1, q2, q3, q4, q5]; rfl, by show z0.data.toList.length ≤ maxLen; rw [Array.length_toList]; exact r0, r1, r2, r3, r4⟩
/-- an authorization that came in -/
theorem is_auth {r : Reach} {base : Nat} {t : TypeId} {f0 f1 f2 f3 f4 f5 : Field} {v : Value} {d : DataW H} {p : List MemPlace} (he : P.underlying t = some (.struct #[f0, f1, f2, f3, f4, f5])) (ce : P.cellsOf t = 6) (o0 : f0.offset = 0) (o1 : f1.offset = 1) (o2 : f2.offset = 2) (o3 : f3.offset = 3) (o4 : f4.offset = 4) (o5 : f5.offset = 5)
    (c0 : P.cellsOf f0.type = 1) (c1 : P.cellsOf f1.type = 1) (c2 : P.cellsOf f2.type = 1) (c3 : P.cellsOf f3.type = 1) (c4 : P.cellsOf f4.type = 1) (c5 : P.cellsOf f5.type = 1) (u0 : P.underlying f0.type = some .string) (u1 : P.underlying f1.type = some (.int .i64)) (u2 : P.underlying f2.type = some (.int .i64)) (u3 : P.underlying f3.type = some (.int .i64)) (u4 : P.underlying f4.type = some (.int .i64)) (u5 : P.underlying f5.type = some .bool)
    (hv : Value.okWide P W r base t v) (h : DataW.Trod enc P W 0 (fun _ => true) true t v d p) : ∃ c : Au, v = auv c ∧ auBd c := by
  obtain ⟨cs, rfl, _⟩ := okWide_struct he hv
  obtain ⟨fuel, hf⟩ := h
  obtain ⟨l, hl, hb⟩ := cells_auth he ce o0 o1 o2 o3 o4 o5 c0 c1 c2 c3 c4 c5 u0 u1 u2 u3 u4 u5 hf
  refine ⟨l, ?_, hb⟩
  obtain ⟨ll⟩ := cs
  simp only [Value.cells] at hl
  rw [hl]; rfl
/-- a slice of authorizations -/
theorem auths_open {t e : TypeId} {f0 f1 f2 f3 f4 f5 : Field} {fuel : Nat} {y : Value} {x : DataW H × List MemPlace} (ht : P.underlying t = some (.slice e)) (he : P.underlying e = some (.struct #[f0, f1, f2, f3, f4, f5])) (ce : P.cellsOf e = 6) (o0 : f0.offset = 0) (o1 : f1.offset = 1) (o2 : f2.offset = 2) (o3 : f3.offset = 3) (o4 : f4.offset = 4) (o5 : f5.offset = 5)
    (c0 : P.cellsOf f0.type = 1) (c1 : P.cellsOf f1.type = 1) (c2 : P.cellsOf f2.type = 1) (c3 : P.cellsOf f3.type = 1) (c4 : P.cellsOf f4.type = 1) (c5 : P.cellsOf f5.type = 1) (u0 : P.underlying f0.type = some .string) (u1 : P.underlying f1.type = some (.int .i64)) (u2 : P.underlying f2.type = some (.int .i64)) (u3 : P.underlying f3.type = some (.int .i64)) (u4 : P.underlying f4.type = some (.int .i64)) (u5 : P.underlying f5.type = some .bool)
    (h : DataW.trod enc P W 0 (fun _ => true) true fuel t [y] = some x) : ∃ a cap ls, y = .slice a (List.length ls) cap ∧ AuthsAt W a ls ∧ AuthsBd ls := by
  rcases open_slice ht h with ⟨e1, _⟩ | ⟨a, len, cap, m, n, D, Pl, e1, hb, hlc, hm, hmm, _, hx⟩
  · simp at e1
    exact ⟨none, 0, [], by rw [e1]; rfl, .inl rfl, Nat.zero_le _, fun f hf => by cases hf⟩
  · simp at e1 hmm
    subst hmm
    haveI : Inhabited Au := ⟨zeroAu⟩
    obtain ⟨F, hF⟩ := choose_lt (α := Au) (n := m) (p := fun i l => W.cells? 0 (a.add (i * P.cellsOf e)) (P.cellsOf e) = some (aucells l) ∧ auBd l) (fun i hi => by
      obtain ⟨cs', g1, g2⟩ := hx i hi
      obtain ⟨l, rfl, hl⟩ := cells_auth he ce o0 o1 o2 o3 o4 o5 c0 c1 c2 c3 c4 c5 u0 u1 u2 u3 u4 u5 g2
      exact ⟨l, g1, hl⟩)
    refine ⟨some a, m, (List.range len).map F, by rw [e1]; simp, ?_, by rw [List.length_map, List.length_range]; exact Nat.le_trans hlc hm, fun f hf => by
      obtain ⟨i, hi, rfl⟩ := List.mem_map.1 hf
      exact (hF i (by have := List.mem_range.1 hi; omega)).2⟩
    by_cases hz : len = 0
    · subst hz; exact .inl rfl
    · have each : ∀ i, i < len → ∀ j v, (aucells (F i))[j]? = some v → W.cell? ((a.add (i * 6)).add j) = some v := fun i hi j v hv => by
        have g := (hF i (by omega)).1
        rw [ce] at g
        obtain ⟨_, _, hcell⟩ := World.cells?_some g
        have := hcell j (by have := (List.getElem?_eq_some_iff.1 hv).1; simpa [aucells] using this)
        rw [this]; simpa using hv
      obtain ⟨bk, off, spot⟩ := a
      have hc0 := each 0 (by omega) 0 _ rfl
      have hspot : spot = none := by simpa [Addr.add] using World.cell?_spot hc0
      subst hspot
      refine .inr ⟨bk, off, rfl, ?_, fun i hi => ?_⟩
      · have := World.block_lt_of_cell? W _ hc0
        simpa [add_at3] using this
      · have hi' : i < len := by simpa using hi
        have hat : auAt ((List.range len).map F) i = F i := by simp [auAt, List.getD_eq_getElem?_getD, hi']
        rw [hat]
        have g0 := each i hi' 0 _ rfl
        have g1 := each i hi' 1 _ rfl
        have g2 := each i hi' 2 _ rfl
        have g3 := each i hi' 3 _ rfl
        have g4 := each i hi' 4 _ rfl
        have g5 := each i hi' 5 _ rfl
        rw [add_at3] at g0 g1 g2 g3 g4 g5
        exact ⟨g0, g1, g2, g3, g4, g5⟩
theorem is_auths {r : Reach} {base : Nat} {t e : TypeId} {f0 f1 f2 f3 f4 f5 : Field} {v : Value} {d : DataW H} {p : List MemPlace} (ht : P.underlying t = some (.slice e)) (he : P.underlying e = some (.struct #[f0, f1, f2, f3, f4, f5])) (ce : P.cellsOf e = 6) (o0 : f0.offset = 0) (o1 : f1.offset = 1) (o2 : f2.offset = 2) (o3 : f3.offset = 3) (o4 : f4.offset = 4) (o5 : f5.offset = 5)
    (c0 : P.cellsOf f0.type = 1) (c1 : P.cellsOf f1.type = 1) (c2 : P.cellsOf f2.type = 1) (c3 : P.cellsOf f3.type = 1) (c4 : P.cellsOf f4.type = 1) (c5 : P.cellsOf f5.type = 1) (u0 : P.underlying f0.type = some .string) (u1 : P.underlying f1.type = some (.int .i64)) (u2 : P.underlying f2.type = some (.int .i64)) (u3 : P.underlying f3.type = some (.int .i64)) (u4 : P.underlying f4.type = some (.int .i64)) (u5 : P.underlying f5.type = some .bool)
    (hv : Value.okWide P W r base t v) (h : DataW.Trod enc P W 0 (fun _ => true) true t v d p) : ∃ a cap ls, v = .slice a (List.length ls) cap ∧ AuthsAt W a ls ∧ AuthsBd ls := by
  obtain ⟨va, vl, vc, rfl⟩ := okWide_slice ht hv
  obtain ⟨fuel, h1⟩ := h
  exact auths_open ht he ce o0 o1 o2 o3 o4 o5 c0 c1 c2 c3 c4 c5 u0 u1 u2 u3 u4 u5 h1
end

end Go.Proofs.Ytkdodamdjajbiaa
