/- Cases and slices of them: those that came in, and rows of one's own. -/
import Derived.Test.YtkdodamdjajbiaaCLaw
import Derived.Test.YtkdodamdjajbiaaLns
import Derived.Lib.AppendZeros
namespace Go.Proofs.Ytkdodamdjajbiaa
open Go.ChangeShapes Go.WideShapes Go.ChangeAt Go.RowKit Go.Deep
set_option maxRecDepth 100000

def csAt (cs : List Cs) (k : Nat) : Cs := cs.getD k ⟨0, 0, 0, 0, 0, 0, 0, 0, 0, false, 0, 0⟩
theorem csAt_is {cs : List Cs} {k : Nat} (h : k < cs.length) : csAt cs k = cs[k] := by simp [csAt, List.getD_eq_getElem?_getD, h]
theorem csAt_mem {cs : List Cs} {k : Nat} (h : k < cs.length) : csAt cs k ∈ cs := by rw [csAt_is h]; exact List.getElem_mem h
/-- The slice of cases at 'ao' reads as 'cs' in w. -/
def CasesAt (w : World) (ao : Option Addr) (cs : List Cs) : Prop :=
  cs = [] ∨ ∃ b off, ao = some ⟨b, off, none⟩ ∧ b < w.heap.size ∧ ∀ i, i < cs.length → CB b (off + i * 12) (csAt cs i) w
def CasesBd (cs : List Cs) : Prop := cs.length ≤ maxLen ∧ ∀ x ∈ cs, csBd x
theorem CasesAt.below {w w' : World} {ao : Option Addr} {cs : List Cs} (h : CasesAt w ao cs) (hb : Below w.heap.size w w') : CasesAt w' ao cs := by
  rcases h with h | ⟨b, off, h1, h2, h3⟩
  · exact .inl h
  · exact .inr ⟨b, off, h1, Nat.lt_of_lt_of_le h2 hb.size, fun i hi => (h3 i hi).below hb⟩
theorem CasesAt.at {w : World} {ao : Option Addr} {cs : List Cs} (h : CasesAt w ao cs) {k : Nat} (hk : k < cs.length) : ∃ b off, ao = some ⟨b, off, none⟩ ∧ b < w.heap.size ∧ CB b (off + k * 12) (csAt cs k) w := by
  rcases h with rfl | ⟨b, off, h1, h2, h3⟩
  · simp at hk
  · exact ⟨b, off, h1, h2, h3 k hk⟩

section
variable {P : Program} {H : Type} {enc : TypeId × Value → H} {W : World}
theorem cases_open {t e : TypeId} {f0 f1 f2 f3 f4 f5 f6 f7 f8 f9 f10 f11 : Field} {fuel : Nat} {y : Value} {x : DataW H × List MemPlace} (ht : P.underlying t = some (.slice e)) (he : P.underlying e = some (.struct #[f0, f1, f2, f3, f4, f5, f6, f7, f8, f9, f10, f11])) (ce : P.cellsOf e = 12) (o0 : f0.offset = 0) (o1 : f1.offset = 1) (o2 : f2.offset = 2) (o3 : f3.offset = 3) (o4 : f4.offset = 4) (o5 : f5.offset = 5) (o6 : f6.offset = 6) (o7 : f7.offset = 7) (o8 : f8.offset = 8) (o9 : f9.offset = 9) (o10 : f10.offset = 10) (o11 : f11.offset = 11)
    (c0 : P.cellsOf f0.type = 1) (c1 : P.cellsOf f1.type = 1) (c2 : P.cellsOf f2.type = 1) (c3 : P.cellsOf f3.type = 1) (c4 : P.cellsOf f4.type = 1) (c5 : P.cellsOf f5.type = 1) (c6 : P.cellsOf f6.type = 1) (c7 : P.cellsOf f7.type = 1) (c8 : P.cellsOf f8.type = 1) (c9 : P.cellsOf f9.type = 1) (c10 : P.cellsOf f10.type = 1) (c11 : P.cellsOf f11.type = 1) (u0 : P.underlying f0.type = some (.int .i64)) (u1 : P.underlying f1.type = some (.int .i64)) (u2 : P.underlying f2.type = some (.int .i64)) (u3 : P.underlying f3.type = some (.int .i64)) (u4 : P.underlying f4.type = some (.int .i64)) (u5 : P.underlying f5.type = some (.int .i64)) (u6 : P.underlying f6.type = some (.int .i64)) (u7 : P.underlying f7.type = some (.int .i64)) (u8 : P.underlying f8.type = some (.int .i64)) (u9 : P.underlying f9.type = some .bool) (u10 : P.underlying f10.type = some (.int .i64)) (u11 : P.underlying f11.type = some (.int .i64))
    (h : DataW.trod enc P W 0 (fun _ => true) true fuel t [y] = some x) : ∃ a cap ls, y = .slice a (List.length ls) cap ∧ CasesAt W a ls ∧ CasesBd ls := by
  rcases open_slice ht h with ⟨e1, _⟩ | ⟨a, len, cap, m, n, D, Pl, e1, hb, hlc, hm, hmm, _, hx⟩
  · simp at e1
    exact ⟨none, 0, [], by rw [e1]; rfl, .inl rfl, Nat.zero_le _, fun f hf => by cases hf⟩
  · simp at e1 hmm
    subst hmm
    haveI : Inhabited Cs := ⟨⟨0, 0, 0, 0, 0, 0, 0, 0, 0, false, 0, 0⟩⟩
    obtain ⟨F, hF⟩ := choose_lt (α := Cs) (n := m) (p := fun i l => W.cells? 0 (a.add (i * P.cellsOf e)) (P.cellsOf e) = some (ccs l).toList ∧ csBd l) (fun i hi => by
      obtain ⟨cs', g1, g2⟩ := hx i hi
      obtain ⟨l, hl, hl2⟩ := cells_case he ce o0 o1 o2 o3 o4 o5 o6 o7 o8 o9 o10 o11 c0 c1 c2 c3 c4 c5 c6 c7 c8 c9 c10 c11 u0 u1 u2 u3 u4 u5 u6 u7 u8 u9 u10 u11 g2
      exact ⟨l, by rw [g1, hl]; rfl, hl2⟩)
    refine ⟨some a, m, (List.range len).map F, by rw [e1]; simp, ?_, by rw [List.length_map, List.length_range]; exact Nat.le_trans hlc hm, fun f hf => by
      obtain ⟨i, hi, rfl⟩ := List.mem_map.1 hf
      exact (hF i (by have := List.mem_range.1 hi; omega)).2⟩
    by_cases hz : len = 0
    · subst hz; exact .inl rfl
    · have each : ∀ i, i < len → ∀ j v, ((ccs (F i)).toList)[j]? = some v → W.cell? ((a.add (i * 12)).add j) = some v := fun i hi j v hv => by
        have g := (hF i (by omega)).1
        rw [ce] at g
        obtain ⟨_, _, hcell⟩ := World.cells?_some g
        have := hcell j (by have := (List.getElem?_eq_some_iff.1 hv).1; simpa [ccs] using this)
        rw [this]; simpa using hv
      obtain ⟨bk, off, spot⟩ := a
      have hc0 := each 0 (by omega) 0 _ rfl
      have hspot : spot = none := by simpa [Addr.add] using World.cell?_spot hc0
      subst hspot
      refine .inr ⟨bk, off, rfl, ?_, fun i hi => ?_⟩
      · have := World.block_lt_of_cell? W _ hc0
        simpa [add_at3] using this
      · have hi' : i < len := by simpa using hi
        have hat : csAt ((List.range len).map F) i = F i := by simp [csAt, List.getD_eq_getElem?_getD, hi']
        rw [hat]
        have g0 := each i hi' 0 _ rfl
        have g1 := each i hi' 1 _ rfl
        have g2 := each i hi' 2 _ rfl
        have g3 := each i hi' 3 _ rfl
        have g4 := each i hi' 4 _ rfl
        have g5 := each i hi' 5 _ rfl
        have g6 := each i hi' 6 _ rfl
        have g7 := each i hi' 7 _ rfl
        have g8 := each i hi' 8 _ rfl
        have g9 := each i hi' 9 _ rfl
        have g10 := each i hi' 10 _ rfl
        have g11 := each i hi' 11 _ rfl
        rw [add_at3] at g0 g1 g2 g3 g4 g5 g6 g7 g8 g9 g10 g11
        exact ⟨g0, g1, g2, g3, g4, g5, g6, g7, g8, g9, g10, g11⟩
/-- a slice of cases that came in -/
theorem is_cases {r : Reach} {base : Nat} {t e : TypeId} {f0 f1 f2 f3 f4 f5 f6 f7 f8 f9 f10 f11 : Field} {v : Value} {d : DataW H} {p : List MemPlace} (ht : P.underlying t = some (.slice e)) (he : P.underlying e = some (.struct #[f0, f1, f2, f3, f4, f5, f6, f7, f8, f9, f10, f11])) (ce : P.cellsOf e = 12) (o0 : f0.offset = 0) (o1 : f1.offset = 1) (o2 : f2.offset = 2) (o3 : f3.offset = 3) (o4 : f4.offset = 4) (o5 : f5.offset = 5) (o6 : f6.offset = 6) (o7 : f7.offset = 7) (o8 : f8.offset = 8) (o9 : f9.offset = 9) (o10 : f10.offset = 10) (o11 : f11.offset = 11)
    (c0 : P.cellsOf f0.type = 1) (c1 : P.cellsOf f1.type = 1) (c2 : P.cellsOf f2.type = 1) (c3 : P.cellsOf f3.type = 1) (c4 : P.cellsOf f4.type = 1) (c5 : P.cellsOf f5.type = 1) (c6 : P.cellsOf f6.type = 1) (c7 : P.cellsOf f7.type = 1) (c8 : P.cellsOf f8.type = 1) (c9 : P.cellsOf f9.type = 1) (c10 : P.cellsOf f10.type = 1) (c11 : P.cellsOf f11.type = 1) (u0 : P.underlying f0.type = some (.int .i64)) (u1 : P.underlying f1.type = some (.int .i64)) (u2 : P.underlying f2.type = some (.int .i64)) (u3 : P.underlying f3.type = some (.int .i64)) (u4 : P.underlying f4.type = some (.int .i64)) (u5 : P.underlying f5.type = some (.int .i64)) (u6 : P.underlying f6.type = some (.int .i64)) (u7 : P.underlying f7.type = some (.int .i64)) (u8 : P.underlying f8.type = some (.int .i64)) (u9 : P.underlying f9.type = some .bool) (u10 : P.underlying f10.type = some (.int .i64)) (u11 : P.underlying f11.type = some (.int .i64))
    (hv : Value.okWide P W r base t v) (h : DataW.Trod enc P W 0 (fun _ => true) true t v d p) : ∃ a cap ls, v = .slice a (List.length ls) cap ∧ CasesAt W a ls ∧ CasesBd ls := by
  obtain ⟨va, vl, vc, rfl⟩ := okWide_slice ht hv
  obtain ⟨fuel, h1⟩ := h
  exact cases_open ht he ce o0 o1 o2 o3 o4 o5 o6 o7 o8 o9 o10 o11 c0 c1 c2 c3 c4 c5 c6 c7 c8 c9 c10 c11 u0 u1 u2 u3 u4 u5 u6 u7 u8 u9 u10 u11 h1
end

def cscells (cs : List Cs) : List Value := cs.flatMap fun c => (ccs c).toList
theorem cscells_cons (c : Cs) (r : List Cs) : cscells (c :: r) = (ccs c).toList ++ cscells r := rfl
theorem cscells_append (a b : List Cs) : cscells (a ++ b) = cscells a ++ cscells b := by simp [cscells]
theorem cscells_len (cs : List Cs) : (cscells cs).length = cs.length * 12 := by
  induction cs with
  | nil => rfl
  | cons c r ih => rw [cscells_cons, List.length_append, ih]; simp [ccs]; omega
theorem cscells_at (cs : List Cs) : ∀ (k j : Nat), k < cs.length → j < 12 → (cscells cs)[k * 12 + j]? = (ccs (csAt cs k)).toList[j]? := by
  induction cs with
  | nil => intro k j h; simp at h
  | cons c r ih =>
    intro k j hk hj
    rw [cscells_cons]
    cases k with
    | zero =>
      rw [List.getElem?_append_left (by simp [ccs]; omega)]
      simp [csAt]
    | succ k =>
      have hl : (ccs c).toList.length = 12 := by simp [ccs]
      rw [List.getElem?_append_right (by rw [hl]; omega), hl, show (k + 1) * 12 + j - 12 = k * 12 + j by omega, ih k j (by simpa using hk) hj]
      simp [csAt]
theorem cscells_one (cs : List Cs) : ∀ u ∈ cscells cs, u.oneCell' = true := by
  intro u hu
  simp [cscells, ccs] at hu
  obtain ⟨c, _, h⟩ := hu
  rcases h with rfl | rfl | rfl | rfl | rfl | rfl | rfl | rfl | rfl | rfl | rfl | rfl <;> rfl
/-- a row of cases of one's own, read -/
theorem cases_own {w : World} {base n : Nat} {t : TypeId} {ao : Option Addr} {cap : Nat} {cs : List Cs} (h : w.ownsRow base t 12 (.slice ao n cap) n (cscells cs)) : CasesAt w ao cs := by
  rcases h.2 with ⟨hv, h0⟩ | ⟨g, cap', cur, hv, hrest⟩
  · have hl := h.1
    obtain ⟨rfl, rfl, rfl⟩ : ao = none ∧ n = 0 ∧ cap = 0 := by simpa using hv
    rw [cscells_len] at hl
    exact .inl (List.length_eq_zero_iff.1 (by omega))
  · have hl := h.1
    rw [cscells_len] at hl
    obtain ⟨rfl, rfl⟩ : ao = some ⟨g, 0, none⟩ ∧ cap = cap' := by simpa using hv
    by_cases hz : cs = []
    · exact .inl hz
    · have hlt := (h.lt g rfl).2
      refine .inr ⟨g, 0, rfl, hlt, fun i hi => ?_⟩
      have e : ∀ j, j < 12 → w.cell? ⟨g, 0 + i * 12 + j, none⟩ = (ccs (csAt cs i)).toList[j]? := fun j hj => by
        rw [Nat.zero_add, h.cellAt (i * 12 + j) (by omega), cscells_at cs i j hi hj]
      exact ⟨e 0 (by omega), e 1 (by omega), e 2 (by omega), e 3 (by omega), e 4 (by omega), e 5 (by omega), e 6 (by omega), e 7 (by omega), e 8 (by omega), e 9 (by omega), e 10 (by omega), e 11 (by omega)⟩

end Go.Proofs.Ytkdodamdjajbiaa
