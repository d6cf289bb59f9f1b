/- A book that comes in: its six cells and what lies behind them. -/
import Derived.Test.YtkdodamdjajbiaaBkGen
namespace Go.Proofs.Ytkdodamdjajbiaa
open Go.ChangeShapes Go.WideShapes Go.ChangeAt Go.RowKit Go.Deep
set_option maxRecDepth 100000

/-- each part of a book is as great as a machine can hold -/
structure BkBd (b : Bk) : Prop where
  td : (Lit.int .i64 b.today).wf = true
  off : b.off.length ≤ maxLen ∧ ∀ z ∈ b.off, (Lit.int .i64 z).wf = true
  az : AuthsBd b.az
  cs : CasesBd b.cs
  ls : LinesBd b.ls
  log : TxtsBd b.log
section
variable {P : Program} {H : Type} {enc : TypeId × Value → H} {W : World}
theorem ints_open {t e : TypeId} {fuel : Nat} {y : Value} {x : DataW H × List MemPlace} (ht : P.underlying t = some (.slice e)) (he : P.underlying e = some (.int .i64)) (ce : P.cellsOf e = 1)
    (h : DataW.trod enc P W 0 (fun _ => true) true fuel t [y] = some x) : ∃ a cap zs, y = .slice a (List.length zs) cap ∧ IntsAt W a zs ∧ (zs.length ≤ maxLen ∧ ∀ z ∈ zs, (Lit.int .i64 z).wf = true) := by
  rcases open_ints ht he ce h with ⟨hcs, _⟩ | ⟨x, l, c, zs, hcs, _, hl, hm, hz, _, hcell, hwz⟩
  · simp at hcs
    exact ⟨none, 0, [], by rw [hcs]; rfl, .inl rfl, Nat.zero_le _, fun f hf => by cases hf⟩
  · simp at hcs
    have hr : IsRow .i64 W (some x) l c zs := .inr ⟨x, rfl, hl, hm, by simpa using hz, hcell, hwz⟩
    obtain ⟨e1, e2⟩ := ints_of_row hr
    exact ⟨some x, c, zs.take l, by rw [hcs, e1], e2, by rw [e1]; omega, fun z hz => hwz z (List.mem_of_mem_take hz)⟩
theorem txts_open {t e : TypeId} {fuel : Nat} {y : Value} {x : DataW H × List MemPlace} (ht : P.underlying t = some (.slice e)) (he : P.underlying e = some .string) (ce : P.cellsOf e = 1)
    (h : DataW.trod enc P W 0 (fun _ => true) true fuel t [y] = some x) : ∃ a cap rs, y = .slice a (List.length rs) cap ∧ TxtsAt W a rs ∧ TxtsBd rs := by
  rcases open_strs ht he ce h with ⟨e1, _⟩ | ⟨a, len, cap, m, Sx, e1, _, hlc, hm, hmm, _, hx⟩
  · simp at e1
    exact ⟨none, 0, [], by rw [e1]; rfl, .inl rfl, Nat.zero_le _, fun f hf => by cases hf⟩
  · simp at e1 hmm
    subst hmm
    refine ⟨some a, m, (List.range len).map fun i => (Sx i).data.toList, by rw [e1]; simp, ?_, by rw [List.length_map, List.length_range]; exact Nat.le_trans hlc hm, fun f hf => by
      obtain ⟨i, hi, rfl⟩ := List.mem_map.1 hf
      have := (hx i (by have := List.mem_range.1 hi; omega)).2
      rw [Array.length_toList]; exact this⟩
    by_cases hz : len = 0
    · subst hz; exact .inl rfl
    · obtain ⟨bk, off, spot⟩ := a
      have hc0 := (hx 0 (by omega)).1
      have hspot : spot = none := by simpa [Addr.add] using World.cell?_spot hc0
      subst hspot
      refine .inr ⟨bk, off, rfl, World.block_lt_of_cell? W _ hc0, fun i hi => ?_⟩
      have hi' : i < len := by simpa using hi
      have hat : nth ((List.range len).map fun i => (Sx i).data.toList) i = (Sx i).data.toList := by simp [nth, List.getD_eq_getElem?_getD, hi']
      have g0 := (hx i (by omega)).1
      rw [add_plain] at g0
      rw [hat, g0]
theorem ledger_open {t e : TypeId} {g0 f0 f1 f2 : Field} {fuel : Nat} {y : Value} {x : DataW H × List MemPlace} (hg : P.underlying t = some (.struct #[g0])) (og : g0.offset = 0) (cg0 : P.cellsOf g0.type = 1) (ht : P.underlying g0.type = some (.slice e))
    (he : P.underlying e = some (.struct #[f0, f1, f2])) (ce : P.cellsOf e = 3) (o0 : f0.offset = 0) (o1 : f1.offset = 1) (o2 : f2.offset = 2)
    (c0 : P.cellsOf f0.type = 1) (c1 : P.cellsOf f1.type = 1) (c2 : P.cellsOf f2.type = 1) (u0 : P.underlying f0.type = some (.int .i64)) (u1 : P.underlying f1.type = some (.int .i64)) (u2 : P.underlying f2.type = some (.int .i64))
    (h : DataW.trod enc P W 0 (fun _ => true) true fuel t [y] = some x) : ∃ a cap ls, y = .slice a (List.length ls) cap ∧ LinesAt W a ls ∧ LinesBd ls := by
  obtain ⟨y0, m, _, hl, h0⟩ := trod_struct1 hg h
  simp [og, cg0] at h0
  exact lines_open ht he ce o0 o1 o2 c0 c1 c2 u0 u1 u2 h0
theorem is_book {r : Reach} {base : Nat} {t : TypeId} {f0 f1 f2 f3 f4 f5 : Field} {v : Value} {d : DataW H} {p : List MemPlace} (he : P.underlying t = some (.struct #[f0, f1, f2, f3, f4, f5])) (ce : P.cellsOf t = 6) (o0 : f0.offset = 0) (o1 : f1.offset = 1) (o2 : f2.offset = 2) (o3 : f3.offset = 3) (o4 : f4.offset = 4) (o5 : f5.offset = 5)
    (c0 : P.cellsOf f0.type = 1) (c1 : P.cellsOf f1.type = 1) (c2 : P.cellsOf f2.type = 1) (c3 : P.cellsOf f3.type = 1) (c4 : P.cellsOf f4.type = 1) (c5 : P.cellsOf f5.type = 1) (u0 : P.underlying f0.type = some (.int .i64))
    (q1 : ∀ (fuel : Nat) (y : Value) (x : DataW H × List MemPlace), DataW.trod enc P W 0 (fun _ => true) true fuel f1.type [y] = some x → ∃ a cap ls, y = .slice a (List.length ls) cap ∧ IntsAt W a ls ∧ (ls.length ≤ maxLen ∧ ∀ z ∈ ls, (Lit.int .i64 z).wf = true))
    (q2 : ∀ (fuel : Nat) (y : Value) (x : DataW H × List MemPlace), DataW.trod enc P W 0 (fun _ => true) true fuel f2.type [y] = some x → ∃ a cap ls, y = .slice a (List.length ls) cap ∧ AuthsAt W a ls ∧ AuthsBd ls)
    (q3 : ∀ (fuel : Nat) (y : Value) (x : DataW H × List MemPlace), DataW.trod enc P W 0 (fun _ => true) true fuel f3.type [y] = some x → ∃ a cap ls, y = .slice a (List.length ls) cap ∧ CasesAt W a ls ∧ CasesBd ls)
    (q4 : ∀ (fuel : Nat) (y : Value) (x : DataW H × List MemPlace), DataW.trod enc P W 0 (fun _ => true) true fuel f4.type [y] = some x → ∃ a cap ls, y = .slice a (List.length ls) cap ∧ LinesAt W a ls ∧ LinesBd ls)
    (q5 : ∀ (fuel : Nat) (y : Value) (x : DataW H × List MemPlace), DataW.trod enc P W 0 (fun _ => true) true fuel f5.type [y] = some x → ∃ a cap ls, y = .slice a (List.length ls) cap ∧ TxtsAt W a ls ∧ TxtsBd ls)
    (hv : Value.okWide P W r base t v) (h : DataW.Trod enc P W 0 (fun _ => true) true t v d p) : ∃ b p, v = bkv b p ∧ BookAt W b p ∧ BkBd b := by
  obtain ⟨cs, rfl, _⟩ := okWide_struct he hv
  obtain ⟨fuel, hf0⟩ := h
  obtain ⟨xs, n, _, _, hl, hxl, hf⟩ := DataW.trod_struct he hf0
  simp only [Value.cells] at hl hf
  rw [ce] at hl
  obtain ⟨l⟩ := cs
  match xs, hxl, l, hl with
  | [y0, y1, y2, y3, y4, y5], _, [a0, a1, a2, a3, a4, a5], _ =>
    have h0 := hf 0 f0 rfl
    simp [o0, c0] at h0
    have h1 := hf 1 f1 rfl
    simp [o1, c1] at h1
    have h2 := hf 2 f2 rfl
    simp [o2, c2] at h2
    have h3 := hf 3 f3 rfl
    simp [o3, c3] at h3
    have h4 := hf 4 f4 rfl
    simp [o4, c4] at h4
    have h5 := hf 5 f5 rfl
    simp [o5, c5] at h5
    obtain ⟨z0, e0, _, r0⟩ := DataW.trod_int u0 h0
    simp at e0
    obtain ⟨p1, k1, l1, e1, i1, b1⟩ := q1 _ _ _ h1
    obtain ⟨p2, k2, l2, e2, i2, b2⟩ := q2 _ _ _ h2
    obtain ⟨p3, k3, l3, e3, i3, b3⟩ := q3 _ _ _ h3
    obtain ⟨p4, k4, l4, e4, i4, b4⟩ := q4 _ _ _ h4
    obtain ⟨p5, k5, l5, e5, i5, b5⟩ := q5 _ _ _ h5
    exact ⟨⟨z0, l1, l2, l3, l4, l5⟩, ⟨p1, k1, p2, k2, p3, k3, p4, k4, p5, k5⟩, by rw [e0, e1, e2, e3, e4, e5]; rfl, ⟨i1, i2, i3, i4, i5⟩, ⟨r0, b1, b2, b3, b4, b5⟩⟩
end

end Go.Proofs.Ytkdodamdjajbiaa
