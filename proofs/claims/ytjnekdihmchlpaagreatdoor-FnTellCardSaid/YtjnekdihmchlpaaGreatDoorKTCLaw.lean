/- A case and an act that come in; the laws' own copies and comparisons of them. -/
import Derived.Test.YtjnekdihmchlpaaGreatDoorJT1a
import Derived.Test.YtjnekdihmchlpaaGreatDoorJT3a
namespace Go.Proofs.YtjnekdihmchlpaaGreatDoor
open Go.ChangeShapes Go.WideShapes Go.ChangeAt Go.RowKit
set_option maxRecDepth 100000

/-- the numbers of a case fit -/
def csBd (c : Cs) : Prop := wf64 c.iss ∧ wf64 c.acq ∧ wf64 c.cur ∧ wf64 c.am ∧ wf64 c.st ∧ wf64 c.rsn ∧ wf64 c.cl ∧ wf64 c.bk ∧ wf64 c.fee ∧ wf64 c.sta ∧ wf64 c.due
def acBd (a : Ac) : Prop := wf64 a.kind ∧ wf64 a.am ∧ wf64 a.rsn
def av (a : Ac) : Value := .agg #[.int .i64 a.kind, .int .i64 a.am, .int .i64 a.rsn]
section
variable {P : Program} {H : Type} {enc : TypeId × Value → H} {W : World}
set_option maxHeartbeats 1600000 in
theorem cells_case {t : TypeId} {f0 f1 f2 f3 f4 f5 f6 f7 f8 f9 f10 f11 : Field} {fuel : Nat} {cs : List Value} {x : DataW H × List MemPlace} (he : P.underlying t = some (.struct #[f0, f1, f2, f3, f4, f5, f6, f7, f8, f9, f10, f11])) (ce : P.cellsOf t = 12) (o0 : f0.offset = 0) (o1 : f1.offset = 1) (o2 : f2.offset = 2) (o3 : f3.offset = 3) (o4 : f4.offset = 4) (o5 : f5.offset = 5) (o6 : f6.offset = 6) (o7 : f7.offset = 7) (o8 : f8.offset = 8) (o9 : f9.offset = 9) (o10 : f10.offset = 10) (o11 : f11.offset = 11)
    (c0 : P.cellsOf f0.type = 1) (c1 : P.cellsOf f1.type = 1) (c2 : P.cellsOf f2.type = 1) (c3 : P.cellsOf f3.type = 1) (c4 : P.cellsOf f4.type = 1) (c5 : P.cellsOf f5.type = 1) (c6 : P.cellsOf f6.type = 1) (c7 : P.cellsOf f7.type = 1) (c8 : P.cellsOf f8.type = 1) (c9 : P.cellsOf f9.type = 1) (c10 : P.cellsOf f10.type = 1) (c11 : P.cellsOf f11.type = 1)
    (u0 : P.underlying f0.type = some (.int .i64)) (u1 : P.underlying f1.type = some (.int .i64)) (u2 : P.underlying f2.type = some (.int .i64)) (u3 : P.underlying f3.type = some (.int .i64)) (u4 : P.underlying f4.type = some (.int .i64)) (u5 : P.underlying f5.type = some (.int .i64)) (u6 : P.underlying f6.type = some (.int .i64)) (u7 : P.underlying f7.type = some (.int .i64)) (u8 : P.underlying f8.type = some (.int .i64)) (u9 : P.underlying f9.type = some .bool) (u10 : P.underlying f10.type = some (.int .i64)) (u11 : P.underlying f11.type = some (.int .i64))
    (h : DataW.trod enc P W 0 (fun _ => true) true fuel t cs = some x) : ∃ c : Cs, cs = [.int .i64 c.iss, .int .i64 c.acq, .int .i64 c.cur, .int .i64 c.am, .int .i64 c.st, .int .i64 c.rsn, .int .i64 c.cl, .int .i64 c.bk, .int .i64 c.fee, .bool c.cop, .int .i64 c.sta, .int .i64 c.due] ∧ csBd c := by
  obtain ⟨xs, n, _, _, hl, hxl, hf⟩ := DataW.trod_struct he h
  rw [ce] at hl
  match xs, hxl, cs, hl with
  | [y0, y1, y2, y3, y4, y5, y6, y7, y8, y9, y10, y11], _, [a0, a1, a2, a3, a4, a5, a6, a7, a8, a9, a10, a11], _ =>
    have h0 := hf 0 f0 rfl
    have h1 := hf 1 f1 rfl
    have h2 := hf 2 f2 rfl
    have h3 := hf 3 f3 rfl
    have h4 := hf 4 f4 rfl
    have h5 := hf 5 f5 rfl
    have h6 := hf 6 f6 rfl
    have h7 := hf 7 f7 rfl
    have h8 := hf 8 f8 rfl
    have h9 := hf 9 f9 rfl
    have h10 := hf 10 f10 rfl
    have h11 := hf 11 f11 rfl
    simp [o0, c0] at h0
    simp [o1, c1] at h1
    simp [o2, c2] at h2
    simp [o3, c3] at h3
    simp [o4, c4] at h4
    simp [o5, c5] at h5
    simp [o6, c6] at h6
    simp [o7, c7] at h7
    simp [o8, c8] at h8
    simp [o9, c9] at h9
    simp [o10, c10] at h10
    simp [o11, c11] at h11
    obtain ⟨z0, q0, _, r0⟩ := DataW.trod_int u0 h0
    obtain ⟨z1, q1, _, r1⟩ := DataW.trod_int u1 h1
    obtain ⟨z2, q2, _, r2⟩ := DataW.trod_int u2 h2
    obtain ⟨z3, q3, _, r3⟩ := DataW.trod_int u3 h3
    obtain ⟨z4, q4, _, r4⟩ := DataW.trod_int u4 h4
    obtain ⟨z5, q5, _, r5⟩ := DataW.trod_int u5 h5
    obtain ⟨z6, q6, _, r6⟩ := DataW.trod_int u6 h6
    obtain ⟨z7, q7, _, r7⟩ := DataW.trod_int u7 h7
    obtain ⟨z8, q8, _, r8⟩ := DataW.trod_int u8 h8
    obtain ⟨z9, q9, _⟩ := DataW.trod_bool u9 h9
    obtain ⟨z10, q10, _, r10⟩ := DataW.trod_int u10 h10
    obtain ⟨z11, q11, _, r11⟩ := DataW.trod_int u11 h11
    simp at q0 q1 q2 q3 q4 q5 q6 q7 q8 q9 q10 q11
    exact ⟨⟨z0, z1, z2, z3, z4, z5, z6, z7, z8, z9, z10, z11⟩, by rw [q0, q1, q2, q3, q4, q5, q6, q7, q8, q9, q10, q11], r0, r1, r2, r3, r4, r5, r6, r7, r8, r10, r11⟩
theorem is_case {r : Reach} {base : Nat} {t : TypeId} {f0 f1 f2 f3 f4 f5 f6 f7 f8 f9 f10 f11 : Field} {v : Value} {d : DataW H} {p : List MemPlace} (he : P.underlying t = some (.struct #[f0, f1, f2, f3, f4, f5, f6, f7, f8, f9, f10, f11])) (ce : P.cellsOf t = 12) (o0 : f0.offset = 0) (o1 : f1.offset = 1) (o2 : f2.offset = 2) (o3 : f3.offset = 3) (o4 : f4.offset = 4) (o5 : f5.offset = 5) (o6 : f6.offset = 6) (o7 : f7.offset = 7) (o8 : f8.offset = 8) (o9 : f9.offset = 9) (o10 : f10.offset = 10) (o11 : f11.offset = 11)
    (c0 : P.cellsOf f0.type = 1) (c1 : P.cellsOf f1.type = 1) (c2 : P.cellsOf f2.type = 1) (c3 : P.cellsOf f3.type = 1) (c4 : P.cellsOf f4.type = 1) (c5 : P.cellsOf f5.type = 1) (c6 : P.cellsOf f6.type = 1) (c7 : P.cellsOf f7.type = 1) (c8 : P.cellsOf f8.type = 1) (c9 : P.cellsOf f9.type = 1) (c10 : P.cellsOf f10.type = 1) (c11 : P.cellsOf f11.type = 1)
    (u0 : P.underlying f0.type = some (.int .i64)) (u1 : P.underlying f1.type = some (.int .i64)) (u2 : P.underlying f2.type = some (.int .i64)) (u3 : P.underlying f3.type = some (.int .i64)) (u4 : P.underlying f4.type = some (.int .i64)) (u5 : P.underlying f5.type = some (.int .i64)) (u6 : P.underlying f6.type = some (.int .i64)) (u7 : P.underlying f7.type = some (.int .i64)) (u8 : P.underlying f8.type = some (.int .i64)) (u9 : P.underlying f9.type = some .bool) (u10 : P.underlying f10.type = some (.int .i64)) (u11 : P.underlying f11.type = some (.int .i64))
    (hv : Value.okWide P W r base t v) (h : DataW.Trod enc P W 0 (fun _ => true) true t v d p) : ∃ c : Cs, v = cv c ∧ csBd c := by
  obtain ⟨cs, rfl, _⟩ := okWide_struct he hv
  obtain ⟨fuel, hf⟩ := h
  obtain ⟨l, e1, e2⟩ := cells_case he ce o0 o1 o2 o3 o4 o5 o6 o7 o8 o9 o10 o11 c0 c1 c2 c3 c4 c5 c6 c7 c8 c9 c10 c11 u0 u1 u2 u3 u4 u5 u6 u7 u8 u9 u10 u11 hf
  simp only [Value.cells] at e1
  obtain ⟨cl⟩ := cs
  simp only at e1
  subst e1
  exact ⟨l, rfl, e2⟩
theorem is_act {r : Reach} {base : Nat} {t : TypeId} {f0 f1 f2 : Field} {v : Value} {d : DataW H} {p : List MemPlace} (he : P.underlying t = some (.struct #[f0, f1, f2])) (ce : P.cellsOf t = 3) (o0 : f0.offset = 0) (o1 : f1.offset = 1) (o2 : f2.offset = 2)
    (c0 : P.cellsOf f0.type = 1) (c1 : P.cellsOf f1.type = 1) (c2 : P.cellsOf f2.type = 1) (u0 : P.underlying f0.type = some (.int .i64)) (u1 : P.underlying f1.type = some (.int .i64)) (u2 : P.underlying f2.type = some (.int .i64))
    (hv : Value.okWide P W r base t v) (h : DataW.Trod enc P W 0 (fun _ => true) true t v d p) : ∃ a : Ac, v = av a ∧ acBd a := by
  obtain ⟨cs, rfl, _⟩ := okWide_struct he hv
  obtain ⟨fuel, hf⟩ := h
  obtain ⟨l, e1, e2⟩ := ints3 he ce o0 o1 o2 c0 c1 c2 u0 u1 u2 hf
  simp only [Value.cells] at e1
  obtain ⟨cl⟩ := cs
  simp only at e1
  subst e1
  exact ⟨⟨l.1, l.2.1, l.2.2⟩, rfl, e2⟩
end


end Go.Proofs.YtjnekdihmchlpaaGreatDoor
