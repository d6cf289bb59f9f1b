/- Appending a slice of ints, which may be nil, onto a row of one's own; the program's join at one list of ints. -/
import Derived.Test.YtlhdpbbgmjfbkaaIntsOwn
import Derived.Lib.AppendZeros
import Derived.Maps.AppendAt
namespace Go.Proofs.Ytlhdpbbgmjfbkaa
open Go.RowKit
set_option maxRecDepth 100000

theorem ints_news {w : World} {a : Addr} {zs : List Int} (h : IntsAt w (some a) zs) : ∀ j u, (zs.map (Value.int .i64))[j]? = some u → w.cell? (a.add j) = some u := by
  intro j u hj
  have hl : j < zs.length := by
    rcases Nat.lt_or_ge j zs.length with h' | h'
    · exact h'
    · rw [List.getElem?_eq_none (by simpa using h')] at hj; cases hj
  rcases h with h | ⟨b, off, h1, h2, h3⟩
  · rw [h] at hl; simp at hl
  · injection h1 with h1
    subst h1
    have e := h3 j hl
    have hu : u = .int .i64 (zs.getD j 0) := by
      rw [List.getElem?_map, List.getElem?_eq_getElem hl] at hj
      simp at hj
      rw [← hj]
      simp [List.getD_eq_getElem?_getD, hl]
    rw [hu]
    by_cases e0 : j = 0
    · subst e0; simpa [Addr.add] using e
    · simpa [Addr.add, e0] using e
theorem intv_one (zs : List Int) : ∀ u ∈ zs.map (Value.int .i64), u.oneCell' = true := by
  intro u hu
  simp at hu
  obtain ⟨x, _, rfl⟩ := hu
  rfl
theorem run_append_intsAt (w : World) (base : Nat) (ty : TypeId) (v : Value) (n : Nat) (cs : List Value) (hown : w.ownsRow base 3 1 v n cs) (ao : Option Addr) (c : Nat) (zs : List Int) (hz : IntsAt w ao zs)
    (hn : n + zs.length ≤ 4000000) (hbase : base ≤ w.heap.size) :
    ∃ v' w', (Builtin.append_ #[22, 22] ty #[v, .slice ao zs.length c]).run Try.prog w = .ok v' w' ∧ w'.ownsRow base 3 1 v' (n + zs.length) (cs ++ zs.map (Value.int .i64)) ∧ w.grownBy w' v.ownBlock := by
  obtain ⟨i0, hi, hz0, hz1, hz2⟩ := info_parts info3
  cases ao with
  | none =>
    have hf : zs = [] := by
      rcases hz with h | ⟨b, off, h, _⟩
      · exact h
      · cases h
    subst hf
    refine ⟨v, w, ?_, by simpa using hown, ⟨rfl, rfl, rfl, Nat.le_refl _, fun _ _ _ => rfl⟩⟩
    have hu := Try.underlying22
    rcases hown.2 with ⟨rfl, rfl⟩ | ⟨g, cap, cur, rfl, hbg, hg, hnc, hcm, hcs, htake⟩
    · simp [Builtin.append_, run_underlying hu, sizeOf, typeInfo, hi, Builtin.lenOf, Builtin.firstCells]
    · simp [Builtin.append_, run_underlying hu, sizeOf, typeInfo, hi, Builtin.lenOf, Builtin.firstCells, loadCells, hnc, storeCells]
  | some a =>
    obtain ⟨v', w', h1, h2, h3, _, _⟩ := run_append_own_at (P := Try.prog) w base 22 ty 3 i0 _ 1 8 Try.underlying22 hi hz0 hz1 hz2 rfl (by decide) v n cs hown a zs.length c (zs.map (Value.int .i64)) (by simp) (ints_news hz) (intv_one zs) (by unfold maxLen; omega) (by omega) hbase
    exact ⟨v', w', h1, h2, h3⟩
theorem wpList_append_intsAt {ops : Array Oper} {rest : List Oper} {o : Oper} {a : Act} {Q : Exit → Act → World → Prop} (w : World) (hgd : o.guard = none) (s x : Operand)
    (ho : o.op = .call { callee := .builtin .append, args := #[s, x], argTypes := #[22, 22] }) (base : Nat) (v : Value) (n : Nat) (cs : List Value) (hs : a.eval s = v) (hown : w.ownsRow base 3 1 v n cs)
    (ao : Option Addr) (c : Nat) (zs : List Int) (hx : a.eval x = .slice ao zs.length c) (hz : IntsAt w ao zs) (hn : n + zs.length ≤ 4000000) (hbase : base ≤ w.heap.size)
    (h : ∀ v' w', w'.ownsRow base 3 1 v' (n + zs.length) (cs ++ zs.map (Value.int .i64)) → w.grownBy w' v.ownBlock → wpList Try.prog ops Q rest (a.put o.dst v') w') :
    wpList Try.prog ops Q (o :: rest) a w := by
  refine wpList_plain hgd fun K hK => ?_
  obtain ⟨v', w', hr, h2, h3⟩ := run_append_intsAt w base o.type v n cs hown ao c zs hz hn hbase
  unfold Oper.wp execOp
  simp only [ho, resolve, invoke, builtin, Sem.run_bind, Sem.run_pure, Result.andThen_ok, List.map_toArray, List.map_cons, List.map_nil, hs, hx, hr]
  exact hK _ _ (h v' w' h2 h3)


end Go.Proofs.Ytlhdpbbgmjfbkaa
