/- Appending a slice of texts, which may be nil, onto a row of one's own; the program's join at two lists of texts. -/
import Derived.Test.YtpenkpiffdbdmaaGreatDoorJS1a
namespace Go.Proofs.YtpenkpiffdbdmaaGreatDoor
open Go.RowKit
set_option maxRecDepth 100000

theorem txts_news {w : World} {a : Addr} {rs : Recs} (h : TxtsAt w (some a) rs) : ∀ j u, (scells rs)[j]? = some u → w.cell? (a.add j) = some u := by
  intro j u hj
  have hl : j < rs.length := by
    rcases Nat.lt_or_ge j rs.length with h' | h'
    · exact h'
    · rw [List.getElem?_eq_none (by rw [scells_len]; exact h')] at hj; cases hj
  rcases h with h | ⟨b, off, h1, h2, h3⟩
  · rw [h] at hl; simp at hl
  · injection h1 with h1
    subst h1
    have e := h3 j hl
    have hu : u = .string ⟨(nth rs j).toArray⟩ := by
      rw [scells_at rs j hl] at hj
      exact (Option.some.inj hj).symm
    rw [hu]
    by_cases e0 : j = 0
    · subst e0; rw [Addr.add, if_pos rfl]; exact e
    · rw [Addr.add, if_neg e0]; exact e
theorem run_append_txtsAt (w : World) (base : Nat) (ty : TypeId) (v : Value) (n : Nat) (cs : List Value) (hown : w.ownsRow base 9 1 v n cs) (ao : Option Addr) (c : Nat) (rs : Recs) (hz : TxtsAt w ao rs)
    (hn : n + rs.length ≤ 4000000) (hbase : base ≤ w.heap.size) :
    ∃ v' w', (Builtin.append_ #[40, 40] ty #[v, .slice ao rs.length c]).run Tryz.prog w = .ok v' w' ∧ w'.ownsRow base 9 1 v' (n + rs.length) (cs ++ scells rs) ∧ w.grownBy w' v.ownBlock := by
  obtain ⟨i0, hi, hz0, hz1, hz2⟩ := info_parts infoS
  cases ao with
  | none =>
    have hf : rs = [] := by
      rcases hz with h | ⟨b, off, h, _⟩
      · exact h
      · cases h
    subst hf
    refine ⟨v, w, ?_, by simpa [scells] using hown, ⟨rfl, rfl, rfl, Nat.le_refl _, fun _ _ _ => rfl⟩⟩
    have hu := Tryz.underlying40
    rcases hown.2 with ⟨rfl, rfl⟩ | ⟨g, cap, cur, rfl, hbg, hg, hnc, hcm, hcs, htake⟩
    · simp [Builtin.append_, run_underlying hu, sizeOf, typeInfo, hi, Builtin.lenOf, Builtin.firstCells]
    · simp [Builtin.append_, run_underlying hu, sizeOf, typeInfo, hi, Builtin.lenOf, Builtin.firstCells, loadCells, hnc, storeCells]
  | some a =>
    obtain ⟨v', w', h1, h2, h3, _, _⟩ := run_append_own_at (P := Tryz.prog) w base 40 ty 9 i0 _ 1 16 Tryz.underlying40 hi hz0 hz1 hz2 rfl (by decide) v n cs hown a rs.length c (scells rs) (by simp [scells_len]) (txts_news hz) (scells_one rs) (by unfold maxLen; omega) (by omega) hbase
    exact ⟨v', w', h1, h2, h3⟩
theorem wpList_append_txtsAt {ops : Array Oper} {rest : List Oper} {o : Oper} {a : Act} {Q : Exit → Act → World → Prop} (w : World) (hgd : o.guard = none) (s x : Operand)
    (ho : o.op = .call { callee := .builtin .append, args := #[s, x], argTypes := #[40, 40] }) (base : Nat) (v : Value) (n : Nat) (cs : List Value) (hs : a.eval s = v) (hown : w.ownsRow base 9 1 v n cs)
    (ao : Option Addr) (c : Nat) (rs : Recs) (hx : a.eval x = .slice ao rs.length c) (hz : TxtsAt w ao rs) (hn : n + rs.length ≤ 4000000) (hbase : base ≤ w.heap.size)
    (h : ∀ v' w', w'.ownsRow base 9 1 v' (n + rs.length) (cs ++ scells rs) → w.grownBy w' v.ownBlock → wpList Tryz.prog ops Q rest (a.put o.dst v') w') :
    wpList Tryz.prog ops Q (o :: rest) a w := by
  refine wpList_plain hgd fun K hK => ?_
  obtain ⟨v', w', hr, h2, h3⟩ := run_append_txtsAt w base o.type v n cs hown ao c rs hz hn hbase
  unfold Oper.wp execOp
  simp only [ho, resolve, invoke, builtin, Sem.run_bind, Sem.run_pure, Result.andThen_ok, List.map_toArray, List.map_cons, List.map_nil, hs, hx, hr]
  exact hK _ _ (h v' w' h2 h3)


end Go.Proofs.YtpenkpiffdbdmaaGreatDoor
