/- Appending a slice of texts, which may be nil, onto a row of one's own; the program's join at two lists of texts. -/
import Derived.Test.YtkdodamdjajbiaaTxts
import Derived.Lib.AppendZeros
import Derived.Maps.AppendAt
namespace Go.Proofs.Ytkdodamdjajbiaa
open Go.RowKit
set_option maxRecDepth 100000

theorem txts_news {w : World} {a : Addr} {rs : Recs} (h : TxtsAt w (some a) rs) : ∀ j u, (scells rs)[j]? = some u → w.cell? (a.add j) = some u := by
  intro j u hj
  have hl : j < rs.length := by
    rcases Nat.lt_or_ge j rs.length with h' | h'
    · exact h'
    · rw [List.getElem?_eq_none (by rw [scells_len]; exact h')] at hj; cases hj
  rcases h with h | ⟨b, off, h1, h2, h3⟩
  · rw [h] at hl; simp at hl
  · injection h1 with h1
    subst h1
    have e := h3 j hl
    have hu : u = .string ⟨(nth rs j).toArray⟩ := by
      rw [scells_at rs j hl] at hj
      exact (Option.some.inj hj).symm
    rw [hu]
    by_cases e0 : j = 0
    · subst e0; simpa [Addr.add] using e
    · simpa [Addr.add, e0] using e
theorem run_append_txtsAt (w : World) (base : Nat) (ty : TypeId) (v : Value) (n : Nat) (cs : List Value) (hown : w.ownsRow base 9 1 v n cs) (ao : Option Addr) (c : Nat) (rs : Recs) (hz : TxtsAt w ao rs)
    (hn : n + rs.length ≤ 4000000) (hbase : base ≤ w.heap.size) :
    ∃ v' w', (Builtin.append_ #[28, 28] ty #[v, .slice ao rs.length c]).run Try.prog w = .ok v' w' ∧ w'.ownsRow base 9 1 v' (n + rs.length) (cs ++ scells rs) ∧ w.grownBy w' v.ownBlock := by
  obtain ⟨i0, hi, hz0, hz1, hz2⟩ := info_parts infoS
  cases ao with
  | none =>
    have hf : rs = [] := by
      rcases hz with h | ⟨b, off, h, _⟩
      · exact h
      · cases h
    subst hf
    refine ⟨v, w, ?_, by simpa [scells] using hown, ⟨rfl, rfl, rfl, Nat.le_refl _, fun _ _ _ => rfl⟩⟩
    have hu := Try.underlying28
    rcases hown.2 with ⟨rfl, rfl⟩ | ⟨g, cap, cur, rfl, hbg, hg, hnc, hcm, hcs, htake⟩
    · simp [Builtin.append_, run_underlying hu, sizeOf, typeInfo, hi, Builtin.lenOf, Builtin.firstCells]
    · simp [Builtin.append_, run_underlying hu, sizeOf, typeInfo, hi, Builtin.lenOf, Builtin.firstCells, loadCells, hnc, storeCells]
  | some a =>
    obtain ⟨v', w', h1, h2, h3, _, _⟩ := run_append_own_at (P := Try.prog) w base 28 ty 9 i0 _ 1 16 Try.underlying28 hi hz0 hz1 hz2 rfl (by decide) v n cs hown a rs.length c (scells rs) (by simp [scells_len]) (txts_news hz) (scells_one rs) (by unfold maxLen; omega) (by omega) hbase
    exact ⟨v', w', h1, h2, h3⟩
theorem wpList_append_txtsAt {ops : Array Oper} {rest : List Oper} {o : Oper} {a : Act} {Q : Exit → Act → World → Prop} (w : World) (hgd : o.guard = none) (s x : Operand)
    (ho : o.op = .call { callee := .builtin .append, args := #[s, x], argTypes := #[28, 28] }) (base : Nat) (v : Value) (n : Nat) (cs : List Value) (hs : a.eval s = v) (hown : w.ownsRow base 9 1 v n cs)
    (ao : Option Addr) (c : Nat) (rs : Recs) (hx : a.eval x = .slice ao rs.length c) (hz : TxtsAt w ao rs) (hn : n + rs.length ≤ 4000000) (hbase : base ≤ w.heap.size)
    (h : ∀ v' w', w'.ownsRow base 9 1 v' (n + rs.length) (cs ++ scells rs) → w.grownBy w' v.ownBlock → wpList Try.prog ops Q rest (a.put o.dst v') w') :
    wpList Try.prog ops Q (o :: rest) a w := by
  refine wpList_plain hgd fun K hK => ?_
  obtain ⟨v', w', hr, h2, h3⟩ := run_append_txtsAt w base o.type v n cs hown ao c rs hz hn hbase
  unfold Oper.wp execOp
  simp only [ho, resolve, invoke, builtin, Sem.run_bind, Sem.run_pure, Result.andThen_ok, List.map_toArray, List.map_cons, List.map_nil, hs, hx, hr]
  exact hK _ _ (h v' w' h2 h3)

set_option maxHeartbeats 3200000 in
theorem joinS2_any (g : Nat) (a1 a2 : Option Addr) (c1 c2 : Nat) (rs ss : Recs) (w : World) (h1 : w.cell? ⟨g, 0, none⟩ = some (.slice a1 rs.length c1)) (h2 : w.cell? ⟨g, 1, none⟩ = some (.slice a2 ss.length c2)) (hz : TxtsAt w a1 rs) (hy : TxtsAt w a2 ss) (hn : rs.length + ss.length ≤ 1048577) :
    Calls Try.prog 70 #[.slice (some ⟨g, 0, none⟩) 2 2] w fun e w' => ∃ a k, e = .returned (.slice a (rs ++ ss).length k) ∧
      w'.ownsRow w.heap.size 9 1 (.slice a (rs ++ ss).length k) (rs ++ ss).length (scells (rs ++ ss)) ∧ Below w.heap.size w w' := by
  have HZ : Hid (TxtsAt w a1 rs) := hz
  have HY : Hid (TxtsAt w a2 ss) := hy
  clear hz hy
  go_enter Try.func70, Try.ntmps70
  go_wp2
  refine wp_loop_rounds 3 ?_
  rw [rounds_succ]
  go_wp2_with (at_builtin; refine wpList_append_txtsAt _ rfl (.tmp 12) (.tmp 13) rfl w.heap.size _ 0 [] rfl (World.ownsRow_nil _ _ _ _) a1 c1 rs rfl HZ.out (by omega) (Nat.le_refl _) ?_; intro v2 w2 o2 g2)
  have q2 : Below w.heap.size w w2 := (Below.refl _ _).grown g2 (Nat.le_refl _) (fun k hk => by cases hk)
  rw [Nat.zero_add, List.nil_append] at o2
  have HO2 : Hid (w2.ownsRow w.heap.size 9 1 v2 rs.length (scells rs)) := o2
  have h3 : w2.cell? ⟨g, 1, none⟩ = some (.slice a2 ss.length c2) := (q2.cell (p := ⟨g, 1, none⟩) (World.block_lt_of_cell? w _ h2)).trans h2
  have HB2 : Hid (Below w.heap.size w w2) := q2
  have HY2 : Hid (TxtsAt w2 a2 ss) := HY.out.below q2
  have HLT : Hid (∀ j, v2.ownBlock = some j → w.heap.size ≤ j) := fun j hj => (o2.lt j hj).1
  have HSZ : Hid (w.heap.size ≤ w2.heap.size) := q2.size
  clear o2 g2 HZ HY h1 h2 q2
  go_wp2
  rw [rounds_succ]
  go_wp2_with (at_builtin; refine wpList_append_txtsAt _ rfl (.tmp 12) (.tmp 13) rfl w.heap.size _ rs.length (scells rs) rfl HO2.out a2 c2 ss rfl HY2.out (by omega) HSZ.out ?_; intro v3 w3 o3 g3)
  have q3 : Below w.heap.size w w3 := HB2.out.grown g3 HSZ.out HLT.out
  rw [← List.length_append, ← scells_append] at o3
  have HO3 : Hid (w3.ownsRow w.heap.size 9 1 v3 (rs ++ ss).length (scells (rs ++ ss))) := o3
  obtain ⟨a, k, hv, -, -⟩ := txts_of_own o3
  subst hv
  clear o3 g3 HY2 HO2 h3 HB2
  go_wp2
  rw [rounds_succ]
  go_wp2
  go_ret
  exact ⟨a, k, rfl, HO3.out, q3⟩

end Go.Proofs.Ytkdodamdjajbiaa
