/- append onto a row of one's own, of whatever list of tags, one that is nil too. -/
import Derived.Test.YtijlbceejpjfiaaDoorTagOwn
import Derived.Lib.AppendZeros
import Derived.Maps.AppendAt
import Derived.Deep.AppendLies
namespace Go.Proofs.YtijlbceejpjfiaaDoor
open Go.RowKit

theorem flds_news {w : World} {b off : Nat} {xs : List Fld} (h : FldsAt w (some ⟨b, off, none⟩) xs) : ∀ j u, (fcells xs)[j]? = some u → w.cell? ((⟨b, off, none⟩ : Addr).add j) = some u := by
  intro j u hj
  have hlt : j < xs.length * 2 := by
    rw [← fcells_len]
    exact (List.getElem?_eq_some_iff.1 hj).1
  rcases h with rfl | ⟨b', off', hq, hb, hc⟩
  · simp at hlt
  · obtain ⟨rfl, rfl⟩ : b = b' ∧ off = off' := by simpa using hq
    have e : ((⟨b, off, none⟩ : Addr).add j) = ⟨b, off + j, none⟩ := by unfold Addr.add; split <;> simp_all
    have hk := hc (j / 2) (by omega)
    have hf := fcells_at xs (j / 2) (by omega)
    rw [e]
    rcases Nat.mod_two_eq_zero_or_one j with m | m
    · have hj' : j = j / 2 * 2 := by omega
      rw [hj', hf.1] at hj
      rw [hj', hk.1]; exact hj
    · have hj' : j = j / 2 * 2 + 1 := by omega
      rw [hj', hf.2] at hj
      rw [hj', ← Nat.add_assoc, hk.2]; exact hj

theorem flds_any {w : World} {base n : Nat} {t : TypeId} {ao : Option Addr} {cap : Nat} {fs : List Fld} (h : w.ownsRow base t 2 (.slice ao fs.length cap) n (fcells fs)) : FldsAt w ao fs := by
  obtain ⟨ao', cap', hv, hf, _⟩ := flds_of_own' h
  obtain ⟨rfl, _⟩ : ao = ao' ∧ cap = cap' := by simpa using hv
  exact hf

theorem run_append_flds (w : World) (base : Nat) (ty : TypeId) (v : Value) (n : Nat) (xs : List Value) (hown : w.ownsRow base 48 2 v n xs) (ao : Option Addr) (c : Nat) (fs : List Fld) (hz : FldsAt w ao fs)
    (hn : n + fs.length ≤ 5000000) (hbase : base ≤ w.heap.size) :
    ∃ v' w', (Builtin.append_ #[24, 24] ty #[v, .slice ao fs.length c]).run Tryd.prog w = .ok v' w' ∧ w'.ownsRow base 48 2 v' (n + fs.length) (xs ++ fcells fs) ∧ w.grownBy w' v.ownBlock ∧
      (v ≠ .slice none 0 0 → v' ≠ .slice none 0 0) := by
  obtain ⟨i0, hi, hz0, hz1, hz2⟩ := info_parts infoF
  cases ao with
  | none =>
    have hf : fs = [] := by
      rcases hz with h | ⟨b, off, h, _⟩
      · exact h
      · cases h
    subst hf
    refine ⟨v, w, ?_, by simpa [fcells] using hown, ⟨rfl, rfl, rfl, Nat.le_refl _, fun _ _ _ => rfl⟩, id⟩
    have hu := Tryd.underlying24
    rcases hown.2 with ⟨rfl, rfl⟩ | ⟨g, cap, cur, rfl, hbg, hg, hnc, hcm, hcs, htake⟩
    · simp [Builtin.append_, run_underlying hu, sizeOf, typeInfo, hi, Builtin.lenOf, Builtin.firstCells]
    · simp [Builtin.append_, run_underlying hu, sizeOf, typeInfo, hi, Builtin.lenOf, Builtin.firstCells, loadCells, hnc, storeCells]
  | some a =>
    have hnews : ∀ j u, (fcells fs)[j]? = some u → w.cell? (a.add j) = some u := by
      rcases hz with rfl | ⟨b, off, hq, hb, hc⟩
      · intro j u hj; simp [fcells] at hj
      · obtain rfl : a = ⟨b, off, none⟩ := by simpa using hq
        exact flds_news (.inr ⟨b, off, rfl, hb, hc⟩)
    obtain ⟨v', w', h1, h2, h3, h4, _⟩ := run_append_own_at (P := Tryd.prog) w base 24 ty 48 i0 _ 2 24 Tryd.underlying24 hi hz0 hz1 hz2 rfl (by decide) v n xs hown a fs.length c (fcells fs) (fcells_len fs) hnews (fcells_one fs) (by unfold maxLen; omega) (by omega) hbase
    exact ⟨v', w', h1, h2, h3, fun hne h => hne (h4.1 h).1⟩

theorem wpList_append_flds {ops : Array Oper} {rest : List Oper} {o : Oper} {a : Act} {Q : Exit → Act → World → Prop} (w : World) (hgd : o.guard = none) (s x : Operand)
    (ho : o.op = .call { callee := .builtin .append, args := #[s, x], argTypes := #[24, 24] }) (base : Nat) (v : Value) (n : Nat) (xs : List Value) (hs : a.eval s = v) (hown : w.ownsRow base 48 2 v n xs)
    (ao : Option Addr) (c : Nat) (fs : List Fld) (hx : a.eval x = .slice ao fs.length c) (hz : FldsAt w ao fs) (hn : n + fs.length ≤ 5000000) (hbase : base ≤ w.heap.size)
    (h : ∀ v' w', w'.ownsRow base 48 2 v' (n + fs.length) (xs ++ fcells fs) → w.grownBy w' v.ownBlock → (v ≠ .slice none 0 0 → v' ≠ .slice none 0 0) → wpList Tryd.prog ops Q rest (a.put o.dst v') w') : wpList Tryd.prog ops Q (o :: rest) a w := by
  obtain ⟨v', w', hr, h1, h2, h3⟩ := run_append_flds w base o.type v n xs hown ao c fs hz hn hbase
  exact Lib.wpList_append_run w hgd s x _ _ ho _ _ hs hx v' w' hr (h v' w' h1 h2 h3)

theorem step_append_flds {ops : Array Oper} {o : Oper} {a : Act} {w : World} {K : Act → World → Prop} {Q : Exit → Act → World → Prop} {E : Prop} (hgd : o.guard = none) (s x : Operand)
    (ho : o.op = .call { callee := .builtin .append, args := #[s, x], argTypes := #[24, 24] }) (base : Nat) (v : Value) (n : Nat) (xs : List Value) (hs : a.eval s = v) (hown : w.ownsRow base 48 2 v n xs)
    (ao : Option Addr) (c : Nat) (fs : List Fld) (hx : a.eval x = .slice ao fs.length c) (hz : FldsAt w ao fs) (hn : n + fs.length ≤ 5000000) (hbase : base ≤ w.heap.size)
    (h : ∀ v' w', w'.ownsRow base 48 2 v' (n + fs.length) (xs ++ fcells fs) → w.grownBy w' v.ownBlock → (v ≠ .slice none 0 0 → v' ≠ .slice none 0 0) → K (a.put o.dst v') w') :
    if Region.wanted o (yielded ops a.tmps) = true then Oper.wp Tryd.prog o a w K Q else E := by
  have hw : Region.wanted o (yielded ops a.tmps) = true := by simp [Region.wanted, hgd]
  rw [if_pos hw]
  obtain ⟨v', w', hr, h1, h2, h3⟩ := run_append_flds w base o.type v n xs hown ao c fs hz hn hbase
  unfold Oper.wp execOp
  simp only [ho, resolve, invoke, builtin, Sem.run_bind, Sem.run_pure, Result.andThen_ok, List.map_toArray, List.map_cons, List.map_nil, hs, hx, hr]
  exact h v' w' h1 h2 h3

theorem not_nil {w : World} {base n : Nat} {v : Value} {xs : List Value} (h : w.ownsRow base 48 2 v n xs) (hv : v ≠ .slice none 0 0) : ∃ g c, v = .slice (some ⟨g, 0, none⟩) n c := by
  rcases h.2 with ⟨h, _⟩ | ⟨g, c, cur, h, _⟩
  · exact absurd h hv
  · exact ⟨g, c, h⟩
theorem lit_own (w : World) : (w.alloc (.cells #[] 48)).ownsRow w.heap.size 48 2 (.slice (some ⟨w.heap.size, 0, none⟩) 0 0) 0 [] := World.ownsRow_lit w #[] 0 (Nat.le_refl _) (by unfold maxLen; omega) rfl
theorem one_at {w : World} {g : Nat} {n : Int} {s : List UInt8} (h0 : w.cell? ⟨g, 0, none⟩ = some (.int .i64 n)) (h1 : w.cell? ⟨g, 1, none⟩ = some (.string ⟨s.toArray⟩)) : FldsAt w (some ⟨g, 0, none⟩) [(n, s)] :=
  .inr ⟨g, 0, rfl, World.block_lt_of_cell? w _ h0, fun i hi => by
    obtain rfl : i = 0 := by simpa using hi
    exact ⟨h0, h1⟩⟩

end Go.Proofs.YtijlbceejpjfiaaDoor
