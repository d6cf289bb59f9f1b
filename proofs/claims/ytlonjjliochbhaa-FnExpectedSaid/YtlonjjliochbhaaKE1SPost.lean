/- The contracts of the specification's l07Copy and Post. -/
import Derived.Test.YtlonjjliochbhaaKE1SAddL
import Derived.Deep.RegionLaw
import Derived.Deep.AppendLies
import Derived.Lib.AppendZeros
namespace Go.Proofs.Ytlonjjliochbhaa
open Go.RowKit
set_option maxRecDepth 100000

theorem lines_news {w : World} {a : Addr} {ls : List Ln} (h : LinesAt w (some a) ls) : ∀ j u, (lcells ls)[j]? = some u → w.cell? (a.add j) = some u := by
  intro j u hj
  have hlt : j < ls.length * 3 := by
    rw [← lcells_len]
    exact (List.getElem?_eq_some_iff.1 hj).1
  rcases h with rfl | ⟨b', off', hq, hb, hc⟩
  · simp at hlt
  · obtain rfl : a = ⟨b', off', none⟩ := by simpa using hq
    have e : ((⟨b', off', none⟩ : Addr).add j) = ⟨b', off' + j, none⟩ := by unfold Addr.add; split <;> simp_all
    have hk := hc (j / 3) (by omega)
    have hf := lcells_at ls (j / 3) (by omega)
    rw [e]
    rcases (show j % 3 = 0 ∨ j % 3 = 1 ∨ j % 3 = 2 by omega) with m | m | m
    · have hj' : j = j / 3 * 3 := by omega
      rw [hj', hf.1] at hj
      rw [hj', hk.1]; exact hj
    · have hj' : j = j / 3 * 3 + 1 := by omega
      rw [hj', hf.2.1] at hj
      rw [hj', ← Nat.add_assoc, hk.2.1]; exact hj
    · have hj' : j = j / 3 * 3 + 2 := by omega
      rw [hj', hf.2.2] at hj
      rw [hj', ← Nat.add_assoc, hk.2.2]; exact hj
theorem run_append_lines (w : World) (base : Nat) (ty : TypeId) (v : Value) (n : Nat) (cs : List Value) (hown : w.ownsRow base 115 3 v n cs) (ao : Option Addr) (c : Nat) (ls : List Ln) (hz : LinesAt w ao ls)
    (hn : n + ls.length ≤ 4000000) (hbase : base ≤ w.heap.size) :
    ∃ v' w', (Builtin.append_ #[27, 27] ty #[v, .slice ao ls.length c]).run Try.prog w = .ok v' w' ∧ w'.ownsRow base 115 3 v' (n + ls.length) (cs ++ lcells ls) ∧ w.grownBy w' v.ownBlock := by
  obtain ⟨i0, hi, hz0, hz1, hz2⟩ := info_parts infoL
  cases ao with
  | none =>
    have hf : ls = [] := by
      rcases hz with h | ⟨b, off, h, _⟩
      · exact h
      · cases h
    subst hf
    refine ⟨v, w, ?_, by simpa [lcells] using hown, ⟨rfl, rfl, rfl, Nat.le_refl _, fun _ _ _ => rfl⟩⟩
    have hu := Try.underlying27
    rcases hown.2 with ⟨rfl, rfl⟩ | ⟨g, cap, cur, rfl, hbg, hg, hnc, hcm, hcs, htake⟩
    · simp [Builtin.append_, run_underlying hu, sizeOf, typeInfo, hi, Builtin.lenOf, Builtin.firstCells]
    · simp [Builtin.append_, run_underlying hu, sizeOf, typeInfo, hi, Builtin.lenOf, Builtin.firstCells, loadCells, hnc, storeCells]
  | some a =>
    obtain ⟨v', w', h1, h2, h3, _, _⟩ := run_append_own_at (P := Try.prog) w base 27 ty 115 i0 _ 3 24 Try.underlying27 hi hz0 hz1 hz2 rfl (by decide) v n cs hown a ls.length c (lcells ls) (lcells_len ls) (lines_news hz) (lcells_one ls) (by unfold maxLen; omega) (by omega) hbase
    exact ⟨v', w', h1, h2, h3⟩
theorem wpList_append_lines {ops : Array Oper} {rest : List Oper} {o : Oper} {a : Act} {Q : Exit → Act → World → Prop} (w : World) (hgd : o.guard = none) (s x : Operand)
    (ho : o.op = .call { callee := .builtin .append, args := #[s, x], argTypes := #[27, 27] }) (base : Nat) (v : Value) (n : Nat) (cs : List Value) (hs : a.eval s = v) (hown : w.ownsRow base 115 3 v n cs)
    (ao : Option Addr) (c : Nat) (ls : List Ln) (hx : a.eval x = .slice ao ls.length c) (hz : LinesAt w ao ls) (hn : n + ls.length ≤ 4000000) (hbase : base ≤ w.heap.size)
    (h : ∀ v' w', w'.ownsRow base 115 3 v' (n + ls.length) (cs ++ lcells ls) → w.grownBy w' v.ownBlock → wpList Try.prog ops Q rest (a.put o.dst v') w') : wpList Try.prog ops Q (o :: rest) a w := by
  obtain ⟨v', w', hr, h1, h2⟩ := run_append_lines w base o.type v n cs hown ao c ls hz hn hbase
  exact Lib.wpList_append_run w hgd s x _ _ ho _ _ hs hx v' w' hr (h v' w' h1 h2)

/-- a ledger whose lines are one's own -/
def LedR (w : World) (ls : List Ln) (e : Ending) (w' : World) : Prop :=
  ∃ ao cap, e = .returned (.agg #[.slice ao ls.length cap]) ∧ w'.ownsRow w.heap.size 115 3 (.slice ao ls.length cap) ls.length (lcells ls) ∧ Below w.heap.size w w'

set_option maxHeartbeats 1600000 in
theorem sCopy_any (ao : Option Addr) (cap : Nat) (ls : List Ln) (w : World) (hz : LinesAt w ao ls) (hn : ls.length ≤ 1048577) :
    Calls Try.prog 35 #[.agg #[.slice ao ls.length cap]] w (LedR w ls) := by
  obtain ⟨W, hW⟩ : ∃ W, W = ((w.alloc (.cells #[.slice ao ls.length cap] 29)).alloc (.cells #[.slice none 0 0] 29)).alloc (.cells #[] 115) := ⟨_, rfl⟩
  have hWs : W.heap.size = w.heap.size + 3 := by rw [hW]; simp
  have bW : Below w.heap.size w W := by rw [hW]; go_grown
  have HOE : Hid (W.ownsRow (w.heap.size + 2) 115 3 (.slice (some ⟨w.heap.size + 1 + 1, 0, none⟩) 0 0) 0 (lcells [])) := by
    have h := World.ownsRow_lit (base := w.heap.size + 2) (e := 115) (size := 3) ((w.alloc (.cells #[.slice ao ls.length cap] 29)).alloc (.cells #[.slice none 0 0] 29)) #[] 0 (by simp) (by unfold maxLen; omega) rfl
    rw [Hid, hW]; simpa [lcells] using h
  have HZ : Hid (LinesAt W ao ls) := hz.below bW
  have c1 : W.cell? ⟨w.heap.size + 1, 0, none⟩ = some (.slice none 0 0) := by rw [hW]; simp [go_sem]
  have c0 : W.cell? ⟨w.heap.size, 0, none⟩ = some (.slice ao ls.length cap) := by rw [hW]; simp [go_sem]
  have z1 : W.frozen? ⟨w.heap.size + 1, 0, none⟩ = false := by rw [hW]; simp [go_sem]
  have HWE : Hid _ := hW
  have HWZ : Hid _ := hWs
  clear hz
  go_enter Try.func35, Try.ntmps35
  have HSTEP : Hid (∀ v2 w2, w2.ownsRow (w.heap.size + 2) 115 3 v2 (0 + ls.length) (lcells [] ++ lcells ls) → W.grownBy w2 (Value.slice (some ⟨w.heap.size + 1 + 1, 0, none⟩) 0 0).ownBlock → ∃ a2 k2, v2 = .slice a2 ls.length k2 ∧ w2.ownsRow (w.heap.size + 2) 115 3 (.slice a2 ls.length k2) ls.length (lcells ls) ∧
      w2.cell? ⟨w.heap.size + 1, 0, none⟩ = some (.slice none 0 0) ∧ w2.frozen? ⟨w.heap.size + 1, 0, none⟩ = false ∧ Below w.heap.size w w2) := by
    intro v2 w2 o2 g2
    rw [Nat.zero_add, show lcells [] ++ lcells ls = lcells ls from rfl] at o2
    obtain ⟨a2, k2, hv2, -, -⟩ := lines_of_own o2
    subst hv2
    have hne : some (w.heap.size + 1) ≠ (Value.slice (some ⟨w.heap.size + 1 + 1, 0, none⟩) 0 0).ownBlock := by simp [Value.ownBlock]
    exact ⟨a2, k2, rfl, o2, (g2.cell_far ⟨w.heap.size + 1, 0, none⟩ (by show w.heap.size + 1 < W.heap.size; omega) hne).trans c1, (g2.frozen_far ⟨w.heap.size + 1, 0, none⟩ (by show w.heap.size + 1 < W.heap.size; omega) hne).trans z1, bW.grown g2 bW.size (fun j hj => by
      have : w.heap.size + 1 + 1 = j := by simpa [Value.ownBlock] using hj
      omega)⟩
  clear c1 z1
  go_wp2_with (at_builtin; rw [← HWE.out]; refine wpList_append_lines _ rfl (.tmp 3) (.tmp 5) rfl (w.heap.size + 2) _ 0 _ rfl HOE.out ao cap ls rfl HZ.out (by omega) (by have := HWZ.out; omega) ?_; intro v2 w2 o2 g2; obtain ⟨a2, k2, hv2, o3, d1, e1, b2⟩ := HSTEP.out v2 w2 o2 g2; subst hv2; have HO3 : Hid (w2.ownsRow (w.heap.size + 2) 115 3 (.slice a2 ls.length k2) ls.length (lcells ls)) := o3; have HB2 : Hid (Below w.heap.size w w2) := b2; clear o2 g2 o3 b2)
  refine bodyPost_ret (by simp [results, Try.results35, go_sem, d1]; try rfl) rfl ?_
  refine ⟨a2, k2, rfl, ?_, HB2.out.setCell (by show w.heap.size ≤ w.heap.size + 1; omega) _⟩
  exact lowerL (keepSetL HO3.out _ _ (fun g hg => by have := (HO3.out.lt g hg).1; simp only; omega)) (by omega)

end Go.Proofs.Ytlonjjliochbhaa
