/- The laws' own functions over lines and ledgers: how much one takes, its copy, whether two are the same, marks in one's own. -/
import Derived.Test.YtjnekdihmchlpaaGreatDoorJT1a
import Derived.Deep.RegionWith
import Derived.Handy
namespace Go.Proofs.YtjnekdihmchlpaaGreatDoor
open Go.RowKit
set_option maxRecDepth 100000

theorem keepL {w w' : World} {base n size : Nat} {t : TypeId} {v : Value} {xs : List Value} (h : w.ownsRow base t size v n xs) (hb : Below w.heap.size w w') : w'.ownsRow base t size v n xs := by
  obtain ⟨h1, h2⟩ := h
  refine ⟨h1, ?_⟩
  rcases h2 with h | ⟨g, cap, cur, hv, hg, hh, a1, a2, a3, a4⟩
  · exact .inl h
  · have hlt : g < w.heap.size := (Array.getElem?_eq_some_iff.1 hh).1
    exact .inr ⟨g, cap, cur, hv, hg, (hb.block g hlt).trans hh, a1, a2, a3, a4⟩
theorem keepSetL {w : World} {base n size : Nat} {t : TypeId} {v : Value} {xs : List Value} (h : w.ownsRow base t size v n xs) (p : Addr) (u : Value) (hp : ∀ g, v.ownBlock = some g → g ≠ p.block) : (w.setCell p u).ownsRow base t size v n xs := by
  obtain ⟨h1, h2⟩ := h
  refine ⟨h1, ?_⟩
  rcases h2 with h | ⟨g, cap, cur, hv, hg, hh, a1, a2, a3, a4⟩
  · exact .inl h
  · exact .inr ⟨g, cap, cur, hv, hg, (Below.heap_setCell w p u g (hp g (by rw [hv]; rfl))).trans hh, a1, a2, a3, a4⟩
theorem keepG {w w' : World} {base n size : Nat} {t : TypeId} {v : Value} {xs : List Value} {row : Option Nat} (h : w.ownsRow base t size v n xs) (hg : w.grownBy w' row) (hne : ∀ g, v.ownBlock = some g → some g ≠ row) : w'.ownsRow base t size v n xs := by
  obtain ⟨h1, h2⟩ := h
  refine ⟨h1, ?_⟩
  rcases h2 with h | ⟨g, cap, cur, hv, hg', hh, a1, a2, a3, a4⟩
  · exact .inl h
  · have hlt : g < w.heap.size := (Array.getElem?_eq_some_iff.1 hh).1
    exact .inr ⟨g, cap, cur, hv, hg', (hg.block g hlt (hne g (by rw [hv]; rfl))).trans hh, a1, a2, a3, a4⟩
theorem lowerL {w : World} {base base' n size : Nat} {t : TypeId} {v : Value} {xs : List Value} (h : w.ownsRow base t size v n xs) (hb : base' ≤ base) : w.ownsRow base' t size v n xs := by
  obtain ⟨h1, h2⟩ := h
  refine ⟨h1, ?_⟩
  rcases h2 with h | ⟨g, cap, cur, hv, hg, r⟩
  · exact .inl h
  · exact .inr ⟨g, cap, cur, hv, Nat.le_trans hb hg, r⟩

def leftL (n : Nat) (left : Int) : Int := if left - (n : Int) < 0 then -1 else left - (n : Int)


/-- what a copy holds behind k rounds -/
def halfL (ls : List Ln) (k : Nat) : List Ln := ls.take k ++ List.replicate (ls.length - k) (0, 0, 0)
theorem halfL_all (ls : List Ln) : halfL ls ls.length = ls := by simp [halfL]
theorem halfL_len (ls : List Ln) (k : Nat) (h : k ≤ ls.length) : (halfL ls k).length = ls.length := by simp [halfL]; omega
theorem halfL_succ (ls : List Ln) (k : Nat) (h : k < ls.length) : (halfL ls k).set k (lnAt ls k) = halfL ls (k + 1) := by
  unfold halfL
  rw [List.set_append, if_neg (by simp; omega), List.length_take, Nat.min_eq_left (Nat.le_of_lt h), Nat.sub_self, show ls.length - k = ls.length - (k + 1) + 1 by omega, List.replicate_succ, List.set_cons_zero, take_lnAt ls k h, List.append_assoc]
  rfl
theorem halfL_at (ls : List Ln) (k : Nat) (h : k < ls.length) : lnAt (halfL ls k) k = (0, 0, 0) := by
  simp [lnAt, halfL, List.getD_eq_getElem?_getD, List.getElem?_append, Nat.min_eq_left (Nat.le_of_lt h), List.getElem?_replicate]
  split <;> rfl
theorem cells_repL (m : Nat) : (madeCells (Value.agg #[.int .i64 0, .int .i64 0, .int .i64 0]).cells (m * 3)).toList = lcells (List.replicate m (0, 0, 0)) := by
  apply List.ext_getElem?
  intro j
  by_cases hj : j < m * 3
  · have hq : j / 3 < (List.replicate m ((0 : Int), (0 : Int), (0 : Int))).length := by simp; omega
    have ha : lnAt (List.replicate m ((0 : Int), (0 : Int), (0 : Int))) (j / 3) = (0, 0, 0) := by
      simp [lnAt, List.getD_eq_getElem?_getD, List.getElem?_replicate]; split <;> rfl
    have h := lcells_at _ _ hq
    rw [ha] at h
    have hl : (madeCells (Value.agg #[.int .i64 0, .int .i64 0, .int .i64 0]).cells (m * 3)).toList[j]? = some ((#[Value.int .i64 0, .int .i64 0, .int .i64 0] : Array Value)[j % 3]!) := by
      simp [madeCells, hj, Value.cells]
    rcases (show j % 3 = 0 ∨ j % 3 = 1 ∨ j % 3 = 2 by omega) with e | e | e
    · rw [hl, e, show j = j / 3 * 3 by omega, h.1]; rfl
    · rw [hl, e, show j = j / 3 * 3 + 1 by omega, h.2.1]; rfl
    · rw [hl, e, show j = j / 3 * 3 + 2 by omega, h.2.2]; rfl
  · rw [List.getElem?_eq_none (by rw [Array.length_toList, size_madeCells]; omega), List.getElem?_eq_none (by rw [lcells_len]; simp; omega)]


theorem lines_any {w : World} {base n : Nat} {t : TypeId} {ao : Option Addr} {cap : Nat} {ls : List Ln} (h : w.ownsRow base t 3 (.slice ao ls.length cap) n (lcells ls)) : LinesAt w ao ls := by
  obtain ⟨ao', cap', hv, hf, _⟩ := lines_of_own h
  obtain ⟨rfl, _⟩ : ao = ao' ∧ cap = cap' := by simpa using hv
  exact hf



end Go.Proofs.YtjnekdihmchlpaaGreatDoor
