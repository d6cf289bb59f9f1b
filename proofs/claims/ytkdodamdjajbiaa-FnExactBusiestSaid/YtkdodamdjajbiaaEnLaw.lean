/- The laws' own functions over slices of entries: how much one takes, its copy, whether two are the same, marks in one's own. -/
import Derived.Test.YtkdodamdjajbiaaLnLaw2
namespace Go.Proofs.Ytkdodamdjajbiaa
open Go.RowKit
set_option maxRecDepth 100000

def ecell (x : En) : List Value := [.int .i64 x.1, .int .i64 x.2.1, .int .i64 x.2.2.1, .int .i64 x.2.2.2]
def ecells (es : List En) : List Value := es.flatMap ecell
theorem ecells_cons (x : En) (r : List En) : ecells (x :: r) = .int .i64 x.1 :: .int .i64 x.2.1 :: .int .i64 x.2.2.1 :: .int .i64 x.2.2.2 :: ecells r := rfl
theorem ecells_len (es : List En) : (ecells es).length = es.length * 4 := by
  induction es with
  | nil => rfl
  | cons f r ih => rw [ecells_cons]; simp [ih]; omega
theorem ecells_at (es : List En) : ∀ k, k < es.length → (ecells es)[k * 4]? = some (.int .i64 (enAt es k).1) ∧ (ecells es)[k * 4 + 1]? = some (.int .i64 (enAt es k).2.1) ∧ (ecells es)[k * 4 + 2]? = some (.int .i64 (enAt es k).2.2.1) ∧ (ecells es)[k * 4 + 3]? = some (.int .i64 (enAt es k).2.2.2) := by
  induction es with
  | nil => intro k h; simp at h
  | cons f r ih =>
    intro k h
    rw [ecells_cons]
    cases k with
    | zero => exact ⟨rfl, rfl, rfl, rfl⟩
    | succ k =>
      have := ih k (by simpa using h)
      rw [show (k + 1) * 4 = k * 4 + 1 + 1 + 1 + 1 by omega]
      simp only [List.getElem?_cons_succ]
      exact this
theorem ecells_set (es : List En) (x : En) : ∀ k, k < es.length → ((((ecells es).set (k * 4) (.int .i64 x.1)).set (k * 4 + 1) (.int .i64 x.2.1)).set (k * 4 + 2) (.int .i64 x.2.2.1)).set (k * 4 + 3) (.int .i64 x.2.2.2) = ecells (es.set k x) := by
  induction es with
  | nil => intro k h; simp at h
  | cons g r ih =>
    intro k h
    rw [ecells_cons]
    cases k with
    | zero => rfl
    | succ k =>
      have := ih k (by simpa using h)
      rw [show (k + 1) * 4 = k * 4 + 1 + 1 + 1 + 1 by omega]
      simp only [List.set_cons_succ]
      rw [this]
      rfl
theorem ents_of_own {w : World} {base n : Nat} {t : TypeId} {v : Value} {es : List En} (h : w.ownsRow base t 4 v n (ecells es)) : ∃ ao cap, v = .slice ao es.length cap ∧ EntsAt w ao es ∧ n = es.length := by
  have hn : n = es.length := by have := h.1; rw [ecells_len] at this; omega
  subst hn
  rcases h.2 with ⟨rfl, hn⟩ | ⟨g, cap, cur, rfl, _⟩
  · have : es = [] := List.eq_nil_of_length_eq_zero hn
    subst this
    exact ⟨none, 0, rfl, .inl rfl, rfl⟩
  · refine ⟨_, cap, rfl, ?_, rfl⟩
    by_cases h0 : es = []
    · exact .inl h0
    · refine .inr ⟨g, 0, rfl, (h.lt g rfl).2, fun i hi => ?_⟩
      have := ecells_at es i hi
      rw [Nat.zero_add, h.cellAt (i * 4) (by omega), h.cellAt (i * 4 + 1) (by omega), h.cellAt (i * 4 + 2) (by omega), h.cellAt (i * 4 + 3) (by omega)]
      exact this
theorem ents_any {w : World} {base n : Nat} {t : TypeId} {ao : Option Addr} {cap : Nat} {es : List En} (h : w.ownsRow base t 4 (.slice ao es.length cap) n (ecells es)) : EntsAt w ao es := by
  obtain ⟨ao', cap', hv, hf, _⟩ := ents_of_own h
  obtain ⟨rfl, _⟩ : ao = ao' ∧ cap = cap' := by simpa using hv
  exact hf
theorem take_enAt (es : List En) (k : Nat) (h : k < es.length) : es.take (k + 1) = es.take k ++ [enAt es k] := by rw [List.take_succ_eq_append_getElem h, enAt_is h]


/-- what a copy holds behind k rounds -/
def halfE (es : List En) (k : Nat) : List En := es.take k ++ List.replicate (es.length - k) (0, 0, 0, 0)
theorem halfE_all (es : List En) : halfE es es.length = es := by simp [halfE]
theorem halfE_len (es : List En) (k : Nat) (h : k ≤ es.length) : (halfE es k).length = es.length := by simp [halfE]; omega
theorem halfE_succ (es : List En) (k : Nat) (h : k < es.length) : (halfE es k).set k (enAt es k) = halfE es (k + 1) := by
  unfold halfE
  rw [List.set_append, if_neg (by simp; omega), List.length_take, Nat.min_eq_left (Nat.le_of_lt h), Nat.sub_self, show es.length - k = es.length - (k + 1) + 1 by omega, List.replicate_succ, List.set_cons_zero, take_enAt es k h, List.append_assoc]
  rfl
theorem halfE_at (es : List En) (k : Nat) (h : k < es.length) : enAt (halfE es k) k = (0, 0, 0, 0) := by
  simp [enAt, halfE, List.getD_eq_getElem?_getD, List.getElem?_append, Nat.min_eq_left (Nat.le_of_lt h), List.getElem?_replicate]
  split <;> rfl
theorem cells_repE (m : Nat) : (madeCells (Value.agg #[.int .i64 0, .int .i64 0, .int .i64 0, .int .i64 0]).cells (m * 4)).toList = ecells (List.replicate m (0, 0, 0, 0)) := by
  apply List.ext_getElem?
  intro j
  by_cases hj : j < m * 4
  · have hq : j / 4 < (List.replicate m ((0 : Int), (0 : Int), (0 : Int), (0 : Int))).length := by simp; omega
    have ha : enAt (List.replicate m ((0 : Int), (0 : Int), (0 : Int), (0 : Int))) (j / 4) = (0, 0, 0, 0) := by
      simp [enAt, List.getD_eq_getElem?_getD, List.getElem?_replicate]; split <;> rfl
    have h := ecells_at _ _ hq
    rw [ha] at h
    have hl : (madeCells (Value.agg #[.int .i64 0, .int .i64 0, .int .i64 0, .int .i64 0]).cells (m * 4)).toList[j]? = some ((#[Value.int .i64 0, .int .i64 0, .int .i64 0, .int .i64 0] : Array Value)[j % 4]!) := by
      simp [madeCells, hj, Value.cells]
    rcases (show j % 4 = 0 ∨ j % 4 = 1 ∨ j % 4 = 2 ∨ j % 4 = 3 by omega) with e | e | e | e
    · rw [hl, e, show j = j / 4 * 4 by omega, h.1]; rfl
    · rw [hl, e, show j = j / 4 * 4 + 1 by omega, h.2.1]; rfl
    · rw [hl, e, show j = j / 4 * 4 + 2 by omega, h.2.2.1]; rfl
    · rw [hl, e, show j = j / 4 * 4 + 3 by omega, h.2.2.2]; rfl
  · rw [List.getElem?_eq_none (by rw [Array.length_toList, size_madeCells]; omega), List.getElem?_eq_none (by rw [ecells_len]; simp; omega)]




end Go.Proofs.Ytkdodamdjajbiaa
