/- Fields in a row of one's own: the cells of a list of fields; the laws' copy of a message. -/
import Derived.Test.YtggaadbcifbdeaaMsgLaw
namespace Go.Proofs.Ytggaadbcifbdeaa
open Go.RowKit

theorem keepRow {w w' : World} {base n size : Nat} {t : TypeId} {v : Value} {xs : List Value} (h : w.ownsRow base t size v n xs) (hb : Below w.heap.size w w') : w'.ownsRow base t size v n xs := by
  obtain ⟨h1, h2⟩ := h
  refine ⟨h1, ?_⟩
  rcases h2 with h | ⟨g, cap, cur, hv, hg, hh, a1, a2, a3, a4⟩
  · exact .inl h
  · have hlt : g < w.heap.size := (Array.getElem?_eq_some_iff.1 hh).1
    exact .inr ⟨g, cap, cur, hv, hg, (hb.block g hlt).trans hh, a1, a2, a3, a4⟩

theorem keepSet {w : World} {base n size : Nat} {t : TypeId} {v : Value} {xs : List Value} (h : w.ownsRow base t size v n xs) (p : Addr) (u : Value) (hp : ∀ g, v.ownBlock = some g → g ≠ p.block) : (w.setCell p u).ownsRow base t size v n xs := by
  obtain ⟨h1, h2⟩ := h
  refine ⟨h1, ?_⟩
  rcases h2 with h | ⟨g, cap, cur, hv, hg, hh, a1, a2, a3, a4⟩
  · exact .inl h
  · exact .inr ⟨g, cap, cur, hv, hg, (Below.heap_setCell w p u g (hp g (by rw [hv]; rfl))).trans hh, a1, a2, a3, a4⟩
theorem lowerRow {w : World} {base base' n size : Nat} {t : TypeId} {v : Value} {xs : List Value} (h : w.ownsRow base t size v n xs) (hb : base' ≤ base) : w.ownsRow base' t size v n xs := by
  obtain ⟨h1, h2⟩ := h
  refine ⟨h1, ?_⟩
  rcases h2 with h | ⟨g, cap, cur, hv, hg, r⟩
  · exact .inl h
  · exact .inr ⟨g, cap, cur, hv, Nat.le_trans hb hg, r⟩

def fcell (f : Fld) : List Value := [.int .i64 f.1, .string ⟨f.2.toArray⟩]
def fcells (fs : List Fld) : List Value := fs.flatMap fcell
theorem fcells_cons (f : Fld) (r : List Fld) : fcells (f :: r) = .int .i64 f.1 :: .string ⟨f.2.toArray⟩ :: fcells r := rfl
theorem fcells_append (a b : List Fld) : fcells (a ++ b) = fcells a ++ fcells b := by simp [fcells]
theorem fcells_len (fs : List Fld) : (fcells fs).length = fs.length * 2 := by
  induction fs with
  | nil => rfl
  | cons f r ih => rw [fcells_cons]; simp [ih]; omega
theorem fcells_at (fs : List Fld) : ∀ k, k < fs.length → (fcells fs)[k * 2]? = some (.int .i64 (at0 fs k).1) ∧ (fcells fs)[k * 2 + 1]? = some (.string ⟨(at0 fs k).2.toArray⟩) := by
  induction fs with
  | nil => intro k h; simp at h
  | cons f r ih =>
    intro k h
    rw [fcells_cons]
    cases k with
    | zero => exact ⟨rfl, rfl⟩
    | succ k =>
      have := ih k (by simpa using h)
      rw [show (k + 1) * 2 = k * 2 + 1 + 1 by omega, List.getElem?_cons_succ, List.getElem?_cons_succ, List.getElem?_cons_succ, List.getElem?_cons_succ]
      exact this
theorem fcells_set (fs : List Fld) (f : Fld) : ∀ k, k < fs.length → ((fcells fs).set (k * 2) (.int .i64 f.1)).set (k * 2 + 1) (.string ⟨f.2.toArray⟩) = fcells (fs.set k f) := by
  induction fs with
  | nil => intro k h; simp at h
  | cons g r ih =>
    intro k h
    rw [fcells_cons]
    cases k with
    | zero => rfl
    | succ k =>
      have := ih k (by simpa using h)
      rw [show (k + 1) * 2 = k * 2 + 1 + 1 by omega, List.set_cons_succ, List.set_cons_succ, List.set_cons_succ, List.set_cons_succ, this]
      rfl
theorem fcells_one (fs : List Fld) : ∀ u ∈ fcells fs, u.oneCell' = true := by
  intro u hu
  simp only [fcells, List.mem_flatMap, fcell] at hu
  obtain ⟨f, _, hf⟩ := hu
  simp at hf
  rcases hf with rfl | rfl <;> rfl

theorem flds_of_own {w : World} {base g n cap : Nat} {t : TypeId} {fs : List Fld} (h : w.ownsRow base t 2 (.slice (some ⟨g, 0, none⟩) n cap) n (fcells fs)) : FldsAt w (some ⟨g, 0, none⟩) fs := by
  have hl := h.1
  rw [fcells_len] at hl
  by_cases h0 : fs = []
  · exact .inl h0
  · have hlt := (h.lt g rfl).2
    refine .inr ⟨g, 0, rfl, hlt, fun i hi => ?_⟩
    have := fcells_at fs i hi
    rw [Nat.zero_add, h.cellAt (i * 2) (by omega), h.cellAt (i * 2 + 1) (by omega)]
    exact this
theorem flds_of_own' {w : World} {base n : Nat} {t : TypeId} {v : Value} {fs : List Fld} (h : w.ownsRow base t 2 v n (fcells fs)) : ∃ ao cap, v = .slice ao fs.length cap ∧ FldsAt w ao fs ∧ n = fs.length := by
  have hn : n = fs.length := by have := h.1; rw [fcells_len] at this; omega
  subst hn
  rcases h.2 with ⟨rfl, hn⟩ | ⟨g, cap, cur, rfl, _⟩
  · have : fs = [] := List.eq_nil_of_length_eq_zero hn
    subst this
    exact ⟨none, 0, rfl, .inl rfl, rfl⟩
  · exact ⟨_, cap, rfl, flds_of_own h, rfl⟩

/-- what a copy holds behind k rounds -/
def halfF (fs : List Fld) (k : Nat) : List Fld := fs.take k ++ List.replicate (fs.length - k) (0, [])
theorem halfF_all (fs : List Fld) : halfF fs fs.length = fs := by simp [halfF]
theorem halfF_len (fs : List Fld) (k : Nat) (h : k ≤ fs.length) : (halfF fs k).length = fs.length := by simp [halfF]; omega
theorem halfF_succ (fs : List Fld) (k : Nat) (h : k < fs.length) : (halfF fs k).set k (at0 fs k) = halfF fs (k + 1) := by
  have e : at0 fs k = fs[k] := by simp [at0, List.getD_eq_getElem?_getD, h]
  unfold halfF
  rw [List.set_append, if_neg (by simp; omega), List.length_take, Nat.min_eq_left (Nat.le_of_lt h), Nat.sub_self, show fs.length - k = fs.length - (k + 1) + 1 by omega, List.replicate_succ, List.set_cons_zero, List.take_succ_eq_append_getElem h, e, List.append_assoc]
  rfl
theorem halfF_at (fs : List Fld) (k : Nat) (h : k < fs.length) : at0 (halfF fs k) k = (0, []) := by
  simp [at0, halfF, List.getD_eq_getElem?_getD, List.getElem?_append, Nat.min_eq_left (Nat.le_of_lt h), List.getElem?_replicate]
  split <;> rfl

theorem infoF : (Try.prog.info? 35).map (fun i => (i.zero, i.size, i.bytes)) = some (some (.agg #[.int .i64 0, .string ⟨#[]⟩]), 2, 24) := by kernel_rfl

theorem cells_rep (m : Nat) : (madeCells (Value.agg #[.int .i64 0, .string ⟨#[]⟩]).cells (m * 2)).toList = fcells (List.replicate m (0, [])) := by
  apply List.ext_getElem?
  intro j
  by_cases hj : j < m * 2
  · have hq : j / 2 < (List.replicate m ((0 : Int), ([] : List UInt8))).length := by simp; omega
    have ha : at0 (List.replicate m ((0 : Int), ([] : List UInt8))) (j / 2) = (0, []) := by
      simp [at0, List.getD_eq_getElem?_getD, List.getElem?_replicate]; split <;> rfl
    have h := fcells_at _ _ hq
    rw [ha] at h
    have hl : (madeCells (Value.agg #[.int .i64 0, .string ⟨#[]⟩]).cells (m * 2)).toList[j]? = some ((#[Value.int .i64 0, .string ⟨#[]⟩] : Array Value)[j % 2]!) := by
      simp [madeCells, hj, Value.cells]
    rcases Nat.mod_two_eq_zero_or_one j with e | e
    · rw [hl, e, show j = j / 2 * 2 by omega, h.1]; rfl
    · rw [hl, e, show j = j / 2 * 2 + 1 by omega, h.2]; rfl
  · rw [List.getElem?_eq_none (by rw [Array.length_toList, size_madeCells]; omega), List.getElem?_eq_none (by rw [fcells_len]; simp; omega)]

end Go.Proofs.Ytggaadbcifbdeaa
