/- Authorizations in a row of one's own: their cells; the laws' copies of them. -/
import Derived.Test.YtkdodamdjajbiaaAuSl
import Derived.Handy
import Derived.OwnWalk
namespace Go.Proofs.Ytkdodamdjajbiaa
open Go.RowKit
set_option maxRecDepth 100000

theorem keepA {w w' : World} {base n size : Nat} {t : TypeId} {v : Value} {xs : List Value} (h : w.ownsRow base t size v n xs) (hb : Below w.heap.size w w') : w'.ownsRow base t size v n xs := by
  obtain ⟨h1, h2⟩ := h
  refine ⟨h1, ?_⟩
  rcases h2 with h | ⟨g, cap, cur, hv, hg, hh, a1, a2, a3, a4⟩
  · exact .inl h
  · have hlt : g < w.heap.size := (Array.getElem?_eq_some_iff.1 hh).1
    exact .inr ⟨g, cap, cur, hv, hg, (hb.block g hlt).trans hh, a1, a2, a3, a4⟩
theorem lowerA {w : World} {base base' n size : Nat} {t : TypeId} {v : Value} {xs : List Value} (h : w.ownsRow base t size v n xs) (hb : base' ≤ base) : w.ownsRow base' t size v n xs := by
  obtain ⟨h1, h2⟩ := h
  refine ⟨h1, ?_⟩
  rcases h2 with h | ⟨g, cap, cur, hv, hg, r⟩
  · exact .inl h
  · exact .inr ⟨g, cap, cur, hv, Nat.le_trans hb hg, r⟩

def acells (az : List Au) : List Value := az.flatMap aucells
theorem acells_cons (a : Au) (r : List Au) : acells (a :: r) = .string ⟨a.ref.toArray⟩ :: .int .i64 a.iss :: .int .i64 a.cur :: .int .i64 a.am :: .int .i64 a.day :: .bool a.used :: acells r := rfl
theorem acells_append (a b : List Au) : acells (a ++ b) = acells a ++ acells b := by simp [acells]
theorem acells_len (az : List Au) : (acells az).length = az.length * 6 := by
  induction az with
  | nil => rfl
  | cons a r ih => rw [acells_cons]; simp [ih]; omega
theorem acells_at (az : List Au) : ∀ k, k < az.length → (acells az)[k * 6]? = some (.string ⟨(auAt az k).ref.toArray⟩) ∧ (acells az)[k * 6 + 1]? = some (.int .i64 (auAt az k).iss) ∧ (acells az)[k * 6 + 2]? = some (.int .i64 (auAt az k).cur) ∧ (acells az)[k * 6 + 3]? = some (.int .i64 (auAt az k).am) ∧ (acells az)[k * 6 + 4]? = some (.int .i64 (auAt az k).day) ∧ (acells az)[k * 6 + 5]? = some (.bool (auAt az k).used) := by
  induction az with
  | nil => intro k h; simp at h
  | cons a r ih =>
    intro k h
    rw [acells_cons]
    cases k with
    | zero => exact ⟨rfl, rfl, rfl, rfl, rfl, rfl⟩
    | succ k =>
      have := ih k (by simpa using h)
      rw [show (k + 1) * 6 = k * 6 + 1 + 1 + 1 + 1 + 1 + 1 by omega, show k * 6 + 1 + 1 + 1 + 1 + 1 + 1 + 1 = (k * 6 + 1) + 1 + 1 + 1 + 1 + 1 + 1 by omega, show k * 6 + 1 + 1 + 1 + 1 + 1 + 1 + 2 = (k * 6 + 2) + 1 + 1 + 1 + 1 + 1 + 1 by omega, show k * 6 + 1 + 1 + 1 + 1 + 1 + 1 + 3 = (k * 6 + 3) + 1 + 1 + 1 + 1 + 1 + 1 by omega, show k * 6 + 1 + 1 + 1 + 1 + 1 + 1 + 4 = (k * 6 + 4) + 1 + 1 + 1 + 1 + 1 + 1 by omega, show k * 6 + 1 + 1 + 1 + 1 + 1 + 1 + 5 = (k * 6 + 5) + 1 + 1 + 1 + 1 + 1 + 1 by omega]
      simp only [List.getElem?_cons_succ]
      exact this
theorem acells_set (az : List Au) (a : Au) : ∀ k, k < az.length → (((((((acells az).set (k * 6) (.string ⟨a.ref.toArray⟩)).set (k * 6 + 1) (.int .i64 a.iss)).set (k * 6 + 2) (.int .i64 a.cur)).set (k * 6 + 3) (.int .i64 a.am)).set (k * 6 + 4) (.int .i64 a.day)).set (k * 6 + 5) (.bool a.used)) = acells (az.set k a) := by
  induction az with
  | nil => intro k h; simp at h
  | cons g r ih =>
    intro k h
    rw [acells_cons]
    cases k with
    | zero => rfl
    | succ k =>
      have := ih k (by simpa using h)
      rw [show (k + 1) * 6 = k * 6 + 1 + 1 + 1 + 1 + 1 + 1 by omega, show k * 6 + 1 + 1 + 1 + 1 + 1 + 1 + 1 = (k * 6 + 1) + 1 + 1 + 1 + 1 + 1 + 1 by omega, show k * 6 + 1 + 1 + 1 + 1 + 1 + 1 + 2 = (k * 6 + 2) + 1 + 1 + 1 + 1 + 1 + 1 by omega, show k * 6 + 1 + 1 + 1 + 1 + 1 + 1 + 3 = (k * 6 + 3) + 1 + 1 + 1 + 1 + 1 + 1 by omega, show k * 6 + 1 + 1 + 1 + 1 + 1 + 1 + 4 = (k * 6 + 4) + 1 + 1 + 1 + 1 + 1 + 1 by omega, show k * 6 + 1 + 1 + 1 + 1 + 1 + 1 + 5 = (k * 6 + 5) + 1 + 1 + 1 + 1 + 1 + 1 by omega]
      simp only [List.set_cons_succ, this]
      rfl
/-- storing what stands there changes nothing -/
theorem set_there {xs : List Value} {k : Nat} {v : Value} (h : xs[k]? = some v) : xs.set k v = xs := by
  apply List.ext_getElem? 
  intro i
  by_cases e : k = i
  · subst e
    rw [List.getElem?_set_self (List.getElem?_eq_some_iff.1 h).1, h]
  · rw [List.getElem?_set_ne e]
theorem acells_set5 (az : List Au) (b : Bool) (k : Nat) (h : k < az.length) : (acells az).set (k * 6 + 5) (.bool b) = acells (az.set k ⟨(auAt az k).ref, (auAt az k).iss, (auAt az k).cur, (auAt az k).am, (auAt az k).day, b⟩) := by
  rw [← acells_set az _ k h]
  obtain ⟨h0, h1, h2, h3, h4, h5⟩ := acells_at az k h
  simp only
  rw [set_there h0, set_there h1, set_there h2, set_there h3, set_there h4]
theorem acells_one (az : List Au) : ∀ u ∈ acells az, u.oneCell' = true := by
  intro u hu
  obtain ⟨a, _, h⟩ := List.mem_flatMap.1 hu
  simp only [aucells, List.mem_cons, List.not_mem_nil, or_false] at h
  rcases h with rfl | rfl | rfl | rfl | rfl | rfl <;> rfl

theorem auths_of_own {w : World} {base g n cap : Nat} {t : TypeId} {az : List Au} (h : w.ownsRow base t 6 (.slice (some ⟨g, 0, none⟩) n cap) n (acells az)) : AuthsAt w (some ⟨g, 0, none⟩) az := by
  have hl := h.1
  rw [acells_len] at hl
  by_cases h0 : az = []
  · exact .inl h0
  · have hlt := (h.lt g rfl).2
    refine .inr ⟨g, 0, rfl, hlt, fun i hi => ?_⟩
    have := acells_at az i hi
    rw [Nat.zero_add, h.cellAt (i * 6) (by omega), h.cellAt (i * 6 + 1) (by omega), h.cellAt (i * 6 + 2) (by omega), h.cellAt (i * 6 + 3) (by omega), h.cellAt (i * 6 + 4) (by omega), h.cellAt (i * 6 + 5) (by omega)]
    exact this
theorem auths_of_own' {w : World} {base n : Nat} {t : TypeId} {v : Value} {az : List Au} (h : w.ownsRow base t 6 v n (acells az)) : ∃ ao cap, v = .slice ao az.length cap ∧ AuthsAt w ao az ∧ n = az.length := by
  have hn : n = az.length := by have := h.1; rw [acells_len] at this; omega
  subst hn
  rcases h.2 with ⟨rfl, hn⟩ | ⟨g, cap, cur, rfl, _⟩
  · have : az = [] := List.eq_nil_of_length_eq_zero hn
    subst this
    exact ⟨none, 0, rfl, .inl rfl, rfl⟩
  · exact ⟨_, cap, rfl, auths_of_own h, rfl⟩
theorem auths_any {w : World} {base n : Nat} {t : TypeId} {ao : Option Addr} {cap : Nat} {az : List Au} (h : w.ownsRow base t 6 (.slice ao n cap) n (acells az)) : AuthsAt w ao az := by
  obtain ⟨ao', cap', hv, hf, _⟩ := auths_of_own' h
  obtain ⟨rfl, _⟩ : ao = ao' ∧ n = az.length ∧ cap = cap' := by simpa using hv
  exact hf

/-- what a copy holds behind k rounds -/
def halfA (az : List Au) (k : Nat) : List Au := az.take k ++ List.replicate (az.length - k) zeroAu
theorem halfA_zero (az : List Au) : halfA az 0 = List.replicate az.length zeroAu := by simp [halfA]
theorem halfA_all (az : List Au) : halfA az az.length = az := by simp [halfA]
theorem halfA_len (az : List Au) (k : Nat) (h : k ≤ az.length) : (halfA az k).length = az.length := by simp [halfA]; omega
theorem halfA_succ (az : List Au) (k : Nat) (h : k < az.length) : (halfA az k).set k (auAt az k) = halfA az (k + 1) := by
  unfold halfA
  rw [List.set_append, if_neg (by simp; omega), List.length_take, Nat.min_eq_left (Nat.le_of_lt h), Nat.sub_self, show az.length - k = az.length - (k + 1) + 1 by omega, List.replicate_succ, List.set_cons_zero, List.take_succ_eq_append_getElem h, auAt_is h, List.append_assoc]
  rfl
theorem halfA_at (az : List Au) (k : Nat) (h : k < az.length) : auAt (halfA az k) k = zeroAu := by
  simp [auAt, halfA, List.getD_eq_getElem?_getD, List.getElem?_append, Nat.min_eq_left (Nat.le_of_lt h), List.getElem?_replicate]
  split <;> rfl

theorem infoA : (Try.prog.info? 87).map (fun i => (i.zero, i.size, i.bytes)) = some (some (.agg #[.string ⟨#[]⟩, .int .i64 0, .int .i64 0, .int .i64 0, .int .i64 0, .bool false]), 6, 56) := by kernel_rfl

theorem cells_repA (m : Nat) : (madeCells (Value.agg #[.string ⟨#[]⟩, .int .i64 0, .int .i64 0, .int .i64 0, .int .i64 0, .bool false]).cells (m * 6)).toList = acells (List.replicate m zeroAu) := by
  apply List.ext_getElem?
  intro j
  by_cases hj : j < m * 6
  · have hq : j / 6 < (List.replicate m zeroAu).length := by simp; omega
    have ha : auAt (List.replicate m zeroAu) (j / 6) = zeroAu := by
      simp [auAt, List.getD_eq_getElem?_getD, List.getElem?_replicate]; split <;> rfl
    have h := acells_at _ _ hq
    rw [ha] at h
    have hl : (madeCells (Value.agg #[.string ⟨#[]⟩, .int .i64 0, .int .i64 0, .int .i64 0, .int .i64 0, .bool false]).cells (m * 6)).toList[j]? = some ((#[Value.string ⟨#[]⟩, .int .i64 0, .int .i64 0, .int .i64 0, .int .i64 0, .bool false] : Array Value)[j % 6]!) := by
      simp [madeCells, hj, Value.cells]
    obtain ⟨h0, h1, h2, h3, h4, h5⟩ := h
    rcases (show j % 6 = 0 ∨ j % 6 = 1 ∨ j % 6 = 2 ∨ j % 6 = 3 ∨ j % 6 = 4 ∨ j % 6 = 5 by omega) with e | e | e | e | e | e
    · rw [hl, e, show j = j / 6 * 6 by omega, h0]; rfl
    · rw [hl, e, show j = j / 6 * 6 + 1 by omega, h1]; rfl
    · rw [hl, e, show j = j / 6 * 6 + 2 by omega, h2]; rfl
    · rw [hl, e, show j = j / 6 * 6 + 3 by omega, h3]; rfl
    · rw [hl, e, show j = j / 6 * 6 + 4 by omega, h4]; rfl
    · rw [hl, e, show j = j / 6 * 6 + 5 by omega, h5]; rfl
  · rw [List.getElem?_eq_none (by rw [Array.length_toList, size_madeCells]; omega), List.getElem?_eq_none (by rw [acells_len]; simp; omega)]

end Go.Proofs.Ytkdodamdjajbiaa
