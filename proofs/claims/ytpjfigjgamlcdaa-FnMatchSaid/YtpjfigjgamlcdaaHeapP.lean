/- Heaps of candidates, plainly: the least one stands first; what one step upward does; which authorization is the best. No Go in sight. -/
import Derived.Test.YtpjfigjgamlcdaaAuP
namespace Go.Proofs.Ytpjfigjgamlcdaa

/-- a candidate: its score and its place -/
abbrev Cd := Int × Int
def ltC (x y : Cd) : Bool := decide (x.1 < y.1 ∨ (x.1 = y.1 ∧ x.2 < y.2))
theorem lt_irr (x : Cd) : ltC x x = false := by simp only [ltC, decide_eq_false_iff_not]; omega
theorem lt_asym {x y : Cd} (h : ltC x y = true) : ltC y x = false := by simp only [ltC, decide_eq_true_eq, decide_eq_false_iff_not] at *; omega
theorem ge_trans {x y z : Cd} (h : ltC z y = false) (g : ltC y x = false) : ltC z x = false := by simp only [ltC, decide_eq_false_iff_not] at *; omega
theorem ge_of_lt {k p j : Cd} (h : ltC k p = false) (g : ltC j p = true) : ltC k j = false := by simp only [ltC, decide_eq_true_eq, decide_eq_false_iff_not] at *; omega

def par (j : Nat) : Nat := (j - 1) / 2
theorem par_lt {j : Nat} (h : 0 < j) : par j < j := by unfold par; omega
/-- each one is not less than the one above it -/
def HeapF (f : Nat → Cd) (n : Nat) : Prop := ∀ k, 0 < k → k < n → ltC (f k) (f (par k)) = false
/-- so, but perhaps for the one at j -/
def NearF (f : Nat → Cd) (n j : Nat) : Prop := (∀ k, 0 < k → k < n → k ≠ j → ltC (f k) (f (par k)) = false) ∧ (0 < j → ∀ k, 0 < k → k < n → par k = j → ltC (f k) (f (par j)) = false)
def swapF (f : Nat → Cd) (i k : Nat) : Nat → Cd := fun m => if m = i then f k else if m = k then f i else f m
theorem swapF_i (f : Nat → Cd) (i k : Nat) : swapF f i k i = f k := if_pos rfl
theorem swapF_k (f : Nat → Cd) (i k : Nat) : swapF f i k k = f i := by
  unfold swapF
  by_cases h : k = i
  · rw [if_pos h, h]
  · rw [if_neg h, if_pos rfl]
theorem swapF_m (f : Nat → Cd) {i k m : Nat} (h : m ≠ i) (g : m ≠ k) : swapF f i k m = f m := by unfold swapF; rw [if_neg h, if_neg g]
theorem near_done {f : Nat → Cd} {n j : Nat} (h : NearF f n j) (hj : j = 0 ∨ ltC (f j) (f (par j)) = false) : HeapF f n := by
  intro k h0 hk
  by_cases e : k = j
  · subst e
    rcases hj with rfl | hj
    · omega
    · exact hj
  · exact h.1 k h0 hk e
theorem near_swap {f : Nat → Cd} {n j : Nat} (h : NearF f n j) (h0 : 0 < j) (hj : j < n) (hl : ltC (f j) (f (par j)) = true) : NearF (swapF f (par j) j) n (par j) := by
  have hp := par_lt h0
  refine ⟨fun k k0 kn kp => ?_, fun p0 k k0 kn kp => ?_⟩
  · by_cases kj : k = j
    · subst kj
      rw [swapF_k, swapF_i]
      exact lt_asym hl
    · rw [swapF_m f kp kj]
      by_cases e1 : par k = par j
      · rw [e1, swapF_i]
        have := h.1 k k0 kn kj
        rw [e1] at this
        exact ge_of_lt this hl
      · by_cases e2 : par k = j
        · rw [e2, swapF_k]
          exact h.2 h0 k k0 kn e2
        · rw [swapF_m f e1 e2]
          exact h.1 k k0 kn kj
  · have hpp := par_lt p0
    rw [swapF_m f (show par (par j) ≠ par j by omega) (show par (par j) ≠ j by omega)]
    have hq := h.1 (par j) p0 (by omega) (by omega)
    by_cases kj : k = j
    · subst kj
      rw [swapF_k]
      exact hq
    · have hkp := par_lt k0
      rw [swapF_m f (show k ≠ par j by omega) kj]
      have := h.1 k k0 kn kj
      rw [kp] at this
      exact ge_trans this hq
theorem heap_min {f : Nat → Cd} {n : Nat} (h : HeapF f n) : ∀ k, k < n → ltC (f k) (f 0) = false := by
  intro k
  induction k using Nat.strongRecOn with
  | _ k ih =>
    intro hk
    by_cases k0 : k = 0
    · subst k0; exact lt_irr _
    · have hp := par_lt (show 0 < k by omega)
      exact ge_trans (h k (by omega) hk) (ih (par k) hp (by omega))

def cdAt (H : List Cd) (k : Nat) : Cd := H.getD k (0, 0)
theorem cdAt_is {H : List Cd} {k : Nat} (h : k < H.length) : cdAt H k = H[k] := by simp [cdAt, List.getD_eq_getElem?_getD, h]
def IsHeap (H : List Cd) : Prop := HeapF (cdAt H) H.length
def Near (H : List Cd) (j : Nat) : Prop := NearF (cdAt H) H.length j
def swapL (H : List Cd) (i k : Nat) : List Cd := (H.set i (cdAt H k)).set k (cdAt H i)
theorem swapL_len (H : List Cd) (i k : Nat) : (swapL H i k).length = H.length := by simp [swapL]
theorem swapL_at {H : List Cd} {i k : Nat} (hi : i < H.length) (hk : k < H.length) (m : Nat) : cdAt (swapL H i k) m = swapF (cdAt H) i k m := by
  unfold swapF swapL
  by_cases hm : m < H.length
  · rw [cdAt_is (by simp; exact hm)]
    by_cases e2 : m = k
    · subst e2
      rw [List.getElem_set_self]
      by_cases e1 : m = i
      · rw [if_pos e1, e1]
      · rw [if_neg e1, if_pos rfl]
    · rw [List.getElem_set_ne (by omega)]
      by_cases e1 : m = i
      · subst e1
        rw [List.getElem_set_self, if_pos rfl]
      · rw [List.getElem_set_ne (by omega), if_neg e1, if_neg e2, cdAt_is hm]
  · have e1 : m ≠ i := by omega
    have e2 : m ≠ k := by omega
    rw [if_neg e1, if_neg e2]
    simp [cdAt, List.getD_eq_getElem?_getD, hm]
theorem swapL_fun {H : List Cd} {i k : Nat} (hi : i < H.length) (hk : k < H.length) : cdAt (swapL H i k) = swapF (cdAt H) i k := funext (swapL_at hi hk)
/-- the same candidates, in whatever order -/
def SameC (H G : List Cd) : Prop := G.length = H.length ∧ (∀ i, i < H.length → ∃ j, j < H.length ∧ cdAt G i = cdAt H j) ∧ (∀ j, j < H.length → ∃ i, i < H.length ∧ cdAt G i = cdAt H j)
theorem SameC.refl (H : List Cd) : SameC H H := ⟨rfl, fun i hi => ⟨i, hi, rfl⟩, fun j hj => ⟨j, hj, rfl⟩⟩
theorem SameC.trans {H G K : List Cd} (h : SameC H G) (g : SameC G K) : SameC H K := by
  refine ⟨g.1.trans h.1, fun i hi => ?_, fun j hj => ?_⟩
  · obtain ⟨a, ha, e⟩ := g.2.1 i (by rw [h.1]; exact hi)
    obtain ⟨b, hb, e'⟩ := h.2.1 a (by rw [h.1] at ha; exact ha)
    exact ⟨b, hb, e.trans e'⟩
  · obtain ⟨a, ha, e⟩ := h.2.2 j hj
    obtain ⟨b, hb, e'⟩ := g.2.2 a (by rw [h.1]; exact ha)
    exact ⟨b, by rw [h.1] at hb; exact hb, e'.trans e⟩
theorem same_swap {H : List Cd} {i k : Nat} (hi : i < H.length) (hk : k < H.length) : SameC H (swapL H i k) := by
  refine ⟨swapL_len H i k, fun m hm => ?_, fun m hm => ?_⟩
  · rw [swapL_at hi hk]
    by_cases e1 : m = i
    · exact ⟨k, hk, by rw [e1, swapF_i]⟩
    · by_cases e2 : m = k
      · exact ⟨i, hi, by rw [e2, swapF_k]⟩
      · exact ⟨m, hm, swapF_m _ e1 e2⟩
  · by_cases e1 : m = i
    · exact ⟨k, hk, by rw [swapL_at hi hk, swapF_k, e1]⟩
    · by_cases e2 : m = k
      · exact ⟨i, hi, by rw [swapL_at hi hk, swapF_i, e2]⟩
      · exact ⟨m, hm, by rw [swapL_at hi hk, swapF_m _ e1 e2]⟩
theorem cdAt_app {H : List Cd} {x : Cd} {k : Nat} (h : k < H.length) : cdAt (H ++ [x]) k = cdAt H k := by
  rw [cdAt_is (by simp; omega), cdAt_is h, List.getElem_append_left h]
theorem cdAt_last (H : List Cd) (x : Cd) : cdAt (H ++ [x]) H.length = x := by
  rw [cdAt_is (by simp)]; simp
theorem push_near {H : List Cd} (h : IsHeap H) (x : Cd) : Near (H ++ [x]) H.length := by
  refine ⟨fun k k0 kn kj => ?_, fun j0 k k0 kn kp => ?_⟩
  · have hk : k < H.length := by simp at kn; omega
    have hp := par_lt k0
    rw [cdAt_app hk, cdAt_app (by omega)]
    exact h k k0 hk
  · have hp := par_lt k0
    simp at kn
    omega

/-- a heap of the candidates among the first n, whose scores are sc -/
structure Cands (sc : Nat → Int) (n : Nat) (H : List Cd) : Prop where
  heap : IsHeap H
  only : ∀ i, i < H.length → ∃ m, m < n ∧ cdAt H i = (sc m, (m : Int)) ∧ 0 ≤ sc m
  all : ∀ m, m < n → 0 ≤ sc m → ∃ i, i < H.length ∧ cdAt H i = (sc m, (m : Int))
  le : H.length ≤ n
theorem Cands.start (sc : Nat → Int) : Cands sc 0 [] := ⟨fun k _ h => by simp at h, fun i h => by simp at h, fun m h => by omega, Nat.le_refl _⟩
theorem Cands.skip {sc : Nat → Int} {n : Nat} {H : List Cd} (h : Cands sc n H) (hs : sc n < 0) : Cands sc (n + 1) H := by
  refine ⟨h.heap, fun i hi => ?_, fun m hm h0 => ?_, Nat.le_succ_of_le h.le⟩
  · obtain ⟨m, hm, e⟩ := h.only i hi
    exact ⟨m, by omega, e⟩
  · by_cases e : m = n
    · subst e; omega
    · exact h.all m (by omega) h0
theorem Cands.push {sc : Nat → Int} {n : Nat} {H G : List Cd} (h : Cands sc n H) (hs : 0 ≤ sc n) (hg : IsHeap G) (hsame : SameC (H ++ [(sc n, (n : Int))]) G) : Cands sc (n + 1) G := by
  have hl := hsame.1
  simp at hl
  have hle := h.le
  refine ⟨hg, fun i hi => ?_, fun m hm h0 => ?_, by omega⟩
  · obtain ⟨j, hj, e⟩ := hsame.2.1 i (by simp; omega)
    rw [e]
    simp at hj
    by_cases ej : j = H.length
    · subst ej
      rw [cdAt_last]
      exact ⟨n, by omega, rfl, hs⟩
    · rw [cdAt_app (show j < H.length by omega)]
      obtain ⟨m, hm, e2⟩ := h.only j (by omega)
      exact ⟨m, by omega, e2⟩
  · by_cases e : m = n
    · subst e
      obtain ⟨i, hi, e2⟩ := hsame.2.2 H.length (by simp)
      rw [cdAt_last] at e2
      exact ⟨i, by simp at hi; omega, e2⟩
    · obtain ⟨j, hj, e2⟩ := h.all m (by omega) h0
      obtain ⟨i, hi, e3⟩ := hsame.2.2 j (by simp; omega)
      rw [cdAt_app hj] at e3
      exact ⟨i, by simp at hi; omega, e3.trans e2⟩

/-- which place is the best of n with scores sc; -1 for none -/
def Best (sc : Nat → Int) (n : Nat) (x : Int) : Prop := (x = -1 ∧ ∀ k, k < n → sc k < 0) ∨ ∃ i : Nat, i < n ∧ x = (i : Int) ∧ 0 ≤ sc i ∧ ∀ k, k < n → 0 ≤ sc k → (sc i < sc k ∨ (sc i = sc k ∧ i ≤ k))
theorem best_one {sc : Nat → Int} {n : Nat} {x y : Int} (h : Best sc n x) (g : Best sc n y) : x = y := by
  rcases h with ⟨rfl, h⟩ | ⟨i, hi, rfl, hs, h⟩
  · rcases g with ⟨rfl, _⟩ | ⟨k, hk, rfl, gs, _⟩
    · rfl
    · have := h k hk; omega
  · rcases g with ⟨rfl, g⟩ | ⟨k, hk, rfl, gs, g⟩
    · have := g i hi; omega
    · have h1 := h k hk gs
      have h2 := g i hi hs
      omega
theorem best_none {sc : Nat → Int} {n : Nat} {H : List Cd} (h : Cands sc n H) (h0 : H.length = 0) : Best sc n (-1) := by
  refine .inl ⟨rfl, fun k hk => ?_⟩
  by_cases e : sc k < 0
  · exact e
  · obtain ⟨i, hi, _⟩ := h.all k hk (by omega)
    omega
theorem best_root {sc : Nat → Int} {n : Nat} {H : List Cd} (h : Cands sc n H) (h0 : 0 < H.length) : Best sc n (cdAt H 0).2 := by
  obtain ⟨m, hm, e, hs⟩ := h.only 0 h0
  refine .inr ⟨m, hm, by rw [e], hs, fun k hk ks => ?_⟩
  obtain ⟨i, hi, e2⟩ := h.all k hk ks
  have := heap_min h.heap i hi
  rw [e, e2] at this
  simp only [ltC, decide_eq_false_iff_not] at this
  omega
/-- one more, looked at in order -/
theorem best_step {sc : Nat → Int} {n : Nat} {x : Int} (h : Best sc n x) (hs : sc n < 0) : Best sc (n + 1) x := by
  rcases h with ⟨rfl, h⟩ | ⟨i, hi, rfl, h1, h⟩
  · exact .inl ⟨rfl, fun k hk => by by_cases e : k = n; subst e; exact hs; exact h k (by omega)⟩
  · exact .inr ⟨i, by omega, rfl, h1, fun k hk ks => by by_cases e : k = n; subst e; omega; exact h k (by omega) ks⟩
theorem best_first {sc : Nat → Int} {n : Nat} (h : Best sc n (-1)) (hs : 0 ≤ sc n) : Best sc (n + 1) (n : Int) := by
  refine .inr ⟨n, by omega, rfl, hs, fun k hk ks => ?_⟩
  rcases h with ⟨_, h⟩ | ⟨i, _, e, _⟩
  · by_cases e : k = n
    · subst e; omega
    · have := h k (by omega); omega
  · omega
theorem best_new {sc : Nat → Int} {n i : Nat} (h : Best sc n (i : Int)) (hs : 0 ≤ sc n) (hl : sc n < sc i) : Best sc (n + 1) (n : Int) := by
  refine .inr ⟨n, by omega, rfl, hs, fun k hk ks => ?_⟩
  rcases h with ⟨e, _⟩ | ⟨j, hj, e, _, h⟩
  · omega
  · have ej : j = i := by omega
    subst ej
    by_cases e : k = n
    · subst e; omega
    · have := h k (by omega) ks; omega
theorem best_old {sc : Nat → Int} {n i : Nat} (h : Best sc n (i : Int)) (hl : ¬ sc n < sc i) : Best sc (n + 1) (i : Int) := by
  rcases h with ⟨e, _⟩ | ⟨j, hj, e, h1, h⟩
  · omega
  · have ej : j = i := by omega
    subst ej
    exact .inr ⟨j, by omega, rfl, h1, fun k hk ks => by by_cases e : k = n; subst e; omega; exact h k (by omega) ks⟩

end Go.Proofs.Ytpjfigjgamlcdaa
