/- What a digit that is put behind, changed, or turned with its neighbour makes of a card number: plainly. -/
import Derived.Test.YtiiechnbionhnaaFCard5
namespace Go.Proofs.Ytiiechnbionhnaa

def isD (c : UInt8) : Prop := 48 ≤ c.toNat ∧ c.toNat ≤ 57

theorem last_behind (l : List UInt8) (c : UInt8) : ∀ k, k ≤ l.length → lastV false (l ++ [c]) (k + 1) = (c.toNat - 48) + lastV true l k := by
  intro k
  induction k with
  | zero =>
    intro _
    simp [lastV, digV]
  | succ k ih =>
    intro hk
    rw [lastV, ih (by omega), lastV]
    have e1 : (l ++ [c]).length - 1 - (k + 1) = l.length - 1 - k := by simp; omega
    have e2 : (l ++ [c]).getD (l.length - 1 - k) 0 = l.getD (l.length - 1 - k) 0 := by
      simp only [List.getD_eq_getElem?_getD]
      rw [List.getElem?_append_left (by omega)]
    have e3 : (false != decide ((k + 1) % 2 = 1)) = (true != decide (k % 2 = 1)) := by
      by_cases h : k % 2 = 1
      · have : ¬ (k + 1) % 2 = 1 := by omega
        simp [h, this]
      · have : (k + 1) % 2 = 1 := by omega
        simp [h, this]
    rw [e1, e2, e3, Nat.add_assoc]

theorem luhn_behind (l : List UInt8) (c : UInt8) : luhn false (l ++ [c]) = (c.toNat - 48) + luhn true l := by
  rw [luhn, List.length_append, List.length_singleton]
  exact last_behind l c l.length (Nat.le_refl _)

/-- how the digit at place i is taken -/
def parA (tw : Bool) (l : List UInt8) (i : Nat) : Bool := tw != decide ((l.length - 1 - i) % 2 = 1)

theorem last_set (tw : Bool) (l : List UInt8) (i : Nat) (c : UInt8) (hi : i < l.length) : ∀ k, k ≤ l.length →
    lastV tw (l.set i c) k + (if l.length - 1 - i < k then digV (parA tw l i) (l.getD i 0) else 0) = lastV tw l k + (if l.length - 1 - i < k then digV (parA tw l i) c else 0) := by
  intro k
  induction k with
  | zero => intro _; simp [lastV]
  | succ k ih =>
    intro hk
    have h := ih (by omega)
    simp only [lastV, List.length_set]
    by_cases he : l.length - 1 - i = k
    · have e1 : l.length - 1 - k = i := by omega
      rw [if_neg (by omega), if_neg (by omega)] at h
      rw [if_pos (by omega), if_pos (by omega), e1]
      have e2 : (l.set i c).getD i 0 = c := by simp [List.getD_eq_getElem?_getD, hi]
      have e3 : parA tw l i = (tw != decide (k % 2 = 1)) := by rw [parA, he]
      rw [e2, e3]
      omega
    · have e2 : (l.set i c).getD (l.length - 1 - k) 0 = l.getD (l.length - 1 - k) 0 := by
        simp only [List.getD_eq_getElem?_getD]
        rw [List.getElem?_set_ne (by omega)]
      rw [e2]
      by_cases hl : l.length - 1 - i < k
      · rw [if_pos hl, if_pos hl] at h
        rw [if_pos (by omega), if_pos (by omega)]
        omega
      · rw [if_neg hl, if_neg hl] at h
        rw [if_neg (by omega), if_neg (by omega)]
        omega

theorem luhn_set (tw : Bool) (l : List UInt8) (i : Nat) (c : UInt8) (hi : i < l.length) : luhn tw (l.set i c) + digV (parA tw l i) (l.getD i 0) = luhn tw l + digV (parA tw l i) c := by
  have h := last_set tw l i c hi l.length (Nat.le_refl _)
  rw [if_pos (by omega), if_pos (by omega)] at h
  rw [luhn, List.length_set]
  exact h

/-- what a digit counts, as a number -/
def dgN (tw : Bool) (n : Nat) : Nat := if tw then (if 9 < 2 * n then 2 * n - 9 else 2 * n) else n
theorem dig_dgN (tw : Bool) (c : UInt8) : digV tw c = dgN tw (c.toNat - 48) := rfl

theorem one_facts : ∀ tw : Bool, ∀ a b : Fin 10, dgN tw a.val = dgN tw b.val → a = b := by decide
theorem two_facts : ∀ tw : Bool, ∀ a b : Fin 10, ((dgN tw b.val + dgN (!tw) a.val) % 10 = (dgN tw a.val + dgN (!tw) b.val) % 10 ↔ (a = b ∨ (a.val = 0 ∧ b.val = 9) ∨ (a.val = 9 ∧ b.val = 0))) := by decide

theorem within_set {l : List UInt8} {i : Nat} {c : UInt8} (h : within 48 57 l = true) (hc : isD c) : within 48 57 (l.set i c) = true := by
  unfold within at h ⊢
  rw [List.all_eq_true] at h ⊢
  intro x hx
  rcases List.mem_or_eq_of_mem_set hx with h1 | h1
  · exact h x h1
  · subst h1
    have := hc
    unfold isD at this
    simp [this.1, this.2]
theorem within_behind {l : List UInt8} {c : UInt8} (h : within 48 57 l = true) (hc : isD c) : within 48 57 (l ++ [c]) = true := by
  unfold within at h ⊢
  rw [List.all_append, h]
  have := hc
  unfold isD at this
  simp [this.1, this.2]

theorem card_iff {l : List UInt8} (hl : 12 ≤ l.length ∧ l.length ≤ 19) (hw : within 48 57 l = true) : cardOk l = decide (luhn false l % 10 = 0) := by
  unfold cardOk
  rw [decide_eq_true hl, hw]
  rfl

/-- the check digit makes a card number -/
theorem card_made {l : List UInt8} {d : Nat} (h : checkV l = (d : Int)) : d ≤ 9 ∧ (11 ≤ l.length ∧ l.length ≤ 18) ∧ cardOk (l ++ [UInt8.ofNat (48 + d)]) = true := by
  unfold checkV at h
  split at h
  · rename_i hc
    rw [Bool.and_eq_true] at hc
    have hl : 11 ≤ l.length ∧ l.length ≤ 18 := of_decide_eq_true hc.1
    have hd : d = (10 - luhn true l % 10) % 10 := by omega
    have hd9 : d ≤ 9 := by omega
    refine ⟨hd9, hl, ?_⟩
    have hb : (UInt8.ofNat (48 + d)).toNat = 48 + d := by rw [UInt8.toNat_ofNat']; omega
    rw [card_iff (by rw [List.length_append, List.length_singleton]; omega) (within_behind hc.2 ⟨by omega, by omega⟩), luhn_behind, hb]
    exact decide_eq_true (by omega)
  · omega

theorem at_digit {l : List UInt8} (hc : cardOk l = true) {i : Nat} (hi : i < l.length) : isD (l.getD i 0) := within_at (card_in hc).2 hi

/-- with one digit changed it is none -/
theorem card_one {l : List UInt8} (hc : cardOk l = true) {i : Nat} (hi : i < l.length) {c : UInt8} (hd : isD c) (hne : c ≠ l.getD i 0) : cardOk (l.set i c) = false := by
  have h := card_in hc
  have h0 := at_digit hc hi
  rw [card_iff h.1 h.2] at hc
  have hz : luhn false l % 10 = 0 := of_decide_eq_true hc
  rw [card_iff (by rw [List.length_set]; exact h.1) (within_set h.2 hd)]
  have hs := luhn_set false l i c hi
  have l1 := digV_le (parA false l i) hd
  have l2 := digV_le (parA false l i) h0
  refine decide_eq_false fun hx => hne ?_
  have he : digV (parA false l i) c = digV (parA false l i) (l.getD i 0) := by omega
  rw [dig_dgN, dig_dgN] at he
  unfold isD at hd h0
  have hf := one_facts (parA false l i) ⟨c.toNat - 48, by omega⟩ ⟨(l.getD i 0).toNat - 48, by omega⟩ he
  have hv := congrArg Fin.val hf
  simp only at hv
  exact UInt8.toNat.inj (by omega)

theorem turn_within {l : List UInt8} (hc : cardOk l = true) {k : Nat} (hk : k + 1 < l.length) : turnL l (k : Int) = turnK l k := by
  rw [turnL, turnOk, Int.toNat_natCast, hasB_pos (by omega) (by omega) (by omega)]
  have hw : within 48 57 ((l.drop k).take 2) = true := by
    have h := (card_in hc).2
    unfold within at h ⊢
    rw [List.all_eq_true] at h ⊢
    intro x hx
    exact h x (List.mem_of_mem_drop (List.mem_of_mem_take hx))
  rw [hw]
  rfl

theorem turnK_at {l : List UInt8} {k : Nat} (hk : k + 1 < l.length) : (turnK l k).length = l.length ∧ (turnK l k).getD k 0 = l.getD (k + 1) 0 ∧ (turnK l k).getD (k + 1) 0 = l.getD k 0 := by
  refine ⟨by simp [turnK], ?_, ?_⟩
  · simp [turnK, List.getD_eq_getElem?_getD, show k < l.length from by omega]
  · simp [turnK, List.getD_eq_getElem?_getD, show k + 1 < l.length from hk]

theorem turn_twice {l : List UInt8} {k : Nat} (hk : k + 1 < l.length) : turnK (turnK l k) k = l := by
  obtain ⟨e0, e1, e2⟩ := turnK_at hk
  rw [turnK, e1, e2]
  refine List.ext_getElem (by simp [turnK]) fun i h1 h2 => ?_
  simp only [turnK, List.getElem_set]
  by_cases hb : k + 1 = i
  · subst hb
    rw [if_pos rfl]
    simp [List.getD_eq_getElem?_getD, hk]
  · rw [if_neg hb]
    by_cases ha : k = i
    · subst ha
      rw [if_pos rfl]
      simp [List.getD_eq_getElem?_getD, h2]
    · rw [if_neg ha, if_neg hb, if_neg ha]

theorem turn_isD {l : List UInt8} (hc : cardOk l = true) {k : Nat} (hk : k + 1 < l.length) : within 48 57 (turnK l k) = true :=
  within_set (within_set (card_in hc).2 (at_digit hc hk)) (at_digit hc (show k < l.length by omega))

theorem turn_back {l : List UInt8} (hc : cardOk l = true) {k : Nat} (hk : k + 1 < l.length) : turnL (turnK l k) (k : Int) = l := by
  have e0 := (turnK_at hk).1
  rw [turnL, turnOk, Int.toNat_natCast, hasB_pos (by omega) (by omega) (by omega)]
  have hw : within 48 57 (((turnK l k).drop k).take 2) = true := by
    have h := turn_isD hc hk
    unfold within at h ⊢
    rw [List.all_eq_true] at h ⊢
    intro x hx
    exact h x (List.mem_of_mem_drop (List.mem_of_mem_take hx))
  rw [hw]
  exact turn_twice hk

/-- with two neighbours changed it is one just when they are the same, or 0 and 9 -/
theorem card_two {l : List UInt8} (hc : cardOk l = true) {k : Nat} (hk : k + 1 < l.length) {x y : UInt8} (hx : l.getD k 0 = x) (hy : l.getD (k + 1) 0 = y) :
    cardOk (turnK l k) = (x == y || ((x == 48 && y == 57) || (x == 57 && y == 48))) := by
  have h := card_in hc
  have hxd : isD x := by rw [← hx]; exact at_digit hc (by omega)
  have hyd : isD y := by rw [← hy]; exact at_digit hc hk
  have hwt := turn_isD hc hk
  have e0 := (turnK_at hk).1
  rw [card_iff h.1 h.2] at hc
  have hz : luhn false l % 10 = 0 := of_decide_eq_true hc
  rw [card_iff (by rw [e0]; exact h.1) hwt]
  have s1 := luhn_set false l k y (by omega)
  have s2 := luhn_set false (l.set k y) (k + 1) x (by rw [List.length_set]; omega)
  have e2 : (l.set k y).getD (k + 1) 0 = y := by
    simp only [List.getD_eq_getElem?_getD] at hy ⊢
    rw [List.getElem?_set_ne (by omega)]
    exact hy
  have ep : parA false (l.set k y) (k + 1) = !(parA false l k) := by
    unfold parA
    rw [List.length_set]
    by_cases hp : (l.length - 1 - k) % 2 = 1
    · have : ¬ (l.length - 1 - (k + 1)) % 2 = 1 := by omega
      simp [hp, this]
    · have : (l.length - 1 - (k + 1)) % 2 = 1 := by omega
      simp [hp, this]
  rw [e2, ep] at s2
  rw [hx] at s1
  have et : (l.set k y).set (k + 1) x = turnK l k := by rw [turnK, hx, hy]
  rw [et] at s2
  simp only [dig_dgN] at s1 s2
  unfold isD at hxd hyd
  have hf := two_facts (parA false l k) ⟨x.toNat - 48, by omega⟩ ⟨y.toNat - 48, by omega⟩
  simp only [Fin.mk.injEq] at hf
  generalize dgN (parA false l k) (x.toNat - 48) = px at *
  generalize dgN (parA false l k) (y.toNat - 48) = py at *
  generalize dgN (!(parA false l k)) (x.toNat - 48) = qx at *
  generalize dgN (!(parA false l k)) (y.toNat - 48) = qy at *
  have key : luhn false (turnK l k) % 10 = 0 ↔ (x = y ∨ (x = 48 ∧ y = 57) ∨ (x = 57 ∧ y = 48)) := by
    have k1 : luhn false (turnK l k) % 10 = 0 ↔ (py + qx) % 10 = (px + qy) % 10 := by omega
    rw [k1, hf]
    have u1 : x = y ↔ x.toNat = y.toNat := ⟨fun h => by rw [h], fun h => UInt8.toNat.inj h⟩
    have u2 : x = 48 ↔ x.toNat = 48 := ⟨fun h => by rw [h]; rfl, fun h => UInt8.toNat.inj (by rw [h]; rfl)⟩
    have u3 : x = 57 ↔ x.toNat = 57 := ⟨fun h => by rw [h]; rfl, fun h => UInt8.toNat.inj (by rw [h]; rfl)⟩
    have u4 : y = 48 ↔ y.toNat = 48 := ⟨fun h => by rw [h]; rfl, fun h => UInt8.toNat.inj (by rw [h]; rfl)⟩
    have u5 : y = 57 ↔ y.toNat = 57 := ⟨fun h => by rw [h]; rfl, fun h => UInt8.toNat.inj (by rw [h]; rfl)⟩
    rw [u1, u2, u3, u4, u5]
    omega
  rw [Bool.eq_iff_iff]
  simp only [decide_eq_true_eq, Bool.or_eq_true, Bool.and_eq_true, beq_iff_eq]
  exact key

end Go.Proofs.Ytiiechnbionhnaa
