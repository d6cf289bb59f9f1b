/- Lines whose parties are small numbers, plainly. -/
import Derived.Test.YtlonjjliochbhaaKE1BkLiB
import Derived.Test.YtlonjjliochbhaaJE10a
namespace Go.Proofs.Ytlonjjliochbhaa
open Go.RowKit
set_option maxRecDepth 100000

def NoB (x : List UInt8) : Prop := ∀ c ∈ x, c ≠ 32
theorem noB_of {x : List UInt8} (h : x.all (fun c => c != 32) = true) : NoB x := fun c hc e => by
  have := List.all_eq_true.1 h c hc
  rw [e] at this
  exact absurd this (by decide)

theorem scan_head {x r : List UInt8} (hx : NoB x) : ∀ i, i ≤ x.length → scanW (x ++ 32 :: r) i = ([], 0) := by
  intro i
  induction i with
  | zero => intro _; rfl
  | succ i ih =>
    intro hi
    have hg : (x ++ 32 :: r).getD i 0 = x[i] := by
      rw [List.getD_eq_getElem?_getD, List.getElem?_append_left (by omega), List.getElem?_eq_getElem (by omega)]
      rfl
    rw [scanW_no (by rw [hg]; exact hx _ (List.getElem_mem _))]
    exact ih (by omega)
theorem drop_x (x r : List UInt8) (s : Nat) : (x ++ 32 :: r).drop (x.length + 1 + s) = r.drop s := by
  rw [List.drop_append, List.drop_of_length_le (by omega), List.nil_append, show x.length + 1 + s - x.length = s + 1 from by omega]
  rfl
theorem scan_tail {x r : List UInt8} (hx : NoB x) : ∀ j, j ≤ r.length → scanW (x ++ 32 :: r) (x.length + 1 + j) = (x :: (scanW r j).1, x.length + 1 + (scanW r j).2) := by
  intro j
  induction j with
  | zero =>
    intro _
    have hg : (x ++ 32 :: r).getD x.length 0 = 32 := by simp [List.getD_eq_getElem?_getD]
    show scanW (x ++ 32 :: r) (x.length + 1) = _
    rw [scanW_yes hg, scan_head hx _ (Nat.le_refl _)]
    simp [scanW]
  | succ j ih =>
    intro hj
    have h := ih (by omega)
    have hg : (x ++ 32 :: r).getD (x.length + 1 + j) 0 = r.getD j 0 := by
      rw [List.getD_eq_getElem?_getD, List.getElem?_append_right (by omega), show x.length + 1 + j - x.length = j + 1 from by omega]
      simp [List.getD_eq_getElem?_getD]
    have hle := (scanW_le r j).1
    by_cases h32 : r.getD j 0 = 32
    · rw [show x.length + 1 + (j + 1) = (x.length + 1 + j) + 1 from by omega, scanW_yes (by rw [hg]; exact h32), h, scanW_yes h32]
      simp only [List.cons_append]
      rw [drop_x, show x.length + 1 + j - (x.length + 1 + (scanW r j).2) = j - (scanW r j).2 from by omega]
      rfl
    · rw [show x.length + 1 + (j + 1) = (x.length + 1 + j) + 1 from by omega, scanW_no (by rw [hg]; exact h32), h, scanW_no h32]
theorem words_cons {x r : List UInt8} (hx : NoB x) : wordsW (x ++ 32 :: r) = x :: wordsW r := by
  have h := scan_tail hx (r := r) r.length (Nat.le_refl _)
  have hl : (x ++ 32 :: r).length = x.length + 1 + r.length := by simp; omega
  rw [wordsW, hl, h, wordsW]
  simp only [List.cons_append]
  rw [drop_x]

def GoodL (l : List UInt8) : Prop := (isAuth (wordsW l) = true → numW (nth (wordsW l) 2) ≤ 8) ∧ (isPay (wordsW l) = true → numW (nth (wordsW l) 1) ≤ 8 ∧ numW (nth (wordsW l) 2) ≤ 8)
theorem numW_8 {s : List UInt8} (h : numOf s ≤ 8) : numW s ≤ 8 := by
  unfold numW
  split
  · omega
  · split
    · omega
    · exact h
theorem num_digit {m : Nat} (h : m ≤ 8) : numOf [UInt8.ofNat (48 + m)] ≤ 8 := by
  rcases (show m = 0 ∨ m = 1 ∨ m = 2 ∨ m = 3 ∨ m = 4 ∨ m = 5 ∨ m = 6 ∨ m = 7 ∨ m = 8 from by omega) with rfl | rfl | rfl | rfl | rfl | rfl | rfl | rfl | rfl <;> decide
theorem dig_no {m : Nat} (h : m ≤ 9) : NoB [UInt8.ofNat (48 + m)] := by
  intro c hc
  rw [List.mem_singleton] at hc
  subst hc
  rcases (show m = 0 ∨ m = 1 ∨ m = 2 ∨ m = 3 ∨ m = 4 ∨ m = 5 ∨ m = 6 ∨ m = 7 ∨ m = 8 ∨ m = 9 from by omega) with rfl | rfl | rfl | rfl | rfl | rfl | rfl | rfl | rfl | rfl <;> decide


theorem good_other {x : List UInt8} (hx : NoB x) (h1 : x ≠ authW) (h2 : x ≠ payT) (r : List UInt8) : GoodL (x ++ 32 :: r) := by
  have e : nth (wordsW (x ++ 32 :: r)) 0 = x := by rw [words_cons hx]; rfl
  constructor
  · intro h
    unfold isAuth at h
    rw [e, decide_eq_false h1] at h
    cases h
  · intro h
    unfold isPay at h
    rw [e, decide_eq_false h2] at h
    cases h
theorem good_auth {A D : List UInt8} (hA : NoB A) (hD : NoB D) (h : numOf D ≤ 8) (r : List UInt8) : GoodL ([97, 117, 116, 104] ++ 32 :: (A ++ 32 :: (D ++ 32 :: r))) := by
  have e : wordsW ([97, 117, 116, 104] ++ 32 :: (A ++ 32 :: (D ++ 32 :: r))) = [97, 117, 116, 104] :: A :: D :: wordsW r := by
    rw [words_cons (noB_of (by decide)), words_cons hA, words_cons hD]
  constructor
  · intro _
    rw [e]
    exact numW_8 h
  · intro h
    unfold isPay at h
    rw [e, show nth ([97, 117, 116, 104] :: A :: D :: wordsW r) 0 = [97, 117, 116, 104] from rfl, show decide (([97, 117, 116, 104] : List UInt8) = payT) = false from by decide] at h
    cases h
theorem good_pay {A D : List UInt8} (hA : NoB A) (hD : NoB D) (h : numOf A ≤ 8) (h' : numOf D ≤ 8) (r : List UInt8) : GoodL ([112, 97, 121] ++ 32 :: (A ++ 32 :: (D ++ 32 :: r))) := by
  have e : wordsW ([112, 97, 121] ++ 32 :: (A ++ 32 :: (D ++ 32 :: r))) = [112, 97, 121] :: A :: D :: wordsW r := by
    rw [words_cons (noB_of (by decide)), words_cons hA, words_cons hD]
  constructor
  · intro h
    unfold isAuth at h
    rw [e, show nth ([112, 97, 121] :: A :: D :: wordsW r) 0 = [112, 97, 121] from rfl, show decide (([112, 97, 121] : List UInt8) = authW) = false from by decide] at h
    cases h
  · intro _
    rw [e]
    exact ⟨numW_8 h, numW_8 h'⟩

/-- the parties are small numbers -/
structure Par (b : Bk) : Prop where
  ia : ∀ a ∈ b.az, 1 ≤ a.iss ∧ a.iss ≤ 8
  pc : ∀ c ∈ b.cs, (1 ≤ c.iss ∧ c.iss ≤ 8) ∧ (1 ≤ c.acq ∧ c.acq ≤ 8)

end Go.Proofs.Ytlonjjliochbhaa
