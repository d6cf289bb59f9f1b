/- Numbers with noughts ahead, over plain lists. No Go in sight. -/
import Derived.Test.YtpenkpiffdbdmaaGreatDoorJS0a
namespace Go.Proofs.YtpenkpiffdbdmaaGreatDoor.Tg

theorem ofNat_dig (d : Nat) (h : d < 10) : (UInt8.ofNat (48 + d)).toNat = 48 + d := by
  rw [UInt8.toNat_ofNat']; omega
theorem dec_props (n : Nat) : (∀ c ∈ Lib.decDigits n, 48 ≤ c.toNat ∧ c.toNat ≤ 57) ∧ val 0 (Lib.decDigits n) = n := by
  induction n using Nat.strongRecOn with
  | _ n ih =>
    rw [Lib.decDigits]
    by_cases h : n < 10
    · rw [dif_pos h]
      refine ⟨fun c hc => ?_, ?_⟩
      · obtain rfl : c = UInt8.ofNat (48 + n) := by simpa using hc
        rw [ofNat_dig n h]; omega
      · simp only [val, List.foldl_cons, List.foldl_nil]
        rw [ofNat_dig n h]; omega
    · rw [dif_neg h]
      obtain ⟨i1, i2⟩ := ih (n / 10) (by omega)
      refine ⟨fun c hc => ?_, ?_⟩
      · rcases List.mem_append.1 hc with hc | hc
        · exact i1 c hc
        · obtain rfl : c = UInt8.ofNat (48 + n % 10) := by simpa using hc
          rw [ofNat_dig _ (by omega)]; omega
      · rw [val_append, i2]
        simp only [val, List.foldl_cons, List.foldl_nil]
        rw [ofNat_dig _ (by omega)]; omega
theorem dec_len_pow (k n : Nat) (hk : 1 ≤ k) (h : n < 10 ^ k) : (Lib.decDigits n).length ≤ k := by
  induction k generalizing n with
  | zero => omega
  | succ k ih =>
    rw [Lib.decDigits]
    by_cases h1 : n < 10
    · rw [dif_pos h1]; simp
    · rw [dif_neg h1]
      have hk1 : 1 ≤ k := by
        rcases Nat.eq_zero_or_pos k with rfl | hp
        · simp at h; omega
        · exact hp
      have := ih (n / 10) hk1 (by rw [Nat.pow_succ] at h; omega)
      simp; omega
def padOk (x n : Int) : Bool := decide (1 ≤ n ∧ n ≤ 18) && decide (0 ≤ x ∧ x < ((10 ^ n.toNat : Nat) : Int))
/-- x with noughts ahead to n digits -/
def padN (x n : Nat) : List UInt8 := List.replicate (n - (Lib.decDigits x).length) 48 ++ Lib.decDigits x
def padT (x n : Int) : List UInt8 := if padOk x n = true then padN x.toNat n.toNat else []
theorem padT_no {x n : Int} (h : padOk x n = false) : padT x n = [] := if_neg (by rw [h]; decide)
theorem padOk_no1 {x n : Int} (h : ¬ (1 ≤ n ∧ n ≤ 18)) : padOk x n = false := by unfold padOk; rw [decide_eq_false h]; rfl
theorem padOk_no2 {x n : Int} (h : ¬ (0 ≤ x ∧ x < ((10 ^ n.toNat : Nat) : Int))) : padOk x n = false := by unfold padOk; rw [decide_eq_false h, Bool.and_false]
theorem padT_yes {x n : Nat} (h1 : 1 ≤ n) (h2 : n ≤ 18) (h3 : x < 10 ^ n) : padT x n = padN x n := by
  unfold padT
  rw [if_pos]
  · rw [Int.toNat_natCast, Int.toNat_natCast]
  · unfold padOk
    rw [decide_eq_true (by omega), decide_eq_true (by rw [Int.toNat_natCast]; omega)]; rfl
theorem padT_cases (x n : Int) : padT x n = [] ∨ ∃ a m : Nat, x = a ∧ n = m ∧ 1 ≤ m ∧ m ≤ 18 ∧ a < 10 ^ m ∧ padT x n = padN a m := by
  cases h : padOk x n
  · exact .inl (padT_no h)
  · unfold padOk at h
    rw [Bool.and_eq_true, decide_eq_true_eq, decide_eq_true_eq] at h
    obtain ⟨a, rfl⟩ := Int.eq_ofNat_of_zero_le h.2.1
    obtain ⟨m, rfl⟩ := Int.eq_ofNat_of_zero_le (show 0 ≤ n by omega)
    rw [Int.toNat_natCast] at h
    exact .inr ⟨a, m, rfl, rfl, by omega, by omega, by omega, padT_yes (by omega) (by omega) (by omega)⟩
theorem padN_len {x n : Nat} (h1 : 1 ≤ n) (h3 : x < 10 ^ n) : (padN x n).length = n := by
  have := dec_len_pow n x h1 h3
  simp [padN]; omega
theorem padN_dig (x n : Nat) : within 48 57 (padN x n) = true := by
  refine within_of fun c hc => ?_
  rcases List.mem_append.1 hc with hc | hc
  · rw [List.mem_replicate] at hc
    rw [hc.2]; decide
  · exact (dec_props x).1 c hc
theorem padN_val (x n : Nat) : val 0 (padN x n) = x := by
  unfold padN; rw [val_zeros, (dec_props x).2]
theorem padN_num {x n : Nat} (h1 : 1 ≤ n) (h2 : n ≤ 18) (h3 : x < 10 ^ n) : numOf (padN x n) = (x : Int) := by
  rw [numOf_yes (by rw [padN_len h1 h3]; exact h2) (padN_dig x n), padN_val]
theorem dig_plain {l : List UInt8} (h : within 48 57 l = true) : within 32 126 l = true :=
  within_of fun c hc => by have := within_mem h c hc; omega

end Go.Proofs.YtpenkpiffdbdmaaGreatDoor.Tg
