/- The contract of the specification's Scale. -/
import Derived.Test.YtkhohbkdfgnmnaaNum
namespace Go.Proofs.Ytkhohbkdfgnmnaa
open Go.RowKit

def near_case (p den q : Int) : Prop := Plain.near p den = q
theorem near_is {p den q : Int} (h : near_case p den q) : Plain.near p den = q := h
theorem near_1 {p den : Int} (h : den < 2 * (p % den)) : near_case p den (p / den + 1) := by unfold near_case Plain.near; rw [if_pos (.inl h)]
theorem near_2 {p den : Int} (h : ¬ den < 2 * (p % den)) (k : (2 * (p % den) == den) = false) : near_case p den (p / den) := by
  unfold near_case Plain.near; rw [if_neg (by rintro (g | g); exact h g; exact (by simpa using k : ¬ 2 * (p % den) = den) g.1)]
theorem near_3 {p den : Int} (h : ¬ den < 2 * (p % den)) (_k : (2 * (p % den) == den) = true) (k3 : (p / den % 2 == 1) = false) : near_case p den (p / den) := by
  have k3' : ¬ p / den % 2 = 1 := by simpa using k3
  unfold near_case Plain.near; rw [if_neg (by rintro (g | g); exact h g; exact g.2 (by omega))]
theorem near_4 {p den : Int} (_h : ¬ den < 2 * (p % den)) (k : (2 * (p % den) == den) = true) (k3 : (p / den % 2 == 1) = true) : near_case p den (p / den + 1) := by
  have k3' : p / den % 2 = 1 := by simpa using k3
  unfold near_case Plain.near; rw [if_pos (.inr ⟨by simpa using k, by omega⟩)]
theorem mOk_minus (x : Int) : mOk (-x) = mOk x := by unfold mOk; congr 1; simp; omega

set_option maxHeartbeats 2000000 in
theorem sScale_up (x num den : Int) (w : World) (h1 : mOk x = true) (h2 : 0 ≤ num) (h3 : num ≤ 1000000) (h4 : 1 ≤ den) (h5 : den ≤ 1000000) (h6 : 0 ≤ x) :
    Calls Try.prog 24 #[.int .i64 x, .int .i64 num, .int .i64 den] w fun e w' => e = .returned (.tuple #[.int .i64 (scaleV x num den), .bool (scaleOk x num den)]) ∧ Below w.heap.size w w' := by
  have A : Hid (scaleArgs x num den = true) := args_4 h1 h2 h3 h4 h5
  have d1 := mOk_bd h1
  have i1 : inB num 0 1000000 = true := by simp [inB, h2, h3]
  have i2 : inB den 1 1000000 = true := by simp [inB, h4, h5]
  have hp := Plain.mul_bd (x) num 1000000000000 1000000 (by omega) (by omega) h2 h3 (by omega)
  have p1 : 0 ≤ x * num := Int.mul_nonneg (by omega) h2
  have p2 : x * num ≤ 1000000000000000000 := by omega
  clear hp
  have hb := (Plain.ediv_bd (x * num) den 1000000000000000000 h4 (by omega) p2 (by omega)).2
  have hb0 : 0 ≤ x * num / den := Int.ediv_nonneg p1 (by omega)
  have hm := Int.emod_lt_of_pos (x * num) (b := den) (by omega)
  have hm0 := Int.emod_nonneg (x * num) (b := den) (by omega)
  by_cases c1 : den < 2 * (x * num % den)
  · have C1 : Hid (near_case (x * num) den (x * num / den + 1)) := near_1 c1
    cases h7 : mOk (x * num / den + 1)
    · have hz := scale_1 (x := x) (num := num) (den := den) (by rw [near_is C1.out]; exact h7)
      go_enter Try.func24, Try.ntmps24
      go_wp2_with (first | (go_at_call 32; refine (sMoneyOk_any _ _).mono ?_; rintro e w' ⟨rfl, rfl⟩) | (go_at_call 47; refine (in_any _ _ _ _).mono ?_; rintro e w' ⟨rfl, rfl⟩))
      go_quiet (fail)
      go_wp2_with (first | (go_at_call 32; refine (sMoneyOk_any _ _).mono ?_; rintro e w' ⟨rfl, rfl⟩))
      go_ret2
      exact ⟨two_eq hz.2.symm hz.1.symm, below_drewN (Below.refl _ _) _⟩
    · have hz := scale_2 A.out (by rw [near_is C1.out]; exact h7)
      have Z2 : Hid (scaleV x num den = x * num / den + 1) := by rw [Hid, hz.2, near_is C1.out]
      have Z1 : Hid (scaleOk x num den = true) := hz.1
      clear hz
      have d7 := mOk_bd h7
      go_enter Try.func24, Try.ntmps24
      go_wp2_with (first | (go_at_call 32; refine (sMoneyOk_any _ _).mono ?_; rintro e w' ⟨rfl, rfl⟩) | (go_at_call 47; refine (in_any _ _ _ _).mono ?_; rintro e w' ⟨rfl, rfl⟩))
      go_quiet (fail)
      go_wp2_with (first | (go_at_call 32; refine (sMoneyOk_any _ _).mono ?_; rintro e w' ⟨rfl, rfl⟩))
      go_ret2
      exact ⟨two_eq (by rw [Z2.out]) Z1.out.symm, below_drewN (Below.refl _ _) _⟩
  · cases k2 : (2 * (x * num % den) == den)
    · have C1 : Hid (near_case (x * num) den (x * num / den)) := near_2 c1 k2
      cases h7 : mOk (x * num / den)
      · have hz := scale_1 (x := x) (num := num) (den := den) (by rw [near_is C1.out]; exact h7)
        go_enter Try.func24, Try.ntmps24
        go_wp2_with (first | (go_at_call 32; refine (sMoneyOk_any _ _).mono ?_; rintro e w' ⟨rfl, rfl⟩) | (go_at_call 47; refine (in_any _ _ _ _).mono ?_; rintro e w' ⟨rfl, rfl⟩))
        go_quiet (fail)
        go_wp2_with (first | (go_at_call 32; refine (sMoneyOk_any _ _).mono ?_; rintro e w' ⟨rfl, rfl⟩))
        go_ret2
        exact ⟨two_eq hz.2.symm hz.1.symm, below_drewN (Below.refl _ _) _⟩
      · have hz := scale_2 A.out (by rw [near_is C1.out]; exact h7)
        have Z2 : Hid (scaleV x num den = x * num / den) := by rw [Hid, hz.2, near_is C1.out]
        have Z1 : Hid (scaleOk x num den = true) := hz.1
        clear hz
        have d7 := mOk_bd h7
        go_enter Try.func24, Try.ntmps24
        go_wp2_with (first | (go_at_call 32; refine (sMoneyOk_any _ _).mono ?_; rintro e w' ⟨rfl, rfl⟩) | (go_at_call 47; refine (in_any _ _ _ _).mono ?_; rintro e w' ⟨rfl, rfl⟩))
        go_quiet (fail)
        go_wp2_with (first | (go_at_call 32; refine (sMoneyOk_any _ _).mono ?_; rintro e w' ⟨rfl, rfl⟩))
        go_ret2
        exact ⟨two_eq (by rw [Z2.out]) Z1.out.symm, below_drewN (Below.refl _ _) _⟩
    · cases k3 : (x * num / den % 2 == 1)
      · have C1 : Hid (near_case (x * num) den (x * num / den)) := near_3 c1 k2 k3
        cases h7 : mOk (x * num / den)
        · have hz := scale_1 (x := x) (num := num) (den := den) (by rw [near_is C1.out]; exact h7)
          go_enter Try.func24, Try.ntmps24
          go_wp2_with (first | (go_at_call 32; refine (sMoneyOk_any _ _).mono ?_; rintro e w' ⟨rfl, rfl⟩) | (go_at_call 47; refine (in_any _ _ _ _).mono ?_; rintro e w' ⟨rfl, rfl⟩))
          go_quiet (fail)
          go_wp2_with (first | (go_at_call 32; refine (sMoneyOk_any _ _).mono ?_; rintro e w' ⟨rfl, rfl⟩))
          go_ret2
          exact ⟨two_eq hz.2.symm hz.1.symm, below_drewN (Below.refl _ _) _⟩
        · have hz := scale_2 A.out (by rw [near_is C1.out]; exact h7)
          have Z2 : Hid (scaleV x num den = x * num / den) := by rw [Hid, hz.2, near_is C1.out]
          have Z1 : Hid (scaleOk x num den = true) := hz.1
          clear hz
          have d7 := mOk_bd h7
          go_enter Try.func24, Try.ntmps24
          go_wp2_with (first | (go_at_call 32; refine (sMoneyOk_any _ _).mono ?_; rintro e w' ⟨rfl, rfl⟩) | (go_at_call 47; refine (in_any _ _ _ _).mono ?_; rintro e w' ⟨rfl, rfl⟩))
          go_quiet (fail)
          go_wp2_with (first | (go_at_call 32; refine (sMoneyOk_any _ _).mono ?_; rintro e w' ⟨rfl, rfl⟩))
          go_ret2
          exact ⟨two_eq (by rw [Z2.out]) Z1.out.symm, below_drewN (Below.refl _ _) _⟩
      · have C1 : Hid (near_case (x * num) den (x * num / den + 1)) := near_4 c1 k2 k3
        cases h7 : mOk (x * num / den + 1)
        · have hz := scale_1 (x := x) (num := num) (den := den) (by rw [near_is C1.out]; exact h7)
          go_enter Try.func24, Try.ntmps24
          go_wp2_with (first | (go_at_call 32; refine (sMoneyOk_any _ _).mono ?_; rintro e w' ⟨rfl, rfl⟩) | (go_at_call 47; refine (in_any _ _ _ _).mono ?_; rintro e w' ⟨rfl, rfl⟩))
          go_quiet (fail)
          go_wp2_with (first | (go_at_call 32; refine (sMoneyOk_any _ _).mono ?_; rintro e w' ⟨rfl, rfl⟩))
          go_ret2
          exact ⟨two_eq hz.2.symm hz.1.symm, below_drewN (Below.refl _ _) _⟩
        · have hz := scale_2 A.out (by rw [near_is C1.out]; exact h7)
          have Z2 : Hid (scaleV x num den = x * num / den + 1) := by rw [Hid, hz.2, near_is C1.out]
          have Z1 : Hid (scaleOk x num den = true) := hz.1
          clear hz
          have d7 := mOk_bd h7
          go_enter Try.func24, Try.ntmps24
          go_wp2_with (first | (go_at_call 32; refine (sMoneyOk_any _ _).mono ?_; rintro e w' ⟨rfl, rfl⟩) | (go_at_call 47; refine (in_any _ _ _ _).mono ?_; rintro e w' ⟨rfl, rfl⟩))
          go_quiet (fail)
          go_wp2_with (first | (go_at_call 32; refine (sMoneyOk_any _ _).mono ?_; rintro e w' ⟨rfl, rfl⟩))
          go_ret2
          exact ⟨two_eq (by rw [Z2.out]) Z1.out.symm, below_drewN (Below.refl _ _) _⟩

set_option maxHeartbeats 2000000 in
theorem sScale_down (x num den : Int) (w : World) (h1 : mOk x = true) (h2 : 0 ≤ num) (h3 : num ≤ 1000000) (h4 : 1 ≤ den) (h5 : den ≤ 1000000) (h6 : x < 0) :
    Calls Try.prog 24 #[.int .i64 x, .int .i64 num, .int .i64 den] w fun e w' => e = .returned (.tuple #[.int .i64 (scaleV x num den), .bool (scaleOk x num den)]) ∧ Below w.heap.size w w' := by
  have A : Hid (scaleArgs x num den = true) := args_4 h1 h2 h3 h4 h5
  have d1 := mOk_bd h1
  have i1 : inB num 0 1000000 = true := by simp [inB, h2, h3]
  have i2 : inB den 1 1000000 = true := by simp [inB, h4, h5]
  have hp := Plain.mul_bd (-x) num 1000000000000 1000000 (by omega) (by omega) h2 h3 (by omega)
  have p1 : 0 ≤ -x * num := Int.mul_nonneg (by omega) h2
  have p2 : -x * num ≤ 1000000000000000000 := by omega
  clear hp
  have hb := (Plain.ediv_bd (-x * num) den 1000000000000000000 h4 (by omega) p2 (by omega)).2
  have hb0 : 0 ≤ -x * num / den := Int.ediv_nonneg p1 (by omega)
  have hm := Int.emod_lt_of_pos (-x * num) (b := den) (by omega)
  have hm0 := Int.emod_nonneg (-x * num) (b := den) (by omega)
  have N : Hid (Plain.near (x * num) den = - Plain.near (-x * num) den) := by rw [Hid, ← Plain.near_neg _ _ h4, Int.neg_mul, Int.neg_neg]
  by_cases c1 : den < 2 * (-x * num % den)
  · have C1 : Hid (near_case (-x * num) den (-x * num / den + 1)) := near_1 c1
    cases h7 : mOk (-x * num / den + 1)
    · have hz := scale_1 (x := x) (num := num) (den := den) (by rw [N.out, mOk_minus, near_is C1.out]; exact h7)
      go_enter Try.func24, Try.ntmps24
      go_wp2_with (first | (go_at_call 32; refine (sMoneyOk_any _ _).mono ?_; rintro e w' ⟨rfl, rfl⟩) | (go_at_call 47; refine (in_any _ _ _ _).mono ?_; rintro e w' ⟨rfl, rfl⟩))
      go_quiet (fail)
      go_wp2_with (first | (go_at_call 32; refine (sMoneyOk_any _ _).mono ?_; rintro e w' ⟨rfl, rfl⟩))
      go_ret2
      exact ⟨two_eq hz.2.symm hz.1.symm, below_drewN (Below.refl _ _) _⟩
    · have hz := scale_2 A.out (by rw [N.out, mOk_minus, near_is C1.out]; exact h7)
      have Z2 : Hid (scaleV x num den = -(-x * num / den + 1)) := by rw [Hid, hz.2, N.out, near_is C1.out]
      have Z1 : Hid (scaleOk x num den = true) := hz.1
      clear hz
      have d7 := mOk_bd h7
      go_enter Try.func24, Try.ntmps24
      go_wp2_with (first | (go_at_call 32; refine (sMoneyOk_any _ _).mono ?_; rintro e w' ⟨rfl, rfl⟩) | (go_at_call 47; refine (in_any _ _ _ _).mono ?_; rintro e w' ⟨rfl, rfl⟩))
      go_quiet (fail)
      go_wp2_with (first | (go_at_call 32; refine (sMoneyOk_any _ _).mono ?_; rintro e w' ⟨rfl, rfl⟩))
      go_ret2
      exact ⟨two_eq (by rw [Z2.out]) Z1.out.symm, below_drewN (Below.refl _ _) _⟩
  · cases k2 : (2 * (-x * num % den) == den)
    · have C1 : Hid (near_case (-x * num) den (-x * num / den)) := near_2 c1 k2
      cases h7 : mOk (-x * num / den)
      · have hz := scale_1 (x := x) (num := num) (den := den) (by rw [N.out, mOk_minus, near_is C1.out]; exact h7)
        go_enter Try.func24, Try.ntmps24
        go_wp2_with (first | (go_at_call 32; refine (sMoneyOk_any _ _).mono ?_; rintro e w' ⟨rfl, rfl⟩) | (go_at_call 47; refine (in_any _ _ _ _).mono ?_; rintro e w' ⟨rfl, rfl⟩))
        go_quiet (fail)
        go_wp2_with (first | (go_at_call 32; refine (sMoneyOk_any _ _).mono ?_; rintro e w' ⟨rfl, rfl⟩))
        go_ret2
        exact ⟨two_eq hz.2.symm hz.1.symm, below_drewN (Below.refl _ _) _⟩
      · have hz := scale_2 A.out (by rw [N.out, mOk_minus, near_is C1.out]; exact h7)
        have Z2 : Hid (scaleV x num den = -(-x * num / den)) := by rw [Hid, hz.2, N.out, near_is C1.out]
        have Z1 : Hid (scaleOk x num den = true) := hz.1
        clear hz
        have d7 := mOk_bd h7
        go_enter Try.func24, Try.ntmps24
        go_wp2_with (first | (go_at_call 32; refine (sMoneyOk_any _ _).mono ?_; rintro e w' ⟨rfl, rfl⟩) | (go_at_call 47; refine (in_any _ _ _ _).mono ?_; rintro e w' ⟨rfl, rfl⟩))
        go_quiet (fail)
        go_wp2_with (first | (go_at_call 32; refine (sMoneyOk_any _ _).mono ?_; rintro e w' ⟨rfl, rfl⟩))
        go_ret2
        exact ⟨two_eq (by rw [Z2.out]) Z1.out.symm, below_drewN (Below.refl _ _) _⟩
    · cases k3 : (-x * num / den % 2 == 1)
      · have C1 : Hid (near_case (-x * num) den (-x * num / den)) := near_3 c1 k2 k3
        cases h7 : mOk (-x * num / den)
        · have hz := scale_1 (x := x) (num := num) (den := den) (by rw [N.out, mOk_minus, near_is C1.out]; exact h7)
          go_enter Try.func24, Try.ntmps24
          go_wp2_with (first | (go_at_call 32; refine (sMoneyOk_any _ _).mono ?_; rintro e w' ⟨rfl, rfl⟩) | (go_at_call 47; refine (in_any _ _ _ _).mono ?_; rintro e w' ⟨rfl, rfl⟩))
          go_quiet (fail)
          go_wp2_with (first | (go_at_call 32; refine (sMoneyOk_any _ _).mono ?_; rintro e w' ⟨rfl, rfl⟩))
          go_ret2
          exact ⟨two_eq hz.2.symm hz.1.symm, below_drewN (Below.refl _ _) _⟩
        · have hz := scale_2 A.out (by rw [N.out, mOk_minus, near_is C1.out]; exact h7)
          have Z2 : Hid (scaleV x num den = -(-x * num / den)) := by rw [Hid, hz.2, N.out, near_is C1.out]
          have Z1 : Hid (scaleOk x num den = true) := hz.1
          clear hz
          have d7 := mOk_bd h7
          go_enter Try.func24, Try.ntmps24
          go_wp2_with (first | (go_at_call 32; refine (sMoneyOk_any _ _).mono ?_; rintro e w' ⟨rfl, rfl⟩) | (go_at_call 47; refine (in_any _ _ _ _).mono ?_; rintro e w' ⟨rfl, rfl⟩))
          go_quiet (fail)
          go_wp2_with (first | (go_at_call 32; refine (sMoneyOk_any _ _).mono ?_; rintro e w' ⟨rfl, rfl⟩))
          go_ret2
          exact ⟨two_eq (by rw [Z2.out]) Z1.out.symm, below_drewN (Below.refl _ _) _⟩
      · have C1 : Hid (near_case (-x * num) den (-x * num / den + 1)) := near_4 c1 k2 k3
        cases h7 : mOk (-x * num / den + 1)
        · have hz := scale_1 (x := x) (num := num) (den := den) (by rw [N.out, mOk_minus, near_is C1.out]; exact h7)
          go_enter Try.func24, Try.ntmps24
          go_wp2_with (first | (go_at_call 32; refine (sMoneyOk_any _ _).mono ?_; rintro e w' ⟨rfl, rfl⟩) | (go_at_call 47; refine (in_any _ _ _ _).mono ?_; rintro e w' ⟨rfl, rfl⟩))
          go_quiet (fail)
          go_wp2_with (first | (go_at_call 32; refine (sMoneyOk_any _ _).mono ?_; rintro e w' ⟨rfl, rfl⟩))
          go_ret2
          exact ⟨two_eq hz.2.symm hz.1.symm, below_drewN (Below.refl _ _) _⟩
        · have hz := scale_2 A.out (by rw [N.out, mOk_minus, near_is C1.out]; exact h7)
          have Z2 : Hid (scaleV x num den = -(-x * num / den + 1)) := by rw [Hid, hz.2, N.out, near_is C1.out]
          have Z1 : Hid (scaleOk x num den = true) := hz.1
          clear hz
          have d7 := mOk_bd h7
          go_enter Try.func24, Try.ntmps24
          go_wp2_with (first | (go_at_call 32; refine (sMoneyOk_any _ _).mono ?_; rintro e w' ⟨rfl, rfl⟩) | (go_at_call 47; refine (in_any _ _ _ _).mono ?_; rintro e w' ⟨rfl, rfl⟩))
          go_quiet (fail)
          go_wp2_with (first | (go_at_call 32; refine (sMoneyOk_any _ _).mono ?_; rintro e w' ⟨rfl, rfl⟩))
          go_ret2
          exact ⟨two_eq (by rw [Z2.out]) Z1.out.symm, below_drewN (Below.refl _ _) _⟩

set_option maxHeartbeats 400000 in
theorem sScale_any (x num den : Int) (w : World) :
    Calls Try.prog 24 #[.int .i64 x, .int .i64 num, .int .i64 den] w fun e w' => e = .returned (.tuple #[.int .i64 (scaleV x num den), .bool (scaleOk x num den)]) ∧ Below w.heap.size w w' := by
  cases h1 : mOk x
  · have hz := scale_0 (args_1 (num := num) (den := den) h1)
    go_enter Try.func24, Try.ntmps24
    go_wp2_with (first | (go_at_call 32; refine (sMoneyOk_any _ _).mono ?_; rintro e w' ⟨rfl, rfl⟩) | (go_at_call 47; refine (in_any _ _ _ _).mono ?_; rintro e w' ⟨rfl, rfl⟩))
    go_ret2
    exact ⟨two_eq hz.2.symm hz.1.symm, Below.refl _ _⟩
  · by_cases h2 : 0 ≤ num ∧ num ≤ 1000000
    · by_cases h4 : 1 ≤ den ∧ den ≤ 1000000
      · by_cases h6 : 0 ≤ x
        · exact sScale_up x num den w h1 h2.1 h2.2 h4.1 h4.2 h6
        · exact sScale_down x num den w h1 h2.1 h2.2 h4.1 h4.2 (by omega)
      · have hz := scale_0 (args_3 (x := x) (num := num) (den := den) (by omega))
        have i1 : inB num 0 1000000 = true := by simp [inB, h2]
        have i2 : inB den 1 1000000 = false := by simp [inB]; omega
        go_enter Try.func24, Try.ntmps24
        go_wp2_with (first | (go_at_call 32; refine (sMoneyOk_any _ _).mono ?_; rintro e w' ⟨rfl, rfl⟩) | (go_at_call 47; refine (in_any _ _ _ _).mono ?_; rintro e w' ⟨rfl, rfl⟩))
        go_ret2
        exact ⟨two_eq hz.2.symm hz.1.symm, Below.refl _ _⟩
    · have hz := scale_0 (args_2 (x := x) (num := num) (den := den) (by omega))
      have i1 : inB num 0 1000000 = false := by simp [inB]; omega
      go_enter Try.func24, Try.ntmps24
      go_wp2_with (first | (go_at_call 32; refine (sMoneyOk_any _ _).mono ?_; rintro e w' ⟨rfl, rfl⟩) | (go_at_call 47; refine (in_any _ _ _ _).mono ?_; rintro e w' ⟨rfl, rfl⟩))
      go_ret2
      exact ⟨two_eq hz.2.symm hz.1.symm, Below.refl _ _⟩

end Go.Proofs.Ytkhohbkdfgnmnaa
