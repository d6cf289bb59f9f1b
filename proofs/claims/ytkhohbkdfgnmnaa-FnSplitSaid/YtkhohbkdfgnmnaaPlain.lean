/- Plain arithmetic on scaling: no Go in sight. -/
import Init
namespace Go.Proofs.Ytkhohbkdfgnmnaa.Plain

/-- p / den to the nearest whole number, halves to the even one (den at least 1). -/
def near (p den : Int) : Int :=
  if den < 2 * (p % den) ∨ (2 * (p % den) = den ∧ (p / den) % 2 ≠ 0) then p / den + 1 else p / den

theorem neg_div (p den : Int) (hd : 1 ≤ den) :
    (p % den = 0 ∧ (-p) / den = -(p / den) ∧ (-p) % den = 0) ∨
    (0 < p % den ∧ (-p) / den = -(p / den) - 1 ∧ (-p) % den = den - p % den) := by
  have h1 := Int.emod_nonneg p (b := den) (by omega)
  have h2 := Int.emod_lt_of_pos p (b := den) (by omega)
  have h3 := Int.mul_ediv_add_emod p den
  by_cases h : p % den = 0
  · left
    refine ⟨h, ?_⟩
    have := (Int.ediv_emod_unique (a := -p) (b := den) (r := 0) (q := -(p / den)) (by omega)).2 ⟨by rw [h] at h3; rw [Int.mul_neg]; omega, by omega, by omega⟩
    exact this
  · right
    refine ⟨by omega, ?_⟩
    have := (Int.ediv_emod_unique (a := -p) (b := den) (r := den - p % den) (q := -(p / den) - 1) (by omega)).2 ⟨by rw [Int.mul_sub, Int.mul_neg]; omega, by omega, by omega⟩
    exact this

theorem near_neg (p den : Int) (hd : 1 ≤ den) : near (-p) den = - near p den := by
  have h2 := Int.emod_lt_of_pos p (b := den) (by omega)
  unfold near
  rcases neg_div p den hd with ⟨h, e1, e2⟩ | ⟨h, e1, e2⟩
  · rw [e1, e2, h]; simp; omega
  · rw [e1, e2]
    split <;> split <;> omega

theorem near_far (p den : Int) (hd : 1 ≤ den) :
    2 * (near p den * den - p) ≤ den ∧ -den ≤ 2 * (near p den * den - p) ∧
    ((2 * (near p den * den - p) = den ∨ 2 * (near p den * den - p) = -den) → near p den % 2 = 0) := by
  have h1 := Int.emod_nonneg p (b := den) (by omega)
  have h2 := Int.emod_lt_of_pos p (b := den) (by omega)
  have h3 := Int.mul_ediv_add_emod p den
  unfold near
  have e : p / den * den = den * (p / den) := Int.mul_comm _ _
  split
  · rw [Int.add_mul]; omega
  · omega

theorem near_bd (p den M : Int) (hd : 1 ≤ den) (h1 : -M ≤ p) (h2 : p ≤ M) (h0 : 0 ≤ M) : -M - 1 ≤ near p den ∧ near p den ≤ M + 1 := by
  have a1 : -M ≤ p / den := by
    have : (-M) / den ≤ p / den := Int.ediv_le_ediv (by omega) h1
    have : -M ≤ (-M) / den := (Int.le_ediv_iff_mul_le (by omega)).2 (by
      have : M * 1 ≤ M * den := Int.mul_le_mul_of_nonneg_left hd h0
      rw [Int.neg_mul]; omega)
    omega
  have a2 : p / den ≤ M := by
    have h3 : p / den ≤ M / den := Int.ediv_le_ediv (by omega) h2
    have : M / den ≤ M := Int.ediv_le_self _ h0
    omega
  unfold near
  split <;> omega

/-- p / den and p % den are within p's own bound. -/
theorem ediv_bd (p den M : Int) (hd : 1 ≤ den) (h1 : -M ≤ p) (h2 : p ≤ M) (h0 : 0 ≤ M) : -M ≤ p / den ∧ p / den ≤ M := by
  have a1 : -M ≤ p / den := by
    have : (-M) / den ≤ p / den := Int.ediv_le_ediv (by omega) h1
    have : -M ≤ (-M) / den := (Int.le_ediv_iff_mul_le (by omega)).2 (by
      have : M * 1 ≤ M * den := Int.mul_le_mul_of_nonneg_left hd h0
      rw [Int.neg_mul]; omega)
    omega
  have a2 : p / den ≤ M := by
    have h3 : p / den ≤ M / den := Int.ediv_le_ediv (by omega) h2
    have : M / den ≤ M := Int.ediv_le_self _ h0
    omega
  exact ⟨a1, a2⟩

/-- Go's division goes towards 0: how it stands to the one that goes down. -/
theorem down_of_t (a n : Int) (hn : 1 ≤ n) :
    (0 ≤ a.tmod n ∧ a / n = a.tdiv n ∧ a % n = a.tmod n) ∨ (a.tmod n < 0 ∧ a / n = a.tdiv n - 1 ∧ a % n = a.tmod n + n) := by
  have h1 := Int.mul_tdiv_add_tmod a n
  by_cases h : a.tmod n < 0
  · right
    have h3 := Int.lt_tmod_of_pos a (b := n) (by omega)
    have := (Int.ediv_emod_unique (a := a) (b := n) (r := a.tmod n + n) (q := a.tdiv n - 1) (by omega)).2 ⟨by rw [Int.mul_sub]; omega, by omega, by omega⟩
    exact ⟨h, this⟩
  · left
    have h3 := Int.tmod_lt_of_pos a (b := n) (by omega)
    have := (Int.ediv_emod_unique (a := a) (b := n) (r := a.tmod n) (q := a.tdiv n) (by omega)).2 ⟨by omega, by omega, by omega⟩
    exact ⟨by omega, this⟩

/-- A product of an amount and a rate stays far below the greatest int. -/
theorem mul_bd (x num X N : Int) (h1 : -X ≤ x) (h2 : x ≤ X) (n1 : 0 ≤ num) (n2 : num ≤ N) (hX : 0 ≤ X) : -(X * N) ≤ x * num ∧ x * num ≤ X * N := by
  constructor
  · have a : -X * N ≤ -X * num := Int.mul_le_mul_of_nonpos_left (by omega) n2
    have b : -X * num ≤ x * num := Int.mul_le_mul_of_nonneg_right h1 n1
    rw [Int.neg_mul] at a; omega
  · have a : x * num ≤ X * num := Int.mul_le_mul_of_nonneg_right h2 n1
    have b : X * num ≤ X * N := Int.mul_le_mul_of_nonneg_left n2 hX
    omega

theorem even_t (a : Int) : a.tmod 2 = 0 ↔ a % 2 = 0 := by
  rw [← Int.dvd_iff_tmod_eq_zero, ← Int.dvd_iff_emod_eq_zero]

end Go.Proofs.Ytkhohbkdfgnmnaa.Plain
