/- Plain arithmetic on the calendar: no Go in sight. -/
import Init
namespace Go.Proofs.YtpenkpiffdbdmaaGreatDoor

def leap (y : Int) : Bool := decide (y % 4 = 0 ∧ (y % 100 ≠ 0 ∨ y % 400 = 0))
/-- how many days year y has -/
def ylen (y : Int) : Int := if leap y then 366 else 365
/-- how many days there are in the years 1 .. y - 1 -/
def ahead (y : Int) : Int := 365 * (y - 1) + (y - 1) / 4 - (y - 1) / 100 + (y - 1) / 400
/-- the day of January 1st of year y -/
def ystart (y : Int) : Int := ahead y - 730119
def mdays : List Int := [31, 28, 31, 30, 31, 30, 31, 31, 30, 31, 30, 31]
/-- how many days month k + 1 of year y has -/
def mlen (y : Int) (k : Nat) : Int := if k = 1 ∧ leap y = true then 29 else mdays.getD k 0
/-- how many days there are in year y ahead of month k + 1 -/
def msum (y : Int) : Nat → Int
  | 0 => 0
  | k + 1 => msum y k + mlen y k

theorem leap_yes {y : Int} (h1 : y % 4 = 0) (h2 : y % 100 ≠ 0 ∨ y % 400 = 0) : leap y = true := by simp [leap]; exact ⟨h1, h2⟩
theorem leap_no {y : Int} (h : y % 4 ≠ 0 ∨ (y % 100 = 0 ∧ y % 400 ≠ 0)) : leap y = false := by simp [leap]; omega
theorem leap_cases (y : Int) : (leap y = true ∧ y % 4 = 0 ∧ (y % 100 ≠ 0 ∨ y % 400 = 0)) ∨ (leap y = false ∧ (y % 4 ≠ 0 ∨ (y % 100 = 0 ∧ y % 400 ≠ 0))) := by
  by_cases h : y % 4 = 0 ∧ (y % 100 ≠ 0 ∨ y % 400 = 0)
  · exact .inl ⟨leap_yes h.1 h.2, h.1, h.2⟩
  · exact .inr ⟨leap_no (by omega), by omega⟩

theorem ahead_next (y : Int) : ahead (y + 1) = ahead y + ylen y := by
  unfold ahead ylen
  rcases leap_cases y with ⟨h, h1, h2⟩ | ⟨h, h1⟩
  · rw [if_pos h]; omega
  · rw [h, if_neg (by decide)]; omega
theorem ystart_next (y : Int) : ystart (y + 1) = ystart y + ylen y := by unfold ystart; rw [ahead_next]; omega
theorem ylen_bd (y : Int) : 365 ≤ ylen y ∧ ylen y ≤ 366 := by unfold ylen; split <;> omega
theorem ahead_mono {y z : Int} (h : y ≤ z) : ahead y ≤ ahead z := by unfold ahead; omega
theorem ystart_mono {y z : Int} (h : y ≤ z) : ystart y ≤ ystart z := by have := ahead_mono h; unfold ystart; omega
theorem ystart_2000 : ystart 2000 = 0 := by decide
theorem ystart_guess (q : Int) (h : 0 ≤ q) : ystart (2000 + q) ≤ 366 * q := by unfold ystart ahead; omega
theorem ystart_up {y : Int} (h : 2000 ≤ y) : 365 * (y - 2000) ≤ ystart y := by unfold ystart ahead; omega

theorem mlen_bd (y : Int) (k : Nat) (h : k < 12) : 28 ≤ mlen y k ∧ mlen y k ≤ 31 := by
  unfold mlen
  split
  · omega
  · rcases (show k = 0 ∨ k = 1 ∨ k = 2 ∨ k = 3 ∨ k = 4 ∨ k = 5 ∨ k = 6 ∨ k = 7 ∨ k = 8 ∨ k = 9 ∨ k = 10 ∨ k = 11 from by omega) with rfl | rfl | rfl | rfl | rfl | rfl | rfl | rfl | rfl | rfl | rfl | rfl <;> decide
theorem msum_12 (y : Int) : msum y 12 = ylen y := by
  unfold ylen
  cases h : leap y <;> simp [msum, mlen, mdays, h]
theorem msum_mono (y : Int) {j k : Nat} (h : j ≤ k) (hk : k ≤ 12) : msum y j ≤ msum y k := by
  induction k with
  | zero => have : j = 0 := by omega
            subst this; exact Int.le_refl _
  | succ k ih =>
    by_cases e : j = k + 1
    · subst e; exact Int.le_refl _
    · have := ih (by omega) (by omega)
      have := mlen_bd y k (by omega)
      rw [msum]; omega
theorem msum_bd (y : Int) {k : Nat} (hk : k ≤ 12) : 0 ≤ msum y k ∧ msum y k ≤ 366 := by
  have h1 := msum_mono y (Nat.zero_le k) hk
  have h2 := msum_mono y hk (Nat.le_refl _)
  have h3 := ylen_bd y
  rw [msum_12] at h2
  simp only [msum] at h1
  omega

/-- x is the date of the day d -/
def IsDate (d x : Int) : Prop := ∃ (y : Int) (k : Nat) (r : Int), 2000 ≤ y ∧ y ≤ 2299 ∧ k < 12 ∧ 0 ≤ r ∧ r < mlen y k ∧ d = ystart y + msum y k + r ∧ x = 10000 * y + 100 * (k + 1) + r + 1

theorem year_one {d y z a b : Int} (h1 : d = ystart y + a) (h2 : d = ystart z + b) (a0 : 0 ≤ a) (a1 : a < ylen y) (b0 : 0 ≤ b) (b1 : b < ylen z) : y = z := by
  rcases Int.lt_trichotomy y z with h | h | h
  · have := ystart_mono (show y + 1 ≤ z by omega); rw [ystart_next] at this; omega
  · exact h
  · have := ystart_mono (show z + 1 ≤ y by omega); rw [ystart_next] at this; omega
theorem month_one {y d : Int} {j k : Nat} {r s : Int} (h1 : d = msum y j + r) (h2 : d = msum y k + s) (hj : j < 12) (hk : k < 12) (r0 : 0 ≤ r) (r1 : r < mlen y j) (s0 : 0 ≤ s) (s1 : s < mlen y k) : j = k := by
  rcases Nat.lt_trichotomy j k with h | h | h
  · have := msum_mono y (show j + 1 ≤ k by omega) (by omega); rw [msum] at this; omega
  · exact h
  · have := msum_mono y (show k + 1 ≤ j by omega) (by omega); rw [msum] at this; omega
theorem in_year {y r : Int} {k : Nat} (hk : k < 12) (r0 : 0 ≤ r) (r1 : r < mlen y k) : 0 ≤ msum y k + r ∧ msum y k + r < ylen y := by
  have h1 := msum_bd y (show k ≤ 12 by omega)
  have h2 := msum_mono y (show k + 1 ≤ 12 by omega) (Nat.le_refl _)
  rw [msum_12, msum] at h2
  omega
theorem IsDate.unique {d x z : Int} (h : IsDate d x) (g : IsDate d z) : x = z := by
  obtain ⟨y, k, r, y1, y2, hk, r0, r1, hd, rfl⟩ := h
  obtain ⟨y', k', r', z1, z2, hk', s0, s1, hd', rfl⟩ := g
  have a := in_year hk r0 r1
  have b := in_year hk' s0 s1
  have e := year_one (y := y) (z := y') (d := d) (a := msum y k + r) (b := msum y' k' + r') (by omega) (by omega) a.1 a.2 b.1 b.2
  subst e
  have f := month_one (y := y) (d := msum y k + r) rfl (by omega) hk hk' r0 r1 s0 s1
  subst f
  omega

def dOk (d : Int) : Bool := decide (0 ≤ d ∧ d ≤ 80000)
theorem dOk_bd {d : Int} (h : dOk d = true) : 0 ≤ d ∧ d ≤ 80000 := by simpa [dOk] using h
theorem dOk_out {d : Int} (h : dOk d = false) : d < 0 ∨ 80000 < d := by simp [dOk] at h; omega
theorem dOk_pos {d : Int} (h1 : 0 ≤ d) (h2 : d ≤ 80000) : dOk d = true := by simp [dOk, h1, h2]
theorem dOk_neg {d : Int} (h : d < 0 ∨ 80000 < d) : dOk d = false := by simp [dOk]; omega

/-- what stands in a date's places -/
def partsOk (x : Int) : Bool := decide (1 ≤ x / 100 % 100 ∧ x / 100 % 100 ≤ 12 ∧ 1 ≤ x % 100 ∧ x % 100 ≤ mlen (x / 10000) (x / 100 % 100 - 1).toNat)
def dayIs (x : Int) : Int := ystart (x / 10000) + msum (x / 10000) (x / 100 % 100 - 1).toNat + x % 100 - 1
/-- the day of a date, if there is one -/
def dayV (x : Int) : Option Int := if 20000101 ≤ x ∧ x ≤ 22991231 ∧ partsOk x = true ∧ dOk (dayIs x) = true then some (dayIs x) else none

theorem parts_at {y : Int} {k : Nat} {r : Int} (hk : k < 12) (r0 : 0 ≤ r) (r1 : r < mlen y k) :
    (10000 * y + 100 * (k + 1) + r + 1) / 10000 = y ∧ (10000 * y + 100 * (k + 1) + r + 1) / 100 % 100 = k + 1 ∧ (10000 * y + 100 * (k + 1) + r + 1) % 100 = r + 1 := by
  have := mlen_bd y k hk
  omega
theorem dayV_of {d x : Int} (h : IsDate d x) (hd : dOk d = true) : dayV x = some d := by
  obtain ⟨y, k, r, y1, y2, hk, r0, r1, hd', rfl⟩ := h
  have hb := mlen_bd y k hk
  obtain ⟨e1, e2, e3⟩ := parts_at (y := y) (k := k) (r := r) hk r0 r1
  have hp : partsOk (10000 * y + 100 * (k + 1) + r + 1) = true := by
    unfold partsOk
    rw [e1, e2, e3, show ((k : Int) + 1 - 1).toNat = k from by omega]
    exact decide_eq_true ⟨by omega, by omega, by omega, by omega⟩
  have hi : dayIs (10000 * y + 100 * (k + 1) + r + 1) = d := by
    unfold dayIs
    rw [e1, e2, e3, show ((k : Int) + 1 - 1).toNat = k from by omega]
    omega
  unfold dayV
  rw [hp, hi, hd, if_pos ⟨by omega, by omega, rfl, rfl⟩]
theorem isDate_parts {x : Int} (h1 : 20000101 ≤ x) (h2 : x ≤ 22991231) (hp : partsOk x = true) : IsDate (dayIs x) x := by
  unfold partsOk at hp
  have hp := of_decide_eq_true hp
  refine ⟨x / 10000, (x / 100 % 100 - 1).toNat, x % 100 - 1, by omega, by omega, by omega, by omega, by omega, by unfold dayIs; omega, ?_⟩
  rw [show (((x / 100 % 100 - 1).toNat : Nat) : Int) = x / 100 % 100 - 1 from by omega]
  omega
theorem isDate_dayV {d x : Int} (h : dayV x = some d) : IsDate d x ∧ dOk d = true := by
  unfold dayV at h
  split at h
  · rename_i hh
    obtain ⟨a, b, c, e⟩ := hh
    obtain rfl : dayIs x = d := by simpa using h
    exact ⟨isDate_parts a b c, e⟩
  · cases h
/-- the date of a day, 0 for none -/
def dateV (d : Int) : Int := if dOk d = true then (((List.range 2991232).find? fun n : Nat => dayV (20000000 + (n : Int)) == some d).map fun n : Nat => 20000000 + (n : Int)).getD 0 else 0
theorem dateV_no {d : Int} (h : dOk d = false) : dateV d = 0 := by unfold dateV; rw [if_neg (by rw [h]; decide)]
theorem dateV_yes {d x : Int} (h : dOk d = true) (g : IsDate d x) : dateV d = x := by
  have hv := dayV_of g h
  have hr : 20000101 ≤ x ∧ x ≤ 22991231 := by
    have hv' := hv
    unfold dayV at hv'
    split at hv'
    · rename_i hh; exact ⟨hh.1, hh.2.1⟩
    · cases hv'
  unfold dateV
  rw [if_pos h]
  cases hf : (List.range 2991232).find? (fun n : Nat => dayV (20000000 + (n : Int)) == some d) with
  | none =>
    rw [List.find?_eq_none] at hf
    have hn := hf (x - 20000000).toNat (List.mem_range.2 (by omega))
    rw [show 20000000 + (((x - 20000000).toNat : Nat) : Int) = x from by omega, hv] at hn
    simp at hn
  | some n =>
    have hn : dayV (20000000 + (n : Int)) = some d := by simpa using List.find?_some hf
    exact (isDate_dayV hn).1.unique g

/-- ahead of the first year and behind the last one there are no days -/
theorem dayIs_out {x : Int} (hp : partsOk x = true) (h : x < 20000101 ∨ 22991231 < x) (y1 : 10000 ≤ x) : dOk (dayIs x) = false := by
  unfold partsOk at hp
  have hp := of_decide_eq_true hp
  have hk : (x / 100 % 100 - 1).toNat < 12 := by omega
  have hin := in_year (y := x / 10000) (r := x % 100 - 1) hk (by omega) (by omega)
  have hm := mlen_bd (x / 10000) _ hk
  apply dOk_neg
  rcases h with h | h
  · have hy : x / 10000 + 1 ≤ 2000 := by omega
    have := ystart_mono hy
    rw [ystart_next, ystart_2000] at this
    left; unfold dayIs; omega
  · have hy : 2300 ≤ x / 10000 := by omega
    have := ystart_up (y := x / 10000) (by omega)
    right; unfold dayIs; omega

/-- every day has a date -/
theorem month_of (y a : Int) (a0 : 0 ≤ a) : ∀ n, n ≤ 12 → a < msum y n → ∃ k r, k < n ∧ 0 ≤ r ∧ r < mlen y k ∧ a = msum y k + r := by
  intro n
  induction n with
  | zero => intro _ h; simp only [msum] at h; omega
  | succ n ih =>
    intro hn h
    by_cases h1 : a < msum y n
    · obtain ⟨k, r, h2, h3, h4, h5⟩ := ih (by omega) h1
      exact ⟨k, r, by omega, h3, h4, h5⟩
    · rw [msum] at h
      exact ⟨n, a - msum y n, by omega, by omega, by omega, by omega⟩
theorem isDate_of {d y : Int} (hd : dOk d = true) (y1 : 2000 ≤ y) (h1 : ystart y ≤ d) (h2 : d < ystart y + ylen y) :
    ∃ k r, k < 12 ∧ 0 ≤ r ∧ r < mlen y k ∧ d = ystart y + msum y k + r ∧ IsDate d (10000 * y + 100 * (k + 1) + r + 1) := by
  obtain ⟨k, r, a, b, c, e⟩ := month_of y (d - ystart y) (by omega) 12 (Nat.le_refl _) (by rw [msum_12]; omega)
  have hb := dOk_bd hd
  have := ystart_up y1
  exact ⟨k, r, a, b, c, by omega, y, k, r, y1, by omega, a, b, c, by omega, rfl⟩
theorem year_of (d : Nat) : ∃ y, 2000 ≤ y ∧ ystart y ≤ d ∧ d < ystart y + ylen y := by
  induction d with
  | zero => exact ⟨2000, by decide, by decide, by decide⟩
  | succ d ih =>
    obtain ⟨y, h1, h2, h3⟩ := ih
    by_cases h : (d : Int) + 1 < ystart y + ylen y
    · exact ⟨y, h1, by omega, by omega⟩
    · have := ystart_next y
      have := ylen_bd (y + 1)
      exact ⟨y + 1, by omega, by omega, by omega⟩
theorem isDate_all {d : Int} (h : dOk d = true) : IsDate d (dateV d) := by
  have hb := dOk_bd h
  obtain ⟨y, h1, h2, h3⟩ := year_of d.toNat
  obtain ⟨k, r, _, _, _, _, hi⟩ := isDate_of h h1 (by omega) (by omega)
  rw [dateV_yes h hi]; exact hi
theorem dayV_dateV {d : Int} (h : dOk d = true) : dayV (dateV d) = some d := dayV_of (isDate_all h) h
theorem date_bd {d : Int} (h : dOk d = true) : 20000101 ≤ dateV d ∧ dateV d ≤ 22991231 := by
  have := dayV_dateV h
  unfold dayV at this
  split at this
  · rename_i hh; exact ⟨hh.1, hh.2.1⟩
  · cases this

/-- the next day's date is greater, and not by much -/
theorem date_next {d : Int} (h : dOk d = true) (g : dOk (d + 1) = true) : dateV d < dateV (d + 1) ∧ dateV (d + 1) - dateV d ≤ 8870 := by
  have hd := isDate_all h
  generalize hx : dateV d = x at hd
  obtain ⟨y, k, r, y1, y2, hk, r0, r1, e1, rfl⟩ := hd
  have hb := mlen_bd y k hk
  by_cases c1 : r + 1 < mlen y k
  · have : IsDate (d + 1) (10000 * y + 100 * (k + 1) + (r + 1) + 1) := ⟨y, k, r + 1, y1, y2, hk, by omega, c1, by omega, rfl⟩
    rw [dateV_yes g this]; omega
  · by_cases c2 : k + 1 < 12
    · have hb2 := mlen_bd y (k + 1) c2
      have : IsDate (d + 1) (10000 * y + 100 * ((k + 1 : Nat) + 1) + 0 + 1) := ⟨y, k + 1, 0, y1, y2, c2, by omega, by omega, by rw [msum]; omega, rfl⟩
      rw [dateV_yes g this]; omega
    · have hk11 : k = 11 := by omega
      subst hk11
      have hs := msum_12 y
      rw [msum] at hs
      have hn := ystart_next y
      have hu := ystart_up (y := y + 1) (by omega)
      have hg := dOk_bd g
      have hb2 := mlen_bd (y + 1) 0 (by omega)
      have : IsDate (d + 1) (10000 * (y + 1) + 100 * ((0 : Nat) + 1) + 0 + 1) := ⟨y + 1, 0, 0, by omega, by omega, by omega, by omega, by omega, by simp only [msum]; omega, rfl⟩
      rw [dateV_yes g this]
      have hb3 : mlen y 11 = 31 := by unfold mlen; rw [if_neg (by omega)]; rfl
      omega

end Go.Proofs.YtpenkpiffdbdmaaGreatDoor
