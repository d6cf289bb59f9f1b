/- Plain lists of days: holiday lists, and the working days behind a day. No Go in sight. -/
import Derived.Test.YtenbhmmknejcjaaCal
namespace Go.Proofs.Ytenbhmmknejcjaa

/-- days, ascending, the first of them above l -/
def ascB : Int → List Int → Bool
  | _, [] => true
  | l, z :: r => decide (l < z ∧ 0 ≤ z ∧ z ≤ 80000) && ascB z r
def offOk (zs : List Int) : Bool := decide (zs.length ≤ 400) && ascB (-1) zs
theorem asc_step (zs : List Int) (k : Nat) (l : Int) (h : k < zs.length) : ascB l (zs.drop k) = (decide (l < zs.getD k 0 ∧ 0 ≤ zs.getD k 0 ∧ zs.getD k 0 ≤ 80000) && ascB (zs.getD k 0) (zs.drop (k + 1))) := by
  rw [List.drop_eq_getElem_cons h, ascB]
  simp [List.getD_eq_getElem?_getD, h]
theorem asc_mem : ∀ (zs : List Int) (l : Int), ascB l zs = true → ∀ z ∈ zs, l < z := by
  intro zs
  induction zs with
  | nil => intro l _ z hz; cases hz
  | cons a r ih =>
    intro l h z hz
    simp [ascB] at h
    rcases List.mem_cons.1 hz with rfl | hz
    · exact h.1.1
    · have := ih a h.2 z hz; omega
theorem asc_lt : ∀ (zs : List Int) (l : Int), ascB l zs = true → ∀ i j, i < j → j < zs.length → zs.getD i 0 < zs.getD j 0 := by
  intro zs
  induction zs with
  | nil => intro l _ i j _ h; simp at h
  | cons a r ih =>
    intro l h i j hij hj
    simp [ascB] at h
    cases j with
    | zero => omega
    | succ j =>
      have hj' : j < r.length := by simpa using hj
      cases i with
      | zero =>
        have := asc_mem r a h.2 (r.getD j 0) (by simp [List.getD_eq_getElem?_getD, hj'])
        simpa [List.getD_eq_getElem?_getD] using this
      | succ i =>
        have := ih a h.2 i j (by omega) hj'
        simpa [List.getD_eq_getElem?_getD] using this
theorem off_asc {zs : List Int} (h : offOk zs = true) : ascB (-1) zs = true := by simp [offOk] at h; exact h.2
theorem off_len {zs : List Int} (h : offOk zs = true) : zs.length ≤ 400 := by simp [offOk] at h; exact h.1
theorem off_no1 {zs : List Int} (h : 400 < zs.length) : offOk zs = false := by simp [offOk]; omega
theorem off_no2 {zs : List Int} (h : ascB (-1) zs = false) : offOk zs = false := by simp [offOk, h]
theorem off_yes {zs : List Int} (h : zs.length ≤ 400) (g : ascB (-1) zs = true) : offOk zs = true := by simp [offOk, h, g]

/-- what a search by halves ends with -/
theorem search_end {zs : List Int} {t : Int} {i : Nat} (ha : ascB (-1) zs = true) (h1 : ∀ k, k < i → zs.getD k 0 < t) (h2 : ∀ k, i ≤ k → k < zs.length → t ≤ zs.getD k 0) :
    (t ∈ zs) ↔ (i < zs.length ∧ zs.getD i 0 = t) := by
  constructor
  · intro hm
    obtain ⟨k, hk, rfl⟩ := List.mem_iff_getElem.1 hm
    have e : zs.getD k 0 = zs[k] := by simp [List.getD_eq_getElem?_getD, hk]
    have hik : i ≤ k := by
      rcases Nat.lt_or_ge k i with h | h
      · have := h1 k h; omega
      · exact h
    by_cases h : i = k
    · subst h; exact ⟨hk, e⟩
    · have a := asc_lt zs _ ha i k (by omega) hk
      have b := h2 i (Nat.le_refl _) (by omega)
      omega
  · rintro ⟨hi, rfl⟩
    simp [List.getD_eq_getElem?_getD, hi]

/-- whether a day is a working day -/
def wk (zs : List Int) (d : Int) : Bool := decide ((d + 5) % 7 < 5) && !decide (d ∈ zs)
def worksV (d : Int) (zs : List Int) : Bool := dOk d && offOk zs && wk zs d

/-- the working days behind the day 80000 - f -/
def wd (zs : List Int) : Nat → List Int
  | 0 => []
  | f + 1 => if wk zs (80000 - f) = true then (80000 - (f : Int)) :: wd zs f else wd zs f
/-- how many of them there are up to b -/
def upto (zs : List Int) (f : Nat) (b : Int) : Nat := (wd zs f).countP (fun x => decide (x ≤ b))
/-- the n-th working day behind the day 80000 - f -/
def adv (zs : List Int) (f : Nat) : Nat → Option Int
  | 0 => some (80000 - (f : Int))
  | n + 1 => (wd zs f)[n]?
def addV (d n : Int) (zs : List Int) : Option Int := if dOk d = true ∧ 0 ≤ n ∧ n ≤ 400 ∧ offOk zs = true then adv zs (80000 - d).toNat n.toNat else none
def betV (a b : Int) (zs : List Int) : Int := if dOk a = true ∧ dOk b = true ∧ offOk zs = true then (upto zs (80000 - a).toNat b : Int) else -1

theorem wd_yes {zs : List Int} {f : Nat} (h : wk zs (80000 - f) = true) : wd zs (f + 1) = (80000 - (f : Int)) :: wd zs f := by rw [wd, if_pos h]
theorem wd_no {zs : List Int} {f : Nat} (h : wk zs (80000 - f) = false) : wd zs (f + 1) = wd zs f := by rw [wd, if_neg (by rw [h]; decide)]
theorem wd_len (zs : List Int) (f : Nat) : (wd zs f).length ≤ f := by
  induction f with
  | zero => exact Nat.le_refl _
  | succ f ih =>
    cases h : wk zs (80000 - f)
    · rw [wd_no h]; omega
    · rw [wd_yes h]; simp; omega
theorem wd_mem {zs : List Int} {f : Nat} {e : Int} (h : e ∈ wd zs f) : 80000 - (f : Int) < e ∧ e ≤ 80000 ∧ wk zs e = true := by
  induction f with
  | zero => cases h
  | succ f ih =>
    cases hw : wk zs (80000 - f)
    · rw [wd_no hw] at h; have := ih h; exact ⟨by omega, this.2.1, this.2.2⟩
    · rw [wd_yes hw] at h
      rcases List.mem_cons.1 h with rfl | h
      · exact ⟨by omega, by omega, hw⟩
      · have := ih h; exact ⟨by omega, by omega, this.2.2⟩
theorem upto_none {zs : List Int} {f : Nat} {b : Int} (h : b ≤ 80000 - (f : Int)) : upto zs f b = 0 := by
  unfold upto
  rw [List.countP_eq_zero]
  intro x hx
  have := wd_mem hx
  simp; omega
theorem upto_yes {zs : List Int} {f : Nat} {b : Int} (h : wk zs (80000 - f) = true) (hb : 80000 - (f : Int) ≤ b) : upto zs (f + 1) b = upto zs f b + 1 := by
  unfold upto
  rw [wd_yes h, List.countP_cons_of_pos (by simpa using hb)]
theorem upto_no {zs : List Int} {f : Nat} {b : Int} (h : wk zs (80000 - f) = false) : upto zs (f + 1) b = upto zs f b := by
  unfold upto; rw [wd_no h]
theorem upto_at {zs : List Int} : ∀ {f k : Nat} {e : Int}, (wd zs f)[k]? = some e → upto zs f e = k + 1 := by
  intro f
  induction f with
  | zero => intro k e h; simp [wd] at h
  | succ f ih =>
    intro k e h
    cases hw : wk zs (80000 - f)
    · rw [wd_no hw] at h; rw [upto_no hw]; exact ih h
    · rw [wd_yes hw] at h
      cases k with
      | zero =>
        obtain rfl : 80000 - (f : Int) = e := by simpa using h
        rw [upto_yes hw (Int.le_refl _), upto_none (Int.le_refl _)]
      | succ k =>
        have h' : (wd zs f)[k]? = some e := by simpa using h
        have hm := wd_mem (List.mem_of_getElem? h')
        rw [upto_yes hw (by omega), ih h']
theorem wd_drop {zs : List Int} : ∀ {f k : Nat} {e : Int}, (wd zs f)[k]? = some e → wd zs (80000 - e).toNat = (wd zs f).drop (k + 1) := by
  intro f
  induction f with
  | zero => intro k e h; simp [wd] at h
  | succ f ih =>
    intro k e h
    cases hw : wk zs (80000 - f)
    · rw [wd_no hw] at h ⊢; exact ih h
    · rw [wd_yes hw] at h ⊢
      cases k with
      | zero =>
        obtain rfl : 80000 - (f : Int) = e := by simpa using h
        rw [show (80000 - (80000 - (f : Int))).toNat = f from by omega]; simp
      | succ k =>
        have h' : (wd zs f)[k]? = some e := by simpa using h
        rw [ih h']; simp

theorem adv_zero (zs : List Int) (f : Nat) : adv zs f 0 = some (80000 - (f : Int)) := rfl
theorem adv_end (zs : List Int) (n : Nat) : adv zs 0 (n + 1) = none := by simp [adv, wd]
theorem adv_yes {zs : List Int} {f n : Nat} (h : wk zs (80000 - f) = true) : adv zs (f + 1) (n + 1) = adv zs f n := by
  rw [adv, wd_yes h]
  cases n with
  | zero => simp [adv]
  | succ n => simp [adv]
theorem adv_no {zs : List Int} {f n : Nat} (h : wk zs (80000 - f) = false) : adv zs (f + 1) (n + 1) = adv zs f (n + 1) := by
  rw [adv, wd_no h]; rfl
theorem adv_bd {zs : List Int} {f n : Nat} {e : Int} (hf : f ≤ 80000) (h : adv zs f n = some e) : 80000 - (f : Int) ≤ e ∧ e ≤ 80000 ∧ (n = 0 ∨ wk zs e = true) := by
  cases n with
  | zero => obtain rfl : 80000 - (f : Int) = e := by simpa [adv] using h
            exact ⟨by omega, by omega, .inl rfl⟩
  | succ n =>
    have := wd_mem (List.mem_of_getElem? h)
    exact ⟨by omega, by omega, .inr this.2.2⟩
theorem adv_upto {zs : List Int} {f n : Nat} {e : Int} (h : adv zs f n = some e) : upto zs f e = n := by
  cases n with
  | zero => obtain rfl : 80000 - (f : Int) = e := by simpa [adv] using h
            exact upto_none (Int.le_refl _)
  | succ n => exact upto_at h
/-- days in two parts are days at once -/
theorem adv_split {zs : List Int} {f k m : Nat} {e : Int} (hf : f ≤ 80000) (h : adv zs f (k + m) = some e) : ∃ g, adv zs f k = some g ∧ adv zs (80000 - g).toNat m = some e := by
  cases k with
  | zero =>
    refine ⟨80000 - f, rfl, ?_⟩
    rw [show (80000 - (80000 - (f : Int))).toNat = f from by omega]
    simpa using h
  | succ k =>
    rw [show k + 1 + m = (k + m) + 1 from by omega, adv] at h
    have hlt := (List.getElem?_eq_some_iff.1 h).1
    obtain ⟨g, hg⟩ : ∃ g, (wd zs f)[k]? = some g := ⟨_, List.getElem?_eq_getElem (by omega)⟩
    refine ⟨g, hg, ?_⟩
    have hb := wd_mem (List.mem_of_getElem? hg)
    cases m with
    | zero =>
      rw [adv_zero]
      have : g = e := by simpa [hg] using h
      subst this
      congr 1; omega
    | succ m =>
      rw [adv, wd_drop hg, List.getElem?_drop]
      rw [show k + 1 + m = k + (m + 1) from by omega]; exact h

end Go.Proofs.Ytenbhmmknejcjaa
