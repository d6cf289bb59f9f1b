/- Messages, plainly: what form a field's data has, when a field is so, when a list of fields is. No Go in sight. -/
import Derived.Test.YtiiechnbionhnaaBy
namespace Go.Proofs.Ytiiechnbionhnaa

abbrev Fld := Int × List UInt8
def knowns : List Int := [2, 3, 4, 12, 24, 25, 31, 37, 38, 42, 48, 49, 71, 72, 93]
/-- how a field is written (0 for one that is not known), and its length or its most -/
def fK (n : Int) : Int :=
  if n = 3 ∨ n = 4 ∨ n = 12 ∨ n = 24 ∨ n = 49 ∨ n = 25 ∨ n = 71 then 1 else if n = 2 ∨ n = 93 then 2
  else if n = 37 ∨ n = 38 ∨ n = 42 then 3 else if n = 31 then 4 else if n = 48 ∨ n = 72 then 5 else 0
def fS (n : Int) : Int :=
  if n = 3 ∨ n = 38 then 6 else if n = 4 ∨ n = 12 ∨ n = 37 then 12 else if n = 24 ∨ n = 49 then 3 else if n = 25 then 4 else if n = 71 then 8
  else if n = 2 then 19 else if n = 93 then 11 else if n = 42 then 15 else if n = 31 then 23 else if n = 48 ∨ n = 72 then 999 else 0
def fieldKS (k s : Int) (d : List UInt8) : Bool :=
  if k = 1 then decide ((d.length : Int) = s) && within 48 57 d
  else if k = 2 then decide ((d.length : Int) ≤ s) && within 48 57 d
  else if k = 3 then decide ((d.length : Int) = s) && within 32 126 d
  else if k = 4 ∨ k = 5 then decide ((d.length : Int) ≤ s) && within 32 126 d
  else false
def fieldOk (n : Int) (d : List UInt8) : Bool := fieldKS (fK n) (fS n) d

theorem not_known {n : Int} (h : n ∉ knowns) : n ≠ 2 ∧ n ≠ 3 ∧ n ≠ 4 ∧ n ≠ 12 ∧ n ≠ 24 ∧ n ≠ 25 ∧ n ≠ 31 ∧ n ≠ 37 ∧ n ≠ 38 ∧ n ≠ 42 ∧ n ≠ 48 ∧ n ≠ 49 ∧ n ≠ 71 ∧ n ≠ 72 ∧ n ≠ 93 := by
  simpa [knowns] using h
theorem fK_no {n : Int} (h : n ∉ knowns) : fK n = 0 := by
  obtain ⟨h1, h2, h3, h4, h5, h6, h7, h8, h9, h10, h11, h12, h13, h14, h15⟩ := not_known h
  unfold fK; simp [*]
theorem fS_no {n : Int} (h : n ∉ knowns) : fS n = 0 := by
  obtain ⟨h1, h2, h3, h4, h5, h6, h7, h8, h9, h10, h11, h12, h13, h14, h15⟩ := not_known h
  unfold fS; simp [*]
theorem known_in {n : Int} (h : n ∈ knowns) : n = 2 ∨ n = 3 ∨ n = 4 ∨ n = 12 ∨ n = 24 ∨ n = 25 ∨ n = 31 ∨ n = 37 ∨ n = 38 ∨ n = 42 ∨ n = 48 ∨ n = 49 ∨ n = 71 ∨ n = 72 ∨ n = 93 := by
  simpa [knowns] using h
theorem known_K {n : Int} (h : n ∈ knowns) : (fK n = 1 ∨ fK n = 2 ∨ fK n = 3 ∨ fK n = 4 ∨ fK n = 5) ∧ 0 ≤ fS n ∧ fS n ≤ 999 ∧ 2 ≤ n ∧ n ≤ 93 ∧ (fK n = 1 → fS n ≤ 12) ∧ (fK n = 2 → fS n ≤ 19) ∧ (fK n = 3 → fS n ≤ 15) ∧ (fK n = 4 → fS n = 23) ∧ (fK n = 5 → fS n = 999) := by
  rcases known_in h with rfl | rfl | rfl | rfl | rfl | rfl | rfl | rfl | rfl | rfl | rfl | rfl | rfl | rfl | rfl <;> decide
theorem ok_known {n : Int} {d : List UInt8} (h : fieldOk n d = true) : n ∈ knowns := by
  by_cases hn : n ∈ knowns
  · exact hn
  · simp [fieldOk, fieldKS, fK_no hn] at h
theorem fieldOk_no {n : Int} {d : List UInt8} (h : n ∉ knowns) : fieldOk n d = false := by simp [fieldOk, fieldKS, fK_no h]

/-- from p on: each field so, and its number behind the one ahead of it -/
def okF (p : Int) : List Fld → Bool
  | [] => true
  | f :: r => (fieldOk f.1 f.2 && decide (p < f.1)) && okF f.1 r
def at0 (fs : List Fld) (k : Nat) : Fld := fs.getD k (0, [])
theorem okF_step (fs : List Fld) (k : Nat) (p : Int) (h : k < fs.length) : okF p (fs.drop k) = ((fieldOk (at0 fs k).1 (at0 fs k).2 && decide (p < (at0 fs k).1)) && okF (at0 fs k).1 (fs.drop (k + 1))) := by
  have e : at0 fs k = fs[k] := by simp [at0, List.getD_eq_getElem?_getD, h]
  rw [List.drop_eq_getElem_cons h, e]; rfl
def prevF (fs : List Fld) (k : Nat) : Int := if k = 0 then 1 else (at0 fs (k - 1)).1
def msgOk (kd : Int) (fs : List Fld) : Bool := decide (0 ≤ kd ∧ kd ≤ 9999) && okF 1 fs
theorem okF_end (p : Int) (fs : List Fld) : okF p (fs.drop fs.length) = true := by rw [List.drop_of_length_le (Nat.le_refl _)]; rfl
theorem okF_mem {fs : List Fld} : ∀ {p : Int}, okF p fs = true → ∀ f ∈ fs, fieldOk f.1 f.2 = true ∧ p < f.1 := by
  induction fs with
  | nil => intro p _ f hf; cases hf
  | cons g r ih =>
    intro p h f hf
    simp only [okF, Bool.and_eq_true, decide_eq_true_eq] at h
    rcases List.mem_cons.1 hf with rfl | hr
    · exact h.1
    · have := ih h.2 f hr
      exact ⟨this.1, by omega⟩
theorem okF_len {fs : List Fld} : ∀ {p : Int}, okF p fs = true → 1 ≤ p → fs = [] ∨ (fs.length : Int) + p ≤ 93 := by
  induction fs with
  | nil => intro p _ _; exact .inl rfl
  | cons g r ih =>
    intro p h hp
    simp only [okF, Bool.and_eq_true, decide_eq_true_eq] at h
    have hk := known_K (ok_known h.1.1)
    rcases ih h.2 (by omega) with rfl | h2
    · right; simp; omega
    · right; simp; omega

end Go.Proofs.Ytiiechnbionhnaa
