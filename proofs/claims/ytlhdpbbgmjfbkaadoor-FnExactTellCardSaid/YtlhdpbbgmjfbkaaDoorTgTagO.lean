/- Tags, plainly: when a list of them is so. No Go in sight. -/
import Derived.Test.YtlhdpbbgmjfbkaaDoorMsgP
namespace Go.Proofs.YtlhdpbbgmjfbkaaDoor.Tg

def tagOne (n : Int) (d : List UInt8) : Bool := decide (1 ≤ n ∧ n ≤ 9999) && (decide (d.length ≤ 200) && within 32 126 d)
/-- from p on: each tag so, and its number behind the one ahead of it -/
def okT (p : Int) : List Fld → Bool
  | [] => true
  | f :: r => (tagOne f.1 f.2 && decide (p < f.1)) && okT f.1 r
theorem okT_step (fs : List Fld) (k : Nat) (p : Int) (h : k < fs.length) : okT p (fs.drop k) = ((tagOne (at0 fs k).1 (at0 fs k).2 && decide (p < (at0 fs k).1)) && okT (at0 fs k).1 (fs.drop (k + 1))) := by
  have e : at0 fs k = fs[k] := by simp [at0, List.getD_eq_getElem?_getD, h]
  rw [List.drop_eq_getElem_cons h, e]; rfl
def prevT (fs : List Fld) (k : Nat) : Int := if k = 0 then 0 else (at0 fs (k - 1)).1
theorem okT_end (p : Int) (fs : List Fld) : okT p (fs.drop fs.length) = true := by rw [List.drop_of_length_le (Nat.le_refl _)]; rfl
def tagsOk (fs : List Fld) : Bool := decide (fs.length ≤ 60) && okT 0 fs
theorem tagsOk_no {fs : List Fld} (h : okT 0 fs = false) : tagsOk fs = false := by unfold tagsOk; rw [h, Bool.and_false]
theorem tagsOk_big {fs : List Fld} (h : ¬ fs.length ≤ 60) : tagsOk fs = false := by unfold tagsOk; rw [decide_eq_false h, Bool.false_and]
theorem tagsOk_len {fs : List Fld} (h : okT 0 fs = true) : tagsOk fs = decide (fs.length ≤ 60) := by unfold tagsOk; rw [h, Bool.and_true]
theorem tagsOk_fs {fs : List Fld} (h : fs.length ≤ 60) : tagsOk fs = okT 0 fs := by unfold tagsOk; rw [decide_eq_true h, Bool.true_and]
theorem tagsOk_parts {fs : List Fld} (h : tagsOk fs = true) : fs.length ≤ 60 ∧ okT 0 fs = true := by simpa [tagsOk] using h
theorem tagOne_parts {n : Int} {d : List UInt8} (h : tagOne n d = true) : (1 ≤ n ∧ n ≤ 9999) ∧ d.length ≤ 200 ∧ within 32 126 d = true := by simpa [tagOne] using h
theorem okT_mem {fs : List Fld} : ∀ {p : Int}, okT p fs = true → ∀ f ∈ fs, tagOne f.1 f.2 = true ∧ p < f.1 := by
  induction fs with
  | nil => intro p _ f hf; cases hf
  | cons g r ih =>
    intro p h f hf
    simp only [okT, Bool.and_eq_true, decide_eq_true_eq] at h
    rcases List.mem_cons.1 hf with rfl | hr
    · exact h.1
    · have := ih h.2 f hr
      exact ⟨this.1, by omega⟩

end Go.Proofs.YtlhdpbbgmjfbkaaDoor.Tg
