/- Tags, plainly: how a list of them is written, how it is read again. No Go in sight. -/
import Derived.Test.YtlhdpbbgmjfbkaaDoorTgTagO
import Derived.Test.YtlhdpbbgmjfbkaaDoorTgPadP
namespace Go.Proofs.YtlhdpbbgmjfbkaaDoor.Tg

/-- a tag's text, and a list's -/
def putT (f : Fld) : List UInt8 := padT f.1 4 ++ padT f.2.length 3 ++ f.2
def putTs (fs : List Fld) : List UInt8 := fs.flatMap putT
theorem putTs_append (a b : List Fld) : putTs (a ++ b) = putTs a ++ putTs b := by simp [putTs]
theorem putTs_cons (f : Fld) (b : List Fld) : putTs (f :: b) = putT f ++ putTs b := by simp [putTs]
theorem putTs_take (fs : List Fld) (k : Nat) (h : k < fs.length) : putTs (fs.take (k + 1)) = putTs (fs.take k) ++ putT (at0 fs k) := by
  have e : at0 fs k = fs[k] := by simp [at0, List.getD_eq_getElem?_getD, h]
  rw [List.take_succ_eq_append_getElem h, putTs_append, e]; simp [putTs]
def putOk (fs : List Fld) : Bool := tagsOk fs && decide ((putTs fs).length ≤ 999)
def putL (fs : List Fld) : List UInt8 := if putOk fs = true then putTs fs else []
theorem putOk_no {fs : List Fld} (h : tagsOk fs = false) : putOk fs = false := by unfold putOk; rw [h, Bool.false_and]
theorem putOk_big {fs : List Fld} (h : ¬ (putTs fs).length ≤ 999) : putOk fs = false := by unfold putOk; rw [decide_eq_false h, Bool.and_false]
theorem putOk_yes {fs : List Fld} (h : tagsOk fs = true) (g : (putTs fs).length ≤ 999) : putOk fs = true := by unfold putOk; rw [h, decide_eq_true g]; rfl
theorem putOk_parts {fs : List Fld} (h : putOk fs = true) : tagsOk fs = true ∧ (putTs fs).length ≤ 999 := by simpa [putOk] using h
theorem putL_no {fs : List Fld} (h : putOk fs = false) : putL fs = [] := if_neg (by rw [h]; decide)
theorem putL_yes {fs : List Fld} (h : putOk fs = true) : putL fs = putTs fs := if_pos h
theorem padT_le (x n : Int) : (padT x n).length ≤ 18 := by
  rcases padT_cases x n with h | ⟨a, m, _, _, h1, h2, h3, h⟩
  · rw [h]; simp
  · rw [h, padN_len h1 h3]; omega
theorem putT_le (f : Fld) : (putT f).length ≤ 36 + f.2.length := by
  have h1 := padT_le f.1 4
  have h2 := padT_le f.2.length 3
  unfold putT; simp only [List.length_append]; omega
theorem putTs_le {fs : List Fld} (h : ∀ f ∈ fs, f.2.length ≤ 200) : (putTs fs).length ≤ 236 * fs.length := by
  induction fs with
  | nil => simp [putTs]
  | cons f r ih =>
    have h1 := putT_le f
    have h2 := h f (by simp)
    have h3 := ih (fun g hg => h g (by simp [hg]))
    rw [putTs_cons, List.length_append, List.length_cons]; omega
theorem putTs_mono (fs : List Fld) (k : Nat) : (putTs (fs.take k)).length ≤ (putTs fs).length := by
  have : putTs fs = putTs (fs.take k) ++ putTs (fs.drop k) := by rw [← putTs_append, List.take_append_drop]
  rw [this, List.length_append]; omega

end Go.Proofs.YtlhdpbbgmjfbkaaDoor.Tg
