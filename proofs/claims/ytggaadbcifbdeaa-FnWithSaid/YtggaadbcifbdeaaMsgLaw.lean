/- The laws' own functions over messages: how much one takes, its copy. -/
import Derived.Test.YtggaadbcifbdeaaFlds
import Derived.Test.YtggaadbcifbdeaaFldLaw
import Derived.Test.YtggaadbcifbdeaaBox
import Derived.OwnWalk
namespace Go.Proofs.Ytggaadbcifbdeaa
open Go.RowKit

/-- what is left behind the data of all fields -/
def leftFs : List Fld → Int → Int
  | [], left => left
  | f :: r, left => if left - (f.2.length : Int) < 0 then -1 else leftFs r (left - (f.2.length : Int))
def leftM (fs : List Fld) (left : Int) : Int := if left - (fs.length : Int) < 0 then -1 else leftFs fs (left - (fs.length : Int))
theorem leftFs_step (fs : List Fld) (k : Nat) (left : Int) (h : k < fs.length) : leftFs (fs.drop k) left = if left - ((at0 fs k).2.length : Int) < 0 then -1 else leftFs (fs.drop (k + 1)) (left - ((at0 fs k).2.length : Int)) := by
  have e : at0 fs k = fs[k] := by simp [at0, List.getD_eq_getElem?_getD, h]
  rw [List.drop_eq_getElem_cons h, e]; rfl
def sumF (fs : List Fld) : Nat := (fs.map fun f => f.2.length).sum
theorem leftFs_sum (fs : List Fld) : ∀ left, 0 ≤ leftFs fs left → 0 ≤ left → (sumF fs : Int) ≤ left := by
  induction fs with
  | nil => intro left _ h; simpa [sumF] using h
  | cons f r ih =>
    intro left h hl
    simp only [leftFs] at h
    split at h
    · omega
    · have := ih _ h (by omega)
      simp only [sumF, List.map_cons, List.sum_cons] at this ⊢
      omega
theorem leftM_sum {fs : List Fld} {left : Int} (h : 0 ≤ leftM fs left) : (fs.length : Int) + sumF fs ≤ left := by
  unfold leftM at h
  split at h
  · omega
  · have := leftFs_sum fs _ h (by omega)
    omega
theorem sumF_mem {fs : List Fld} {f : Fld} (h : f ∈ fs) : f.2.length ≤ sumF fs := by
  induction fs with
  | nil => cases h
  | cons g r ih =>
    simp only [sumF, List.map_cons, List.sum_cons] at ih ⊢
    rcases List.mem_cons.1 h with rfl | hr
    · omega
    · have := ih hr; omega
theorem at0_mem {fs : List Fld} {k : Nat} (h : k < fs.length) : at0 fs k ∈ fs := by
  have e : at0 fs k = fs[k] := by simp [at0, List.getD_eq_getElem?_getD, h]
  rw [e]; exact List.getElem_mem h
theorem at0_le {fs : List Fld} {k n : Nat} (h : k < fs.length) (hs : sumF fs ≤ n) : (at0 fs k).2.length ≤ n := Nat.le_trans (sumF_mem (at0_mem h)) hs

end Go.Proofs.Ytggaadbcifbdeaa
