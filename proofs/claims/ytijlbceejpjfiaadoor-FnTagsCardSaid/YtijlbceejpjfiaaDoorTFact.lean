/- A tag that is set is there, one that is cut is not, and the others stay; plainly. No Go in sight. -/
import Derived.Test.YtijlbceejpjfiaaDoorTSetP
import Derived.Test.YtijlbceejpjfiaaDoorFTagOf
namespace Go.Proofs.YtijlbceejpjfiaaDoor

theorem fOf_none {fs : List Fld} {n : Int} (h : ∀ f ∈ fs, f.1 ≠ n) : fOf fs n = none := by
  induction fs with
  | nil => rfl
  | cons f r ih =>
    show (if f.1 = n then some f.2 else fOf r n) = none
    rw [if_neg (h f (by simp))]
    exact ih (fun g hg => h g (by simp [hg]))
theorem fOf_app {xs ys : List Fld} {n : Int} (h : ∀ f ∈ xs, f.1 ≠ n) : fOf (xs ++ ys) n = fOf ys n := by
  induction xs with
  | nil => rfl
  | cons f r ih =>
    show (if f.1 = n then some f.2 else fOf (r ++ ys) n) = _
    rw [if_neg (h f (by simp))]
    exact ih (fun g hg => h g (by simp [hg]))
theorem set_there (fs : List Fld) (num : Int) (d : List UInt8) : fOf (tset fs num d) num = some d := by
  unfold tset
  rw [List.append_assoc, fOf_app]
  · show (if num = num then some d else _) = _
    rw [if_pos rfl]
  · intro f hf
    have : decide (f.1 < num) = true := (List.mem_filter.1 hf).2
    have := of_decide_eq_true this
    omega
theorem cut_not (fs : List Fld) (num : Int) : fOf (fs.filter (neP num)) num = none :=
  fOf_none fun f hf => by
    have : (f.1 != num) = true := (List.mem_filter.1 hf).2
    simpa using this
theorem cut_set {fs : List Fld} {num : Int} {d : List UInt8} (h : tagsOk fs = true) : (tset fs num d).filter (neP num) = fs.filter (neP num) := by
  obtain ⟨h1, h2⟩ := cut_parts num (tagsOk_parts h).2
  have e1 : (fs.filter (ltP num)).filter (neP num) = fs.filter (ltP num) := List.filter_eq_self.2 fun f hf => by
    have : decide (f.1 < num) = true := (List.mem_filter.1 hf).2
    have := of_decide_eq_true this
    unfold neP; simp; omega
  have e2 : (fs.filter (gtP num)).filter (neP num) = fs.filter (gtP num) := List.filter_eq_self.2 fun f hf => by
    have : decide (num < f.1) = true := (List.mem_filter.1 hf).2
    have := of_decide_eq_true this
    unfold neP; simp; omega
  have e3 : [(num, d)].filter (neP num) = [] := by
    rw [List.filter_cons_of_neg (by unfold neP; simp)]; rfl
  unfold tset
  rw [List.filter_append, List.filter_append, e1, e2, e3, List.append_nil, ← h1, ← h2, List.takeWhile_append_dropWhile]
theorem cut_len {fs : List Fld} {num : Int} {d : List UInt8} (h : tagsOk fs = true) : (fs.filter (neP num)).length + 1 = (tset fs num d).length := by
  obtain ⟨h1, h2⟩ := cut_parts num (tagsOk_parts h).2
  have e : (fs.filter (neP num)).length = (fs.filter (ltP num)).length + (fs.filter (gtP num)).length := by
    rw [← h1, ← h2, ← List.length_append, List.takeWhile_append_dropWhile]
  unfold tset
  simp only [List.length_append, List.length_singleton]
  omega

end Go.Proofs.YtijlbceejpjfiaaDoor
