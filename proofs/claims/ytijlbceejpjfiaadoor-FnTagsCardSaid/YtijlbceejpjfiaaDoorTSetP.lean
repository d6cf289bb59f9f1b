/- A tag put in its place, plainly. No Go in sight. -/
import Derived.Test.YtijlbceejpjfiaaDoorTagO
namespace Go.Proofs.YtijlbceejpjfiaaDoor

def ltP (num : Int) (f : Fld) : Bool := decide (f.1 < num)
def gtP (num : Int) (f : Fld) : Bool := decide (num < f.1)
def neP (num : Int) (f : Fld) : Bool := f.1 != num
/-- the list with the tag in its place, whether or not that is so -/
def tset (fs : List Fld) (num : Int) (d : List UInt8) : List Fld := fs.filter (ltP num) ++ [(num, d)] ++ fs.filter (gtP num)
def tsetOk (fs : List Fld) (num : Int) (d : List UInt8) : Bool := tagsOk fs && tagsOk (tset fs num d)
def tsetL (fs : List Fld) (num : Int) (d : List UInt8) : List Fld := if tsetOk fs num d = true then tset fs num d else fs
theorem tset_no1 {fs : List Fld} {num : Int} {d : List UInt8} (h : tagsOk fs = false) : tsetOk fs num d = false ∧ tsetL fs num d = fs := by
  have e : tsetOk fs num d = false := by unfold tsetOk; rw [h, Bool.false_and]
  exact ⟨e, by unfold tsetL; rw [e, if_neg (by decide)]⟩
theorem tset_no2 {fs : List Fld} {num : Int} {d : List UInt8} (h : tagsOk (tset fs num d) = false) : tsetOk fs num d = false ∧ tsetL fs num d = fs := by
  have e : tsetOk fs num d = false := by unfold tsetOk; rw [h, Bool.and_false]
  exact ⟨e, by unfold tsetL; rw [e, if_neg (by decide)]⟩
theorem tset_yes {fs : List Fld} {num : Int} {d : List UInt8} (h : tagsOk fs = true) (g : tagsOk (tset fs num d) = true) : tsetOk fs num d = true ∧ tsetL fs num d = tset fs num d := by
  have e : tsetOk fs num d = true := by unfold tsetOk; rw [h, g]; rfl
  exact ⟨e, by unfold tsetL; rw [e, if_pos rfl]⟩
theorem tset_len (fs : List Fld) (num : Int) (d : List UInt8) : (tset fs num d).length ≤ 2 * fs.length + 1 := by
  have h1 := List.length_filter_le (ltP num) fs
  have h2 := List.length_filter_le (gtP num) fs
  unfold tset; simp only [List.length_append, List.length_singleton]; omega
theorem tsetL_len (fs : List Fld) (num : Int) (d : List UInt8) : (tsetL fs num d).length ≤ 2 * fs.length + 1 := by
  have := tset_len fs num d
  unfold tsetL; split <;> omega
theorem tset_mem {fs : List Fld} {num : Int} {d : List UInt8} {f : Fld} (h : f ∈ tset fs num d) : f ∈ fs ∨ f = (num, d) := by
  unfold tset at h
  simp only [List.mem_append, List.mem_filter, List.mem_singleton] at h
  rcases h with (h | h) | h
  · exact .inl h.1
  · exact .inr h
  · exact .inl h.1
theorem cut_mem {fs : List Fld} {p : Fld → Bool} {f : Fld} (h : f ∈ fs.filter p) : f ∈ fs := (List.mem_filter.1 h).1

/-- in a list that ascends: what is cut, up to the first that is not below, and from there on -/
theorem cut_parts {fs : List Fld} (num : Int) : ∀ {p : Int}, okT p fs = true → (fs.filter (neP num)).takeWhile (ltP num) = fs.filter (ltP num) ∧ (fs.filter (neP num)).dropWhile (ltP num) = fs.filter (gtP num) := by
  induction fs with
  | nil => intro p _; exact ⟨rfl, rfl⟩
  | cons f r ih =>
    intro p h
    simp only [okT, Bool.and_eq_true, decide_eq_true_eq] at h
    obtain ⟨i1, i2⟩ := ih h.2
    rcases Int.lt_trichotomy f.1 num with hlt | heq | hgt
    · have e1 : neP num f = true := by unfold neP; simp; omega
      have e2 : ltP num f = true := decide_eq_true hlt
      have e3 : gtP num f = false := decide_eq_false (by omega)
      rw [List.filter_cons_of_pos e1, List.filter_cons_of_pos e2, List.filter_cons_of_neg (by rw [e3]; decide), List.takeWhile_cons_of_pos e2, List.dropWhile_cons_of_pos e2, i1, i2]
      exact ⟨rfl, rfl⟩
    · have e1 : neP num f = false := by unfold neP; simp; omega
      have e2 : ltP num f = false := decide_eq_false (by omega)
      have e3 : gtP num f = false := decide_eq_false (by omega)
      rw [List.filter_cons_of_neg (by rw [e1]; decide), List.filter_cons_of_neg (by rw [e2]; decide), List.filter_cons_of_neg (by rw [e3]; decide)]
      exact ⟨i1, i2⟩
    · have e1 : neP num f = true := by unfold neP; simp; omega
      have e2 : ltP num f = false := decide_eq_false (by omega)
      have e3 : gtP num f = true := decide_eq_true hgt
      have hr : ∀ g ∈ r, num < g.1 := fun g hg => by have := (okT_mem h.2 g hg).2; omega
      have f1 : r.filter (ltP num) = [] := List.filter_eq_nil_iff.2 fun g hg => by have := hr g hg; unfold ltP; simp; omega
      have f2 : r.filter (gtP num) = r := List.filter_eq_self.2 fun g hg => by have := hr g hg; unfold gtP; simp; omega
      have f3 : r.filter (neP num) = r := List.filter_eq_self.2 fun g hg => by have := hr g hg; unfold neP; simp; omega
      rw [List.filter_cons_of_pos e1, List.filter_cons_of_neg (by rw [e2]; decide), List.filter_cons_of_pos e3, f1, f2, f3, List.takeWhile_cons_of_neg (by rw [e2]; decide), List.dropWhile_cons_of_neg (by rw [e2]; decide)]
      exact ⟨rfl, rfl⟩

/-- how many stand ahead of the first that is not below -/
def leadN (rs : List Fld) (num : Int) : Nat := (rs.takeWhile (ltP num)).length
theorem lead_le (rs : List Fld) (num : Int) : leadN rs num ≤ rs.length := by
  unfold leadN
  induction rs with
  | nil => simp
  | cons f r ih =>
    by_cases h : ltP num f = true
    · rw [List.takeWhile_cons_of_pos h]; simp; omega
    · rw [List.takeWhile_cons_of_neg h]; simp
theorem lead_iff (rs : List Fld) (num : Int) : ∀ k, k ≤ leadN rs num → k < rs.length → ((at0 rs k).1 < num ↔ k < leadN rs num) := by
  induction rs with
  | nil => intro k _ h; simp at h
  | cons f r ih =>
    intro k hk hl
    by_cases h : ltP num f = true
    · have e : leadN (f :: r) num = leadN r num + 1 := by unfold leadN; rw [List.takeWhile_cons_of_pos h]; simp
      cases k with
      | zero => exact ⟨fun _ => by omega, fun _ => of_decide_eq_true h⟩
      | succ k =>
        have := ih k (by omega) (by simpa using hl)
        rw [e]
        have e2 : at0 (f :: r) (k + 1) = at0 r k := by simp [at0]
        rw [e2]
        exact ⟨fun x => by have := this.1 x; omega, fun x => this.2 (by omega)⟩
    · have e : leadN (f :: r) num = 0 := by unfold leadN; rw [List.takeWhile_cons_of_neg h]; simp
      have hk0 : k = 0 := by omega
      subst hk0
      have h' : ¬ f.1 < num := fun x => h (decide_eq_true x)
      rw [e]
      exact ⟨fun x => absurd x h', fun x => by omega⟩
theorem lead_take (rs : List Fld) (num : Int) : rs.take (leadN rs num) = rs.takeWhile (ltP num) ∧ rs.drop (leadN rs num) = rs.dropWhile (ltP num) := by
  have h := List.takeWhile_append_dropWhile (p := ltP num) (l := rs)
  unfold leadN
  generalize rs.takeWhile (ltP num) = a at h ⊢
  generalize rs.dropWhile (ltP num) = b at h ⊢
  rw [← h]
  exact ⟨List.take_left, List.drop_left⟩
theorem tset_is {fs : List Fld} {num : Int} {d : List UInt8} (h : tagsOk fs = true) : (fs.filter (neP num)).take (leadN (fs.filter (neP num)) num) ++ [(num, d)] ++ (fs.filter (neP num)).drop (leadN (fs.filter (neP num)) num) = tset fs num d := by
  obtain ⟨h1, h2⟩ := lead_take (fs.filter (neP num)) num
  obtain ⟨h3, h4⟩ := cut_parts num (tagsOk_parts h).2
  rw [h1, h2, h3, h4]; rfl

end Go.Proofs.YtijlbceejpjfiaaDoor
