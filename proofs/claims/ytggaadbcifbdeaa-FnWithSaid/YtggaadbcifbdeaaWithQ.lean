/- What stands in a message with a field put in, plainly. No Go in sight. -/
import Derived.Test.YtggaadbcifbdeaaFWith
import Derived.Test.YtggaadbcifbdeaaFFieldOf
namespace Go.Proofs.Ytggaadbcifbdeaa

theorem withF_rec {f : Fld} {r : List Fld} {p num : Int} {d : List UInt8} (h : okF p (f :: r) = true) :
    withF (f :: r) num d = if f.1 < num then f :: withF r num d else if f.1 = num then (num, d) :: r else (num, d) :: f :: r := by
  simp only [okF, Bool.and_eq_true, decide_eq_true_eq] at h
  by_cases hf : f.1 < num
  · have h1 : ltN num f = true := decide_eq_true hf
    have h2 : ¬ gtN num f = true := by simp [gtN]; omega
    rw [if_pos hf, withF, withF, List.filter_cons_of_pos h1, List.filter_cons_of_neg h2]; rfl
  · have h1 : ¬ ltN num f = true := by simp [ltN]; omega
    have e1 : r.filter (ltN num) = [] := List.filter_eq_nil_iff.2 fun g hg => by
      have := (okF_mem h.2 g hg).2
      simp [ltN]; omega
    have e2 : r.filter (gtN num) = r := List.filter_eq_self.2 fun g hg => by
      have := (okF_mem h.2 g hg).2
      simp [gtN]; omega
    rw [if_neg hf, withF, List.filter_cons_of_neg h1, e1]
    by_cases hq : f.1 = num
    · have h2 : ¬ gtN num f = true := by simp [gtN]; omega
      rw [if_pos hq, List.filter_cons_of_neg h2, e2]; rfl
    · have h2 : gtN num f = true := by simp [gtN]; omega
      rw [if_neg hq, List.filter_cons_of_pos h2, e2]; rfl
theorem okF_tail {f : Fld} {r : List Fld} {p : Int} (h : okF p (f :: r) = true) : fieldOk f.1 f.2 = true ∧ p < f.1 ∧ okF f.1 r = true := by
  simp only [okF, Bool.and_eq_true, decide_eq_true_eq] at h
  exact ⟨h.1.1, h.1.2, h.2⟩
theorem okF_low {r : List Fld} {p q : Int} (h : okF q r = true) (hp : p ≤ q) : okF p r = true := by
  cases r with
  | nil => rfl
  | cons f r =>
    obtain ⟨a, b, c⟩ := okF_tail h
    simp only [okF, a, c, Bool.true_and, Bool.and_true]
    exact decide_eq_true (by omega)
theorem fOf_put {num : Int} {d : List UInt8} {fs : List Fld} : ∀ {p : Int}, okF p fs = true → fOf (withF fs num d) num = some d := by
  induction fs with
  | nil => intro p _; simp [withF, fOf]
  | cons f r ih =>
    intro p h
    rw [withF_rec h]
    split
    · rename_i hf
      rw [fOf, if_neg (by omega)]
      exact ih (okF_tail h).2.2
    · split <;> simp [fOf]
theorem okF_put {num : Int} {d : List UInt8} (hd : fieldOk num d = true) {fs : List Fld} : ∀ {p : Int}, okF p fs = true → p < num → okF p (withF fs num d) = true := by
  induction fs with
  | nil => intro p _ hp; simp [withF, okF, hd, hp]
  | cons f r ih =>
    intro p h hp
    rw [withF_rec h]
    obtain ⟨a, b, c⟩ := okF_tail h
    split
    · rename_i hf
      simp [okF, a, b, ih c hf]
    · split
      · rename_i hf hq
        subst hq
        simp [okF, hd, hp, c]
      · simp [okF, hd, hp, a, c]
        omega
theorem fOf_none {num : Int} {fs : List Fld} (h : ∀ g ∈ fs, g.1 ≠ num) : fOf fs num = none := by
  induction fs with
  | nil => rfl
  | cons f r ih =>
    rw [fOf, if_neg (h f (List.mem_cons_self ..))]
    exact ih fun g hg => h g (List.mem_cons_of_mem _ hg)
theorem put_len {num : Int} {d : List UInt8} {fs : List Fld} : ∀ {p : Int}, okF p fs = true → (withF fs num d).length = fs.length + (if (fOf fs num).isSome = true then 0 else 1) := by
  induction fs with
  | nil => intro p _; simp [withF, fOf]
  | cons f r ih =>
    intro p h
    rw [withF_rec h]
    obtain ⟨a, b, c⟩ := okF_tail h
    split
    · rename_i hf
      rw [show fOf (f :: r) num = fOf r num from if_neg (show ¬ f.1 = num by omega), List.length_cons, ih c, List.length_cons]
      omega
    · split
      · rename_i hf hq
        rw [fOf, if_pos hq]; simp
      · rename_i hf hq
        rw [fOf, if_neg hq, fOf_none fun g hg => by have := (okF_mem c g hg).2; omega]; simp
theorem fOf_mem {fs : List Fld} {x : Fld} : ∀ {p : Int}, okF p fs = true → x ∈ fs → fOf fs x.1 = some x.2 := by
  induction fs with
  | nil => intro p _ hx; cases hx
  | cons f r ih =>
    intro p h hx
    obtain ⟨a, b, c⟩ := okF_tail h
    rcases List.mem_cons.1 hx with rfl | hx
    · rw [fOf, if_pos rfl]
    · have := (okF_mem c x hx).2
      rw [fOf, if_neg (by omega)]
      exact ih c hx
theorem fOf_stay {num : Int} {d : List UInt8} {fs : List Fld} {x : Fld} (hx : x.1 ≠ num) : ∀ {p : Int}, okF p fs = true → x ∈ fs → fOf (withF fs num d) x.1 = some x.2 := by
  induction fs with
  | nil => intro p _ hx; cases hx
  | cons f r ih =>
    intro p h hm
    rw [withF_rec h]
    obtain ⟨a, b, c⟩ := okF_tail h
    split
    · rcases List.mem_cons.1 hm with rfl | hm
      · rw [fOf, if_pos rfl]
      · have := (okF_mem c x hm).2
        rw [fOf, if_neg (by omega)]
        exact ih c hm
    · split
      · rename_i hf hq
        rcases List.mem_cons.1 hm with rfl | hm
        · exact absurd hq hx
        · rw [fOf, if_neg (fun e => hx e.symm)]
          exact fOf_mem c hm
      · rw [fOf, if_neg (fun e => hx e.symm)]
        exact fOf_mem h hm
/-- what the law asks of a message with a field put in -/
theorem with_all {kd num : Int} {fs : List Fld} {d : List UInt8} (h : withOk kd fs num d = true) :
    fOf (withF fs num d) num = some d ∧ msgOk kd (withF fs num d) = true ∧ (withF fs num d).length = fs.length + (if (fOf fs num).isSome = true then 0 else 1) ∧
    ∀ i, i < fs.length → (fOf (withF fs num d) (at0 fs i).1).isSome = true ∧ ((at0 fs i).1 ≠ num → (fOf (withF fs num d) (at0 fs i).1).getD [] = (at0 fs i).2) := by
  simp only [withOk, Bool.and_eq_true] at h
  obtain ⟨hf, hm⟩ := h
  have hm' := hm
  simp only [msgOk, Bool.and_eq_true] at hm'
  obtain ⟨hk, ho⟩ := hm'
  have h2 : (1 : Int) < num := by have := (known_K (ok_known hf)).2.2.2.1; omega
  refine ⟨fOf_put ho, ?_, put_len ho, fun i hi => ?_⟩
  · simp only [msgOk, Bool.and_eq_true]
    exact ⟨hk, okF_put hf ho h2⟩
  · have e : at0 fs i = fs[i] := by simp [at0, List.getD_eq_getElem?_getD, hi]
    have hmem : at0 fs i ∈ fs := by rw [e]; exact List.getElem_mem hi
    by_cases hq : (at0 fs i).1 = num
    · rw [hq, fOf_put ho]; simp
    · rw [fOf_stay hq ho hmem]; simp

end Go.Proofs.Ytggaadbcifbdeaa
