/- A message with a field put in, plainly. No Go in sight. -/
import Derived.Test.YtggaadbcifbdeaaMsgP
namespace Go.Proofs.Ytggaadbcifbdeaa

def ltN (num : Int) (f : Fld) : Bool := decide (f.1 < num)
def leN (num : Int) (f : Fld) : Bool := decide (f.1 ≤ num)
def gtN (num : Int) (f : Fld) : Bool := decide (num < f.1)
def geN (num : Int) (f : Fld) : Bool := decide (num ≤ f.1)
def withF (fs : List Fld) (num : Int) (d : List UInt8) : List Fld := fs.filter (ltN num) ++ (num, d) :: fs.filter (gtN num)
def cL (fs : List Fld) (num : Int) : Nat := fs.countP (ltN num)
def cLe (fs : List Fld) (num : Int) : Nat := fs.countP (leN num)

theorem take_cL {fs : List Fld} {num : Int} : ∀ {p : Int}, okF p fs = true → fs.take (cL fs num) = fs.filter (ltN num) := by
  induction fs with
  | nil => intro p _; rfl
  | cons f r ih =>
    intro p h
    simp only [okF, Bool.and_eq_true, decide_eq_true_eq] at h
    by_cases hf : f.1 < num
    · have hl : ltN num f = true := decide_eq_true hf
      rw [List.filter_cons_of_pos hl, cL, List.countP_cons_of_pos hl, List.take_succ_cons, ← ih h.2, cL]
    · have hl : ¬ ltN num f = true := by simp [ltN]; omega
      have h0 : r.filter (ltN num) = [] := List.filter_eq_nil_iff.2 fun g hg => by
        have := (okF_mem h.2 g hg).2
        simp [ltN]; omega
      have hc : r.countP (ltN num) = 0 := by rw [List.countP_eq_length_filter, h0]; rfl
      rw [List.filter_cons_of_neg hl, cL, List.countP_cons_of_neg hl, hc, h0]; rfl
theorem drop_cLe {fs : List Fld} {num : Int} : ∀ {p : Int}, okF p fs = true → fs.drop (cLe fs num) = fs.filter (gtN num) := by
  induction fs with
  | nil => intro p _; rfl
  | cons f r ih =>
    intro p h
    simp only [okF, Bool.and_eq_true, decide_eq_true_eq] at h
    by_cases hf : f.1 ≤ num
    · have hl : leN num f = true := decide_eq_true hf
      have hg : ¬ gtN num f = true := by simp [gtN]; omega
      rw [List.filter_cons_of_neg hg, cLe, List.countP_cons_of_pos hl, List.drop_succ_cons, ← ih h.2, cLe]
    · have hl : ¬ leN num f = true := by simp [leN]; omega
      have hg : gtN num f = true := by simp [gtN]; omega
      have hc : r.countP (leN num) = 0 := List.countP_eq_zero.2 fun g hg => by
        have := (okF_mem h.2 g hg).2
        simp [leN]; omega
      have ha : r.filter (gtN num) = r := List.filter_eq_self.2 fun g hg => by
        have := (okF_mem h.2 g hg).2
        simp [gtN]; omega
      rw [List.filter_cons_of_pos hg, cLe, List.countP_cons_of_neg hl, hc, ha]; rfl
theorem cL_le (fs : List Fld) (num : Int) : cL fs num ≤ fs.length := List.countP_le_length
theorem cLe_le (fs : List Fld) (num : Int) : cLe fs num ≤ fs.length := List.countP_le_length
theorem take_one (fs : List Fld) (k : Nat) (h : k < fs.length) : fs.take (k + 1) = fs.take k ++ [at0 fs k] := by
  have e : at0 fs k = fs[k] := by simp [at0, List.getD_eq_getElem?_getD, h]
  rw [List.take_succ_eq_append_getElem h, e]
theorem cL_step (fs : List Fld) (num : Int) (k : Nat) (h : k < fs.length) : cL (fs.take (k + 1)) num = cL (fs.take k) num + if (at0 fs k).1 < num then 1 else 0 := by
  rw [take_one fs k h, cL, List.countP_append]
  by_cases hf : (at0 fs k).1 < num <;> simp [cL, ltN, hf]
theorem cLe_step (fs : List Fld) (num : Int) (k : Nat) (h : k < fs.length) : cLe (fs.take (k + 1)) num = cLe (fs.take k) num + if (at0 fs k).1 ≤ num then 1 else 0 := by
  rw [take_one fs k h, cLe, List.countP_append]
  by_cases hf : (at0 fs k).1 ≤ num <;> simp [cLe, leN, hf]
theorem withF_parts {fs : List Fld} {num : Int} {d : List UInt8} {p : Int} (h : okF p fs = true) : fs.take (cL fs num) ++ [(num, d)] ++ fs.drop (cLe fs num) = withF fs num d := by
  rw [take_cL h, drop_cLe h, withF, List.append_assoc]; rfl

/-- what the specification has behind k rounds -/
def putK (fs : List Fld) (num : Int) (k : Nat) : Bool := (fs.take k).any (geN num)
def withK (fs : List Fld) (num : Int) (d : List UInt8) (k : Nat) : List Fld := if putK fs num k = true then withF (fs.take k) num d else fs.take k
theorem withK_zero (fs : List Fld) (num : Int) (d : List UInt8) : withK fs num d 0 = [] := rfl
theorem sorted_at {fs : List Fld} {p : Int} (h : okF p fs = true) : ∀ i k, i < k → k < fs.length → (at0 fs i).1 < (at0 fs k).1 := by
  induction fs generalizing p with
  | nil => intro i k _ hk; simp at hk
  | cons f r ih =>
    intro i k hik hk
    simp only [okF, Bool.and_eq_true, decide_eq_true_eq] at h
    cases k with
    | zero => omega
    | succ k =>
      have hk' : k < r.length := by simpa using hk
      cases i with
      | zero =>
        have e : at0 r k = r[k] := by simp [at0, List.getD_eq_getElem?_getD, hk']
        have := (okF_mem h.2 (at0 r k) (by rw [e]; exact List.getElem_mem hk')).2
        exact this
      | succ i => exact ih h.2 i k (by omega) hk'
theorem mem_take_at {fs : List Fld} {k : Nat} {f : Fld} (h : f ∈ fs.take k) : ∃ i, i < k ∧ i < fs.length ∧ f = at0 fs i := by
  obtain ⟨i, hi, rfl⟩ := List.getElem_of_mem h
  have : i < k ∧ i < fs.length := by simp at hi; omega
  exact ⟨i, this.1, this.2, by simp [at0, List.getD_eq_getElem?_getD, this.2]⟩
theorem putK_not {fs : List Fld} {num : Int} {k : Nat} (h : putK fs num k = false) : ∀ f ∈ fs.take k, f.1 < num := by
  intro f hf
  have := List.any_eq_false.1 h f hf
  simp [geN] at this; exact this
theorem filt_lt {l : List Fld} {num : Int} (h : ∀ f ∈ l, f.1 < num) : l.filter (ltN num) = l ∧ l.filter (gtN num) = [] :=
  ⟨List.filter_eq_self.2 fun f hf => decide_eq_true (h f hf), List.filter_eq_nil_iff.2 fun f hf => by have := h f hf; simp [gtN]; omega⟩
theorem withK_low {fs : List Fld} {num : Int} {d : List UInt8} {k : Nat} (hp : putK fs num k = false) (hk : k < fs.length) (hf : (at0 fs k).1 < num) : putK fs num (k + 1) = false ∧ withK fs num d (k + 1) = withK fs num d k ++ [at0 fs k] := by
  have h1 : putK fs num (k + 1) = false := by
    unfold putK at hp ⊢
    rw [take_one fs k hk, List.any_append, hp]
    simp [geN]; omega
  refine ⟨h1, ?_⟩
  rw [withK, withK, h1, hp, take_one fs k hk]; rfl
theorem withK_here {fs : List Fld} {num : Int} {d : List UInt8} {k : Nat} (hp : putK fs num k = false) (hk : k < fs.length) (hf : num ≤ (at0 fs k).1) :
    putK fs num (k + 1) = true ∧ withK fs num d (k + 1) = withK fs num d k ++ [(num, d)] ++ (if (at0 fs k).1 ≠ num then [at0 fs k] else []) := by
  have h1 : putK fs num (k + 1) = true := by
    unfold putK
    rw [take_one fs k hk, List.any_append]
    simp [geN, hf]
  refine ⟨h1, ?_⟩
  obtain ⟨a, b⟩ := filt_lt (putK_not hp)
  rw [withK, withK, h1, hp, if_pos rfl, if_neg (by decide), withF, take_one fs k hk, List.filter_append, List.filter_append, a, b]
  have c : [at0 fs k].filter (ltN num) = [] := by simp [ltN]; omega
  by_cases hne : (at0 fs k).1 = num
  · have e : [at0 fs k].filter (gtN num) = [] := by simp [gtN]; omega
    rw [c, e, if_neg (by simpa using hne)]; simp
  · have e : [at0 fs k].filter (gtN num) = [at0 fs k] := by simp [gtN]; omega
    rw [c, e, if_pos hne]; simp
theorem withK_high {fs : List Fld} {num : Int} {d : List UInt8} {k : Nat} {p : Int} (ho : okF p fs = true) (hp : putK fs num k = true) (hk : k < fs.length) :
    num < (at0 fs k).1 ∧ putK fs num (k + 1) = true ∧ withK fs num d (k + 1) = withK fs num d k ++ [at0 fs k] := by
  have hlt : num < (at0 fs k).1 := by
    obtain ⟨f, hf, hg⟩ := List.any_eq_true.1 hp
    obtain ⟨i, hi, hil, rfl⟩ := mem_take_at hf
    have := sorted_at ho i k hi hk
    simp [geN] at hg; omega
  have h1 : putK fs num (k + 1) = true := by
    unfold putK at hp ⊢
    rw [take_one fs k hk, List.any_append, hp]; rfl
  refine ⟨hlt, h1, ?_⟩
  have c : [at0 fs k].filter (ltN num) = [] := by simp [ltN]; omega
  have e : [at0 fs k].filter (gtN num) = [at0 fs k] := by simp [gtN]; omega
  rw [withK, withK, h1, hp, if_pos rfl, if_pos rfl, withF, withF, take_one fs k hk, List.filter_append, List.filter_append, c, e]
  simp
theorem withK_end (fs : List Fld) (num : Int) (d : List UInt8) : withF fs num d = if putK fs num fs.length = true then withK fs num d fs.length else withK fs num d fs.length ++ [(num, d)] := by
  rw [withK, List.take_of_length_le (Nat.le_refl _)]
  cases hp : putK fs num fs.length
  · have h := putK_not hp
    rw [List.take_of_length_le (Nat.le_refl _)] at h
    obtain ⟨a, b⟩ := filt_lt h
    rw [if_neg (by decide), if_neg (by decide), withF, a, b]
  · rw [if_pos rfl, if_pos rfl]
theorem withK_len (fs : List Fld) (num : Int) (d : List UInt8) (k : Nat) : (withK fs num d k).length ≤ fs.length + 1 := by
  unfold withK
  split
  · rw [withF]
    have h3 : ∀ l : List Fld, (l.filter (ltN num)).length + (l.filter (gtN num)).length ≤ l.length := by
      intro l
      induction l with
      | nil => simp
      | cons f r ih =>
        by_cases h1 : f.1 < num
        · rw [List.filter_cons_of_pos (by simpa [ltN] using h1), List.filter_cons_of_neg (by simp [gtN]; omega)]; simp; omega
        · rw [List.filter_cons_of_neg (by simpa [ltN] using h1)]
          by_cases h2 : num < f.1
          · rw [List.filter_cons_of_pos (by simpa [gtN] using h2)]; simp; omega
          · rw [List.filter_cons_of_neg (by simpa [gtN] using h2)]; simp; omega
    have := h3 (fs.take k)
    have h4 : (fs.take k).length ≤ fs.length := by rw [List.length_take]; omega
    simp; omega
  · rw [List.length_take]; omega
theorem withF_len (fs : List Fld) (num : Int) (d : List UInt8) : (withF fs num d).length ≤ fs.length + 1 := by
  have h := withK_len fs num d fs.length
  rw [withK, List.take_of_length_le (Nat.le_refl _)] at h
  unfold withF at h ⊢
  have h3 : ∀ l : List Fld, (l.filter (ltN num)).length + (l.filter (gtN num)).length ≤ l.length := by
    intro l
    induction l with
    | nil => simp
    | cons f r ih =>
      by_cases h1 : f.1 < num
      · rw [List.filter_cons_of_pos (by simpa [ltN] using h1), List.filter_cons_of_neg (by simp [gtN]; omega)]; simp; omega
      · rw [List.filter_cons_of_neg (by simpa [ltN] using h1)]
        by_cases h2 : num < f.1
        · rw [List.filter_cons_of_pos (by simpa [gtN] using h2)]; simp; omega
        · rw [List.filter_cons_of_neg (by simpa [gtN] using h2)]; simp; omega
  have := h3 fs
  simp; omega
theorem withF_mem {fs : List Fld} {num : Int} {d : List UInt8} {f : Fld} (h : f ∈ withF fs num d) : f ∈ fs ∨ f = (num, d) := by
  simp only [withF, List.mem_append, List.mem_cons, List.mem_filter] at h
  rcases h with h | h | h
  · exact .inl h.1
  · exact .inr h
  · exact .inl h.1

end Go.Proofs.Ytggaadbcifbdeaa
