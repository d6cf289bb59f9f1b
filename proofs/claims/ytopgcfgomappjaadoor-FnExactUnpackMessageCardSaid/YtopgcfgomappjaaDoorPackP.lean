/- A message's bytes, plainly. No Go in sight. -/
import Derived.Test.YtopgcfgomappjaaDoorMsgP
import Derived.Test.YtopgcfgomappjaaDoorDig
import Derived.Test.YtopgcfgomappjaaDoorSetP
import Derived.Test.YtopgcfgomappjaaDoorPadP
namespace Go.Proofs.YtopgcfgomappjaaDoor

def pkD (d : List UInt8) : List UInt8 := pkL (padE d) ((d.length + 1) / 2)
theorem pkD_len (d : List UInt8) : (pkD d).length = (d.length + 1) / 2 := pkL_len _ _
/-- a right field's bytes -/
def putFld (n : Int) (d : List UInt8) : List UInt8 :=
  if fK n = 1 then pkD d else if fK n = 2 then padT d.length 2 ++ pkD d else if fK n = 4 then padT d.length 2 ++ d else if fK n = 5 then padT d.length 3 ++ d else d
def bodyP (fs : List Fld) : List UInt8 := fs.flatMap fun f => putFld f.1 f.2
theorem bodyP_append (a b : List Fld) : bodyP (a ++ b) = bodyP a ++ bodyP b := by simp [bodyP]
theorem bodyP_one (f : Fld) : bodyP [f] = putFld f.1 f.2 := by simp [bodyP]
def numsF (fs : List Fld) : List Int := fs.map (·.1)
theorem okF_asc {fs : List Fld} : ∀ {p : Int}, okF p fs = true → ascS p (numsF fs) = true := by
  induction fs with
  | nil => intro p _; rfl
  | cons f r ih =>
    intro p h
    simp only [okF, Bool.and_eq_true, decide_eq_true_eq] at h
    have hk := known_K (ok_known h.1.1)
    show (decide (p < f.1 ∧ f.1 ≤ 128) && ascS f.1 (numsF r)) = true
    rw [ih h.2, decide_eq_true ⟨h.1.2, by omega⟩]; rfl
def setF (fs : List Fld) : List UInt8 := (putS (numsF fs)).getD []
def packL (kd : Int) (fs : List Fld) : List UInt8 := if msgOk kd fs = true then padT kd 4 ++ setF fs ++ bodyP fs else []
theorem packL_no {kd : Int} {fs : List Fld} (h : msgOk kd fs = false) : packL kd fs = [] := if_neg (by rw [h]; decide)
theorem packL_yes {kd : Int} {fs : List Fld} (h : msgOk kd fs = true) : packL kd fs = padT kd 4 ++ setF fs ++ bodyP fs := if_pos h
theorem msgOk_parts {kd : Int} {fs : List Fld} (h : msgOk kd fs = true) : (0 ≤ kd ∧ kd ≤ 9999) ∧ okF 1 fs = true := by
  simpa [msgOk] using h
theorem set_ok {kd : Int} {fs : List Fld} (h : msgOk kd fs = true) : (putS (numsF fs)).isSome = true := by
  rw [putS_yes (okF_asc (msgOk_parts h).2)]; rfl
theorem fieldOk_K {n : Int} {d : List UInt8} (h : fieldOk n d = true) :
    (fK n = 1 ∧ d.length = fS n ∧ within 48 57 d = true ∧ d.length ≤ 12) ∨ (fK n = 2 ∧ (d.length : Int) ≤ fS n ∧ within 48 57 d = true ∧ d.length ≤ 19) ∨
    (fK n = 3 ∧ d.length = fS n ∧ within 32 126 d = true ∧ d.length ≤ 15) ∨ (fK n = 4 ∧ (d.length : Int) ≤ fS n ∧ within 32 126 d = true ∧ d.length ≤ 23) ∨ (fK n = 5 ∧ (d.length : Int) ≤ fS n ∧ within 32 126 d = true ∧ d.length ≤ 999) := by
  have hk := known_K (ok_known h)
  unfold fieldOk fieldKS at h
  rcases hk.1 with e | e | e | e | e
  all_goals (simp [e] at h; have := h.1; have := h.2)
  · exact .inl ⟨e, h.1, h.2, by omega⟩
  · exact .inr (.inl ⟨e, h.1, h.2, by omega⟩)
  · exact .inr (.inr (.inl ⟨e, h.1, h.2, by omega⟩))
  · exact .inr (.inr (.inr (.inl ⟨e, h.1, h.2, by omega⟩)))
  · exact .inr (.inr (.inr (.inr ⟨e, h.1, h.2, by omega⟩)))
theorem padT_l (x n : Int) : (padT x n).length ≤ 18 := by
  rcases padT_cases x n with h | ⟨a, m, _, _, h1, h2, h3, h⟩
  · rw [h]; simp
  · rw [h, padN_len h1 h3]; omega
theorem putFld_len {n : Int} {d : List UInt8} (h : fieldOk n d = true) : (putFld n d).length ≤ 1017 := by
  have hd : d.length ≤ 999 := by rcases fieldOk_K h with h | h | h | h | h <;> omega
  have h2 := padT_l d.length 2
  have h3 := padT_l d.length 3
  have h4 := pkD_len d
  unfold putFld
  split
  · omega
  · split
    · rw [List.length_append]; omega
    · split
      · rw [List.length_append]; omega
      · split
        · rw [List.length_append]; omega
        · omega
theorem bodyP_len {fs : List Fld} (h : ∀ f ∈ fs, fieldOk f.1 f.2 = true) : (bodyP fs).length ≤ 1017 * fs.length := by
  induction fs with
  | nil => simp [bodyP]
  | cons f r ih =>
    have h1 := putFld_len (h f (List.mem_cons_self ..))
    have h2 := ih (fun g hg => h g (List.mem_cons_of_mem _ hg))
    have e : bodyP (f :: r) = putFld f.1 f.2 ++ bodyP r := by simp [bodyP]
    rw [e, List.length_append, List.length_cons]; omega

end Go.Proofs.YtopgcfgomappjaaDoor
