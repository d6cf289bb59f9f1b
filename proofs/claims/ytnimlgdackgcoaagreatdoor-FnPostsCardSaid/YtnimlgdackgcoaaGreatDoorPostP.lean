/- The books, plainly: amounts by account and currency; a line more is an amount more at one place; lines in order are told by their amounts. -/
import Derived.Test.YtnimlgdackgcoaaGreatDoorLedP
namespace Go.Proofs.YtnimlgdackgcoaaGreatDoor

/-- the amount that stands at an account and a currency -/
def look : List Ln → Int → Int → Option Int
  | [], _, _ => none
  | x :: r, a, c => if x.1 = a ∧ x.2.1 = c then some x.2.2 else look r a c
/-- amounts by account and currency, with more at one place; what comes to 0 goes -/
def upd (f : Int → Int → Option Int) (a c m : Int) : Int → Int → Option Int := fun a' c' =>
  if a' = a ∧ c' = c then (if (f a c).getD 0 + m = 0 then none else some ((f a c).getD 0 + m)) else f a' c'
def Srt (ls : List Ln) : Prop := ls.Pairwise (fun x y => lnLt x y = true)
def NZ (ls : List Ln) : Prop := ∀ x ∈ ls, x.2.2 ≠ 0
theorem lnLt_iff {x y : Ln} : lnLt x y = true ↔ x.1 < y.1 ∨ x.1 = y.1 ∧ x.2.1 < y.2.1 := by simp [lnLt]
theorem lnLt_trans {x y z : Ln} (h1 : lnLt x y = true) (h2 : lnLt y z = true) : lnLt x z = true := by
  rw [lnLt_iff] at *; omega
theorem look_none {ls : List Ln} {a c : Int} (h : ∀ x ∈ ls, ¬ (x.1 = a ∧ x.2.1 = c)) : look ls a c = none := by
  induction ls with
  | nil => rfl
  | cons y r ih =>
    simp only [look]
    rw [if_neg (h y (List.mem_cons_self ..))]
    exact ih fun x hx => h x (List.mem_cons_of_mem _ hx)
theorem look_mem {ls : List Ln} {a c v : Int} (h : look ls a c = some v) : (a, c, v) ∈ ls := by
  induction ls with
  | nil => simp [look] at h
  | cons y r ih =>
    simp only [look] at h
    split at h
    · rename_i hk
      obtain ⟨y1, y2, y3⟩ := y
      simp at hk h
      obtain ⟨rfl, rfl⟩ := hk
      subst h
      exact List.mem_cons_self ..
    · exact List.mem_cons_of_mem _ (ih h)
/-- no two lines are of one account and currency -/
def Apart (ls : List Ln) : Prop := ls.Pairwise (fun x y => ¬ (x.1 = y.1 ∧ x.2.1 = y.2.1))
theorem Srt.apart {ls : List Ln} (h : Srt ls) : Apart ls := h.imp fun {x y} hxy => by rw [lnLt_iff] at hxy; omega
theorem mem_look {ls : List Ln} (h : Apart ls) {a c v : Int} : (a, c, v) ∈ ls ↔ look ls a c = some v := by
  refine ⟨fun hm => ?_, look_mem⟩
  induction ls with
  | nil => cases hm
  | cons y r ih =>
    obtain ⟨h1, h2⟩ := List.pairwise_cons.1 h
    rcases List.mem_cons.1 hm with rfl | hr
    · simp [look]
    · have hk := h1 _ hr
      simp only at hk
      simp only [look]
      rw [if_neg hk]
      exact ih h2 hr
theorem look_snoc (ls : List Ln) (x : Ln) (a c : Int) : look (ls ++ [x]) a c = match look ls a c with | some v => some v | none => if x.1 = a ∧ x.2.1 = c then some x.2.2 else none := by
  induction ls with
  | nil => simp [look]
  | cons y r ih =>
    simp only [List.cons_append, look]
    split
    · rfl
    · exact ih
theorem look_take {ls : List Ln} (hs : Srt ls) (hz : NZ ls) {k : Nat} (hk : k < ls.length) : look (ls.take (k + 1)) = upd (look (ls.take k)) (lnAt ls k).1 (lnAt ls k).2.1 (lnAt ls k).2.2 := by
  have hn : look (ls.take k) (lnAt ls k).1 (lnAt ls k).2.1 = none := by
    refine look_none fun x hx => ?_
    obtain ⟨i, hi, rfl⟩ := List.mem_iff_getElem.1 hx
    simp only [List.length_take] at hi
    have hp := List.pairwise_iff_getElem.1 hs i k (by omega) hk (by omega)
    rw [lnLt_iff] at hp
    rw [List.getElem_take, lnAt_is hk]
    omega
  have h0 : (lnAt ls k).2.2 ≠ 0 := hz _ (lnAt_mem hk)
  funext a c
  rw [take_lnAt ls k hk, look_snoc]
  unfold upd
  rw [hn]
  by_cases he : a = (lnAt ls k).1 ∧ c = (lnAt ls k).2.1
  · obtain ⟨rfl, rfl⟩ := he
    rw [hn]
    simp [h0]
  · rw [if_neg he, if_neg (fun h => he ⟨h.1.symm, h.2.symm⟩)]
    cases look (ls.take k) a c <;> rfl
theorem mem_addL {ls : List Ln} {a c m : Int} {x : Ln} (h : x ∈ addL ls a c m) : x ∈ ls ∨ x.1 = a ∧ x.2.1 = c := by
  induction ls with
  | nil => simp [addL] at h; subst h; exact .inr ⟨rfl, rfl⟩
  | cons y r ih =>
    simp only [addL] at h
    split at h
    · split at h
      · split at h
        · rcases List.mem_cons.1 h with rfl | h
          · exact .inr ⟨rfl, rfl⟩
          · exact .inl (List.mem_cons_of_mem _ h)
        · exact .inl (List.mem_cons_of_mem _ h)
      · rcases List.mem_cons.1 h with rfl | h
        · exact .inr ⟨rfl, rfl⟩
        · exact .inl h
    · rcases List.mem_cons.1 h with rfl | h
      · exact .inl (List.mem_cons_self ..)
      · exact (ih h).imp (List.mem_cons_of_mem _) id
theorem reach_iff {x : Ln} {a c : Int} : reach x a c = true ↔ a < x.1 ∨ x.1 = a ∧ c ≤ x.2.1 := by simp [reach]
theorem srt_addL {ls : List Ln} (hs : Srt ls) (a c m : Int) : Srt (addL ls a c m) := by
  induction ls with
  | nil => simp [addL, Srt]
  | cons y r ih =>
    obtain ⟨h1, h2⟩ := List.pairwise_cons.1 hs
    simp only [addL]
    split
    · rename_i hr
      rw [reach_iff] at hr
      split
      · rename_i he
        split
        · refine List.pairwise_cons.2 ⟨fun z hz => ?_, h2⟩
          have := h1 z hz
          rw [lnLt_iff] at this ⊢
          simp only
          omega
        · exact h2
      · rename_i he
        refine List.pairwise_cons.2 ⟨fun z hz => ?_, hs⟩
        have hy : lnLt (a, c, m) y = true := by rw [lnLt_iff]; simp only; omega
        rcases List.mem_cons.1 hz with rfl | hz
        · exact hy
        · exact lnLt_trans hy (h1 z hz)
    · rename_i hr
      rw [reach_iff] at hr
      refine List.pairwise_cons.2 ⟨fun z hz => ?_, ih h2⟩
      rcases mem_addL hz with hz | ⟨e1, e2⟩
      · exact h1 z hz
      · rw [lnLt_iff]; omega
theorem nz_addL {ls : List Ln} (hz : NZ ls) (a c : Int) {m : Int} (hm : m ≠ 0) : NZ (addL ls a c m) := by
  induction ls with
  | nil => intro x hx; simp [addL] at hx; subst hx; exact hm
  | cons y r ih =>
    have hr : NZ r := fun x hx => hz x (List.mem_cons_of_mem _ hx)
    simp only [addL]
    split
    · split
      · split
        · rename_i h0
          intro x hx
          rcases List.mem_cons.1 hx with rfl | hx
          · exact h0
          · exact hr x hx
        · exact hr
      · intro x hx
        rcases List.mem_cons.1 hx with rfl | hx
        · exact hm
        · exact hz x hx
    · intro x hx
      rcases List.mem_cons.1 hx with rfl | hx
      · exact hz _ (List.mem_cons_self ..)
      · exact ih hr x hx
theorem look_addL {ls : List Ln} (hs : Srt ls) (a c : Int) {m : Int} (hm : m ≠ 0) : look (addL ls a c m) = upd (look ls) a c m := by
  induction ls with
  | nil =>
    funext a' c'
    simp only [addL, look, upd, Option.getD_none, Int.zero_add, if_neg hm]
    by_cases h : a' = a ∧ c' = c
    · rw [if_pos h, if_pos ⟨h.1.symm, h.2.symm⟩]
    · rw [if_neg h, if_neg (fun q => h ⟨q.1.symm, q.2.symm⟩)]
  | cons y r ih =>
    obtain ⟨h1, h2⟩ := List.pairwise_cons.1 hs
    have ih' := ih h2
    funext a' c'
    simp only [addL]
    split
    · rename_i hr
      rw [reach_iff] at hr
      split
      · rename_i he
        have hnr : look r a c = none := look_none fun x hx hk => by
          have := h1 x hx
          rw [lnLt_iff] at this; omega
        have hl : look (y :: r) a c = some y.2.2 := by simp [look, he]
        unfold upd
        rw [hl]
        simp only [Option.getD_some]
        split
        · rename_i h0
          by_cases h : a' = a ∧ c' = c
          · rw [if_pos h]; simp [look, h.1, h.2]
          · rw [if_neg h]
            have e1 : ¬ (a = a' ∧ c = c') := fun q => h ⟨q.1.symm, q.2.symm⟩
            simp only [look]
            rw [if_neg e1, if_neg (by rw [he.1, he.2]; exact e1)]
        · rename_i h0
          have h0' : y.2.2 + m = 0 := by omega
          by_cases h : a' = a ∧ c' = c
          · rw [if_pos h, if_pos h0', h.1, h.2]; exact hnr
          · rw [if_neg h]
            have e1 : ¬ (a = a' ∧ c = c') := fun q => h ⟨q.1.symm, q.2.symm⟩
            simp only [look]
            rw [if_neg (by rw [he.1, he.2]; exact e1)]
      · rename_i he
        have hn : look (y :: r) a c = none := look_none fun x hx hk => by
          rcases List.mem_cons.1 hx with rfl | hx
          · exact he hk
          · have := h1 x hx
            rw [lnLt_iff] at this; omega
        unfold upd
        rw [hn]
        simp only [Option.getD_none, Int.zero_add, if_neg hm]
        by_cases h : a' = a ∧ c' = c
        · rw [if_pos h]; simp [look, h.1, h.2]
        · have e1 : ¬ (a = a' ∧ c = c') := fun q => h ⟨q.1.symm, q.2.symm⟩
          rw [if_neg h]; conv => lhs; rw [look]
          rw [if_neg e1]
    · rename_i hr
      rw [reach_iff] at hr
      have hya : ¬ (y.1 = a ∧ y.2.1 = c) := by omega
      have hl : look (y :: r) a c = look r a c := by simp only [look]; rw [if_neg hya]
      have hx := congrFun (congrFun ih' a') c'
      conv => lhs; rw [look]
      unfold upd at hx ⊢
      rw [hl, hx]
      by_cases h : a' = a ∧ c' = c
      · rw [if_neg (by rw [h.1, h.2]; exact hya), if_pos h, if_pos h]
      · rw [if_neg h, if_neg h]; simp only [look]
theorem eq_of_look {l1 l2 : List Ln} (h1 : Srt l1) (h2 : Srt l2) (h : ∀ a c, look l1 a c = look l2 a c) : l1 = l2 := by
  have hm : ∀ x : Ln, x ∈ l1 ↔ x ∈ l2 := fun ⟨a, c, v⟩ => by rw [mem_look h1.apart, mem_look h2.apart, h]
  clear h
  induction l1 generalizing l2 with
  | nil =>
    cases l2 with
    | nil => rfl
    | cons y r => exact absurd ((hm y).2 (List.mem_cons_self ..)) (by simp)
  | cons x r ih =>
    cases l2 with
    | nil => exact absurd ((hm x).1 (List.mem_cons_self ..)) (by simp)
    | cons y s =>
      obtain ⟨p1, p2⟩ := List.pairwise_cons.1 h1
      obtain ⟨q1, q2⟩ := List.pairwise_cons.1 h2
      have irr : ∀ z : Ln, lnLt z z = true → False := fun z hz => by rw [lnLt_iff] at hz; omega
      have hxy : x = y := by
        rcases List.mem_cons.1 ((hm x).1 (List.mem_cons_self ..)) with h | h
        · exact h
        · rcases List.mem_cons.1 ((hm y).2 (List.mem_cons_self ..)) with h' | h'
          · exact h'.symm
          · exact (irr x (lnLt_trans (p1 y h') (q1 x h))).elim
      subst hxy
      refine congrArg (x :: ·) (ih p2 q2 fun z => ⟨fun hz => ?_, fun hz => ?_⟩)
      · rcases List.mem_cons.1 ((hm z).1 (List.mem_cons_of_mem _ hz)) with rfl | h
        · exact (irr z (p1 z hz)).elim
        · exact h
      · rcases List.mem_cons.1 ((hm z).2 (List.mem_cons_of_mem _ hz)) with rfl | h
        · exact (irr z (q1 z hz)).elim
        · exact h
theorem srt_of_linesOk {ls : List Ln} (h : linesOk none ls = true) : Srt ls := by
  have key : ∀ (r : List Ln) (p : Ln), linesOk (some p) r = true → (∀ x ∈ r, lnLt p x = true) ∧ Srt r := by
    intro r
    induction r with
    | nil => intro p _; exact ⟨(fun x hx => by cases hx), List.Pairwise.nil⟩
    | cons y s ih =>
      intro p hp
      simp only [linesOk, Bool.and_eq_true] at hp
      obtain ⟨a1, a2⟩ := ih y hp.2
      refine ⟨fun x hx => ?_, List.pairwise_cons.2 ⟨a1, a2⟩⟩
      rcases List.mem_cons.1 hx with rfl | hx
      · exact hp.1.2
      · exact lnLt_trans hp.1.2 (a1 x hx)
  cases ls with
  | nil => exact List.Pairwise.nil
  | cons y s =>
    simp only [linesOk, Bool.and_eq_true] at h
    obtain ⟨a1, a2⟩ := key s y h.2
    exact List.pairwise_cons.2 ⟨a1, a2⟩
theorem nz_of_linesOk {ls : List Ln} (h : linesOk none ls = true) : NZ ls := fun x hx => (lnOk_is (linesOk_mem h x hx)).2.2.2

end Go.Proofs.YtnimlgdackgcoaaGreatDoor
