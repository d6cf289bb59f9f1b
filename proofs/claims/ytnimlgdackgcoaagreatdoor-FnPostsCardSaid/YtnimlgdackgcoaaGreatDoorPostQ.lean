/- The books, plainly: what is posted moves just its amount between its two accounts, and is undone by its back. -/
import Derived.Test.YtnimlgdackgcoaaGreatDoorSPost2
import Derived.Test.YtnimlgdackgcoaaGreatDoorPostP
import Derived.Test.YtnimlgdackgcoaaGreatDoorEvenP
namespace Go.Proofs.YtnimlgdackgcoaaGreatDoor

def valF (f : Int → Int → Option Int) (a c : Int) : Int := (f a c).getD 0
/-- no amount is 0 -/
def Norm (f : Int → Int → Option Int) : Prop := ∀ a c, f a c ≠ some 0
theorem norm_ext {f g : Int → Int → Option Int} (hf : Norm f) (hg : Norm g) (h : ∀ a c, valF f a c = valF g a c) : f = g := by
  funext a c
  have h1 := h a c
  have h2 := hf a c
  have h3 := hg a c
  unfold valF at h1
  cases hfa : f a c with
  | none =>
    cases hga : g a c with
    | none => rfl
    | some y => rw [hfa, hga] at h1; simp at h1; rw [hga, ← h1] at h3; exact absurd rfl h3
  | some x =>
    cases hga : g a c with
    | none => rw [hfa, hga] at h1; simp at h1; rw [hfa, h1] at h2; exact absurd rfl h2
    | some y => rw [hfa, hga] at h1; simp at h1; rw [h1]
theorem norm_upd {f : Int → Int → Option Int} (hf : Norm f) (a c m : Int) : Norm (upd f a c m) := by
  intro a' c' h
  unfold upd at h
  split at h
  · split at h
    · cases h
    · rename_i h0
      injection h with h
      exact h0 h
  · exact hf a' c' h
theorem val_upd (f : Int → Int → Option Int) (a c m a' c' : Int) : valF (upd f a c m) a' c' = valF f a' c' + if a' = a ∧ c' = c then m else 0 := by
  unfold valF upd
  by_cases h : a' = a ∧ c' = c
  · rw [if_pos h, if_pos h, h.1, h.2]
    split
    · rename_i h0; simp; omega
    · simp
  · rw [if_neg h, if_neg h]; simp
theorem norm_look {ls : List Ln} (h : NZ ls) : Norm (look ls) := fun _ _ e => h _ (look_mem e) rfl
theorem bal_look (ls : List Ln) (a c : Int) : balL ls a c = valF (look ls) a c := by
  unfold valF
  induction ls with
  | nil => rfl
  | cons x r ih =>
    simp only [balL, look]
    split
    · rfl
    · exact ih
theorem look_try {ls : List Ln} (hs : Srt ls) (e : En) (hm : e.2.2.2 ≠ 0) : look (postTry ls e) = upd (upd (look ls) e.1 e.2.2.1 (-e.2.2.2)) e.2.1 e.2.2.1 e.2.2.2 := by
  unfold postTry
  rw [look_addL (srt_addL hs _ _ _) _ _ hm, look_addL hs _ _ (by omega)]
theorem posted_parts {ls : List Ln} {e : En} (h : postOk ls e = true) : (ledgerOk ls = true ∧ entryOk e = true) ∧ ledgerOk (postTry ls e) = true := by
  simp only [postOk, Bool.and_eq_true] at h
  exact h
/-- what an account's amount comes to -/
theorem post_gap {ls : List Ln} {e : En} (h : postOk ls e = true) (a c : Int) : balL (postTry ls e) a c - balL ls a c = (if a = e.1 ∧ c = e.2.2.1 then -e.2.2.2 else 0) + if a = e.2.1 ∧ c = e.2.2.1 then e.2.2.2 else 0 := by
  obtain ⟨⟨h1, h2⟩, _⟩ := posted_parts h
  have hs := srt_of_linesOk (ledgerOk_parts h1).1
  have hm := (entryOk_parts h2).2.2.2.2.1
  rw [bal_look, bal_look, look_try hs e (by omega), val_upd, val_upd]
  omega
theorem try_back {ls : List Ln} {e : En} (h : postOk ls e = true) : postTry (postTry ls e) (backE e) = ls := by
  obtain ⟨⟨h1, h2⟩, h3⟩ := posted_parts h
  have hs := srt_of_linesOk (ledgerOk_parts h1).1
  have hz := nz_of_linesOk (ledgerOk_parts h1).1
  have hm := (entryOk_parts h2).2.2.2.2.1
  have hs1 : Srt (postTry ls e) := srt_addL (srt_addL hs _ _ _) _ _ _
  refine eq_of_look (srt_addL (srt_addL hs1 _ _ _) _ _ _) hs fun a c => ?_
  have e1 := look_try hs1 (backE e) (show e.2.2.2 ≠ 0 by omega)
  rw [e1, look_try hs e (by omega)]
  refine congrFun (congrFun (norm_ext (norm_upd (norm_upd (norm_upd (norm_upd (norm_look hz) _ _ _) _ _ _) _ _ _) _ _ _) (norm_look hz) fun a c => ?_) a) c
  rw [val_upd, val_upd, val_upd, val_upd]
  simp only [backE]
  repeat' split
  all_goals omega
theorem back_ok {ls : List Ln} {e : En} (h : postOk ls e = true) : postOk (postTry ls e) (backE e) = true := by
  obtain ⟨⟨h1, h2⟩, h3⟩ := posted_parts h
  have hb : entryOk (backE e) = true := by
    obtain ⟨a1, a2, a3, a4, a5, a6⟩ := entryOk_parts h2
    simp [entryOk, backE, a1, a2, a4, a5, a6, Ne.symm a3]
  unfold postOk
  rw [h3, hb, try_back h, h1]; rfl
theorem back_posts {ls : List Ln} {e : En} (h : postOk ls e = true) : postL (postTry ls e) (backE e) = ls := by rw [postL_yes (back_ok h), try_back h]
theorem bal_bd {ls : List Ln} (h : ledgerOk ls = true) (a c : Int) : -1000000000000 ≤ balL ls a c ∧ balL ls a c ≤ 1000000000000 := by
  have hm := linesOk_mem (ledgerOk_parts h).1
  clear h
  induction ls with
  | nil => simp [balL]
  | cons x r ih =>
    simp only [balL]
    split
    · exact (lnOk_is (hm x (List.mem_cons_self ..))).2.2.1
    · exact ih fun y hy => hm y (List.mem_cons_of_mem _ hy)

end Go.Proofs.YtnimlgdackgcoaaGreatDoor
