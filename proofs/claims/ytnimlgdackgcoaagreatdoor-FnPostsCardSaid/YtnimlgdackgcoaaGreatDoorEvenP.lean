/- The books, plainly: even lines; how one line stands to another. -/
import Derived.Test.YtnimlgdackgcoaaGreatDoorLedP
namespace Go.Proofs.YtnimlgdackgcoaaGreatDoor

theorem cur_mem {c : Int} (h : 0 ≤ digs c) : c ∈ curL := by
  unfold digs at h
  simp only [curL, List.mem_cons, List.not_mem_nil, or_false]
  repeat' split at h
  all_goals omega
theorem sumC_none {c : Int} {ls : List Ln} (h : ∀ x ∈ ls, x.2.1 ≠ c) : sumC c ls = 0 := by
  induction ls with
  | nil => rfl
  | cons y r ih =>
    have h1 := h y (List.mem_cons_self ..)
    have h2 := ih fun x hx => h x (List.mem_cons_of_mem _ hx)
    simp only [sumC, List.map_cons, List.sum_cons] at h2 ⊢
    rw [if_neg h1, h2]; rfl
theorem evenL_iff {ls : List Ln} (h : ∀ x ∈ ls, 0 ≤ digs x.2.1) : evenL ls = true ↔ ∀ x ∈ ls, sumC x.2.1 ls = 0 := by
  unfold evenL
  rw [List.all_eq_true]
  constructor
  · intro ha x hx
    simpa using ha _ (cur_mem (h x hx))
  · intro ha c _
    by_cases hc : ∃ x ∈ ls, x.2.1 = c
    · obtain ⟨x, hx, rfl⟩ := hc
      simpa using ha x hx
    · have := sumC_none (c := c) (ls := ls) fun x hx e => hc ⟨x, hx, e⟩
      simp [this]
/-- how one line stands to another: below 0 ahead of it, 0 at its place, above 0 behind it -/
def cmpI (a b : Int) : Int := if a < b then -1 else if b < a then 1 else 0
def orI (x y : Int) : Int := if x ≠ 0 then x else y
def cmpL (x y : Ln) : Int := orI (cmpI x.1 y.1) (cmpI x.2.1 y.2.1)
theorem cmpL_lt (x y : Ln) : cmpL x y < 0 ↔ lnLt x y = true := by
  simp only [cmpL, orI, cmpI, lnLt, decide_eq_true_eq]
  repeat' split
  all_goals omega

end Go.Proofs.YtnimlgdackgcoaaGreatDoor
