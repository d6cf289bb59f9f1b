/- The accounts of a ledger, plainly: what they owe in a currency is what the ledger is worth in it. -/
import Derived.Test.YtnimlgdackgcoaaGreatDoorPostQ
namespace Go.Proofs.YtnimlgdackgcoaaGreatDoor
open Go.RowKit
set_option maxRecDepth 100000

theorem sum_at {v b : Int} : ∀ {ac : List Int}, ac.Pairwise (· ≠ ·) → ((ac.map fun a => if a = b then v else 0).sum = if b ∈ ac then v else 0) := by
  intro ac
  induction ac with
  | nil => intro _; simp
  | cons a r ih =>
    intro h
    obtain ⟨h1, h2⟩ := List.pairwise_cons.1 h
    rw [List.map_cons, List.sum_cons, ih h2]
    by_cases e : a = b
    · subst e
      have hn : a ∉ r := fun hm => h1 a hm rfl
      simp [hn]
    · have e' : ¬ b = a := fun x => e x.symm
      by_cases hm : b ∈ r <;> simp [e, e', hm]
theorem sum_add {f g : Int → Int} : ∀ (ac : List Int), (ac.map fun a => f a + g a).sum = (ac.map f).sum + (ac.map g).sum := by
  intro ac
  induction ac with
  | nil => rfl
  | cons a r ih => simp only [List.map_cons, List.sum_cons, ih]; omega
theorem balL_no {ls : List Ln} {a c : Int} (h : ∀ x ∈ ls, ¬ (x.1 = a ∧ x.2.1 = c)) : balL ls a c = 0 := by rw [bal_look, valF, look_none h]; rfl
/-- a sum over accounts that are told apart is a sum over the lines -/
theorem sum_accts {f : Int → Int} (hf : f 0 = 0) {ac : List Int} (hap : ac.Pairwise (· ≠ ·)) (c : Int) : ∀ {ls : List Ln}, Apart ls → (∀ x ∈ ls, x.1 ∈ ac) → (ac.map fun a => f (balL ls a c)).sum = (ls.map fun x => if x.2.1 = c then f x.2.2 else 0).sum := by
  intro ls
  induction ls with
  | nil =>
    intro _ _
    have : ∀ l : List Int, (l.map fun a => f (balL [] a c)).sum = 0 := by
      intro l
      induction l with
      | nil => rfl
      | cons a r ih => rw [List.map_cons, List.sum_cons, ih, balL, hf]; rfl
    rw [this]; rfl
  | cons x r ih =>
    intro hA hM
    obtain ⟨h1, h2⟩ := List.pairwise_cons.1 hA
    have ihr := ih h2 fun y hy => hM y (List.mem_cons_of_mem _ hy)
    rw [List.map_cons, List.sum_cons, ← ihr]
    by_cases hc : x.2.1 = c
    · have h0 : balL r x.1 c = 0 := balL_no fun y hy he => h1 y hy ⟨he.1.symm, by rw [hc]; exact he.2.symm⟩
      have he : (fun a => f (balL (x :: r) a c)) = fun a => (if a = x.1 then f x.2.2 else 0) + f (balL r a c) := by
        funext a
        by_cases ha : a = x.1
        · subst ha
          rw [balL, if_pos ⟨rfl, hc⟩, if_pos rfl, h0, hf]; omega
        · rw [balL, if_neg (fun h => ha h.1.symm), if_neg ha]; omega
      rw [he, sum_add, sum_at hap, if_pos (hM x (List.mem_cons_self ..)), if_pos hc]
    · have he : (fun a => f (balL (x :: r) a c)) = fun a => f (balL r a c) := by
        funext a
        rw [balL, if_neg (fun h => hc h.2)]
      rw [he, if_neg hc]; omega
def negI (x : Int) : Int := if x < 0 then -x else 0
def posI (x : Int) : Int := if 0 < x then x else 0
def sumF (f : Int → Int) (c : Int) (ls : List Ln) : Int := (ls.map fun x => if x.2.1 = c then f x.2.2 else 0).sum
theorem sumF_parts (c : Int) (ls : List Ln) : sumC c ls = sumF posI c ls - sumF negI c ls := by
  induction ls with
  | nil => rfl
  | cons x r ih =>
    have e : sumC c (x :: r) = (if x.2.1 = c then x.2.2 else 0) + sumC c r := by simp [sumC]
    have e1 : ∀ f, sumF f c (x :: r) = (if x.2.1 = c then f x.2.2 else 0) + sumF f c r := fun f => by simp [sumF]
    rw [e, e1, e1, ih]
    by_cases h : x.2.1 = c
    · simp only [if_pos h, posI, negI]; split <;> split <;> omega
    · simp only [if_neg h]; omega
theorem sumF_pos_bd (c : Int) {ls : List Ln} (h : ∀ x ∈ ls, lnOk x = true) : 0 ≤ sumF posI c ls ∧ sumF posI c ls ≤ 1000000000000 * ls.length := by
  induction ls with
  | nil => exact ⟨Int.le_refl _, Int.le_refl _⟩
  | cons x r ih =>
    have e1 : sumF posI c (x :: r) = (if x.2.1 = c then posI x.2.2 else 0) + sumF posI c r := by simp [sumF]
    have hi := ih fun y hy => h y (List.mem_cons_of_mem _ hy)
    have hx := (lnOk_is (h x (List.mem_cons_self ..))).2.2.1
    rw [e1, List.length_cons]
    have : 0 ≤ posI x.2.2 ∧ posI x.2.2 ≤ 1000000000000 := by unfold posI; split <;> omega
    split <;> omega
theorem worth_pos (c : Int) {ls : List Ln} (h : ∀ x ∈ ls, lnOk x = true) (hl : ls.length ≤ 400) : worthL ls c = sumF posI c ls := by
  have key : ∀ k, k ≤ ls.length → worthL (ls.take k) c = sumF posI c (ls.take k) := by
    intro k
    induction k with
    | zero => intro _; rfl
    | succ k ih =>
      intro hk
      have hs : sumF posI c (ls.take (k + 1)) = sumF posI c (ls.take k) + if (lnAt ls k).2.1 = c then posI (lnAt ls k).2.2 else 0 := by
        rw [take_lnAt ls k (by omega)]; simp [sumF]
      have hb := sumF_pos_bd c (ls := ls.take k) fun x hx => h x (List.mem_of_mem_take hx)
      have hm := (lnOk_is (h _ (lnAt_mem (ls := ls) (k := k) (by omega)))).2.2.1
      have hlen : (ls.take k).length = k := by simp; omega
      rw [hlen] at hb
      rw [worthL_step ls c k (by omega), ih (by omega), hs, worthS]
      generalize sumF posI c (ls.take k) = S at hb ⊢
      by_cases h1 : (lnAt ls k).2.1 = c
      · by_cases h2 : 0 < (lnAt ls k).2.2
        · rw [if_pos ⟨h1, h2⟩, if_pos h1, posI, if_pos h2]
          generalize (lnAt ls k).2.2 = v at hm h2 ⊢
          simp [IntKind.wrap, IntKind.bits, IntKind.signed]; omega
        · rw [if_neg (fun hh => h2 hh.2), if_pos h1, posI, if_neg h2]; omega
      · rw [if_neg (fun hh => h1 hh.1), if_neg h1]; omega
  have := key ls.length (Nat.le_refl _)
  rwa [List.take_length] at this
/-- what some accounts owe in a currency -/
def owedL (ls : List Ln) (c : Int) (ac : List Int) : Int := (ac.map fun a => negI (balL ls a c)).sum
theorem owed_worth {ls : List Ln} (h : ledgerOk ls = true) {c : Int} (hc : c ∈ curL) : owedL ls c (acctsL ls) = worthL ls c := by
  have h' := h
  simp only [ledgerOk, Bool.and_eq_true, decide_eq_true_eq] at h'
  obtain ⟨h1, h2, h3⟩ := h'
  have hok := linesOk_mem h1
  have hev : sumC c ls = 0 := by
    have := List.all_eq_true.1 h3 c hc
    simpa using this
  rw [worth_pos c hok h2]
  have hp := sumF_parts c ls
  have hs : owedL ls c (acctsL ls) = sumF negI c ls := sum_accts (f := negI) rfl (accts_apart ls) c (srt_of_linesOk h1).apart fun x hx => mem_accts.2 ⟨(lnOk_is (hok x hx)).1, x, hx, rfl⟩
  rw [hs]; omega
theorem owed_step (ls : List Ln) (c : Int) (ac : List Int) (k : Nat) (h : k < ac.length) : owedL ls c (ac.take (k + 1)) = owedL ls c (ac.take k) + negI (balL ls (ac.getD k 0) c) := by
  rw [List.take_succ_eq_append_getElem h, owedL, List.map_append, List.sum_append]
  simp [owedL, List.getD_eq_getElem?_getD, h]
theorem owed_bd {ls : List Ln} (h : ledgerOk ls = true) (c : Int) : ∀ ac : List Int, 0 ≤ owedL ls c ac ∧ owedL ls c ac ≤ 1000000000000 * ac.length := by
  intro ac
  induction ac with
  | nil => exact ⟨Int.le_refl _, Int.le_refl _⟩
  | cons a r ih =>
    have e : owedL ls c (a :: r) = negI (balL ls a c) + owedL ls c r := by simp [owedL]
    have hb := bal_bd h a c
    rw [e, List.length_cons]
    have : 0 ≤ negI (balL ls a c) ∧ negI (balL ls a c) ≤ 1000000000000 := by unfold negI; split <;> omega
    omega

end Go.Proofs.YtnimlgdackgcoaaGreatDoor
