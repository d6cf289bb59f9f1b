/- The busiest account, plainly. -/
import Derived.Test.YtkdodamdjajbiaaRpP
import Derived.Test.YtkdodamdjajbiaaLedP
import Derived.Lib.SlicesCompact
import Derived.Lib.RowBridge
namespace Go.Proofs.Ytkdodamdjajbiaa
open Go.RowKit
set_option maxRecDepth 100000

/-- how many cases an account is a side of -/
def cntA (cs : List Cs) (a : Int) : Int := ((cs.filter fun c => decide (c.iss = a) || decide (c.acq = a)).length : Int)
theorem cntA_bd (cs : List Cs) (a : Int) : 0 ≤ cntA cs a ∧ cntA cs a ≤ cs.length := by
  have := List.length_filter_le (fun c : Cs => decide (c.iss = a) || decide (c.acq = a)) cs
  unfold cntA; omega
theorem cntA_step (cs : List Cs) (a : Int) (k : Nat) (h : k < cs.length) : cntA (cs.take (k + 1)) a = cntA (cs.take k) a + if (csAt cs k).iss = a ∨ (csAt cs k).acq = a then 1 else 0 := by
  unfold cntA
  rw [take_csAt cs k h, List.filter_append, List.length_append]
  by_cases h1 : (csAt cs k).iss = a <;> by_cases h2 : (csAt cs k).acq = a <;> simp [h1, h2]
theorem cntA_in {cs : List Cs} {a : Int} {k : Nat} (h : k < cs.length) (hp : (csAt cs k).iss = a ∨ (csAt cs k).acq = a) : cntA (cs.take (k + 1)) a = cntA (cs.take k) a + 1 := by rw [cntA_step cs a k h, if_pos hp]
theorem cntA_out {cs : List Cs} {a : Int} {k : Nat} (h : k < cs.length) (h1 : ¬ (csAt cs k).iss = a) (h2 : ¬ (csAt cs k).acq = a) : cntA (cs.take (k + 1)) a = cntA (cs.take k) a := by
  rw [cntA_step cs a k h, if_neg (by intro h; rcases h with h | h; exact h1 h; exact h2 h)]; omega
theorem cntA_cons (c : Cs) (cs : List Cs) (a : Int) : cntA (c :: cs) a = (if c.iss = a ∨ c.acq = a then 1 else 0) + cntA cs a := by
  unfold cntA
  rw [List.filter_cons]
  by_cases h1 : c.iss = a <;> by_cases h2 : c.acq = a <;> simp [h1, h2] <;> omega
/-- the sides of a case that are accounts, each once -/
def partyL (c : Cs) : List Int := Lib.compact ([c.iss, c.acq].filter acctOk)
theorem comp_nil : Lib.compact ([] : List Int) = [] := rfl
theorem comp_one (x : Int) : Lib.compact [x] = [x] := by
  simp [Lib.compact, Lib.compactUpTo, Lib.keeps, List.range_succ]
theorem comp_two (x y : Int) : Lib.compact [x, y] = if x = y then [x] else [x, y] := by
  by_cases h : x = y
  · subst h; simp [Lib.compact, Lib.compactUpTo, Lib.keeps, List.range_succ, List.filter]
  · simp [Lib.compact, Lib.compactUpTo, Lib.keeps, List.range_succ, List.filter, h, Ne.symm h]
theorem party_count (c : Cs) (a : Int) : ((partyL c).count a : Int) = if acctOk a = true ∧ (c.iss = a ∨ c.acq = a) then 1 else 0 := by
  unfold partyL
  cases h1 : acctOk c.iss <;> cases h2 : acctOk c.acq
  · rw [show [c.iss, c.acq].filter acctOk = [] by simp [h1, h2], comp_nil, if_neg]
    · rfl
    · rintro ⟨h, rfl | rfl⟩ <;> simp_all
  · rw [show [c.iss, c.acq].filter acctOk = [c.acq] by simp [h1, h2], comp_one]
    by_cases e : c.acq = a
    · subst e; simp [h2]
    · rw [if_neg (by rintro ⟨h, rfl | h'⟩; simp_all; exact e h')]; simp [e]
  · rw [show [c.iss, c.acq].filter acctOk = [c.iss] by simp [h1, h2], comp_one]
    by_cases e : c.iss = a
    · subst e; simp [h1]
    · rw [if_neg (by rintro ⟨h, h' | rfl⟩; exact e h'; simp_all)]; simp [e]
  · rw [show [c.iss, c.acq].filter acctOk = [c.iss, c.acq] by simp [h1, h2], comp_two]
    by_cases e : c.iss = c.acq
    · rw [if_pos e]
      by_cases e1 : c.acq = a
      · subst e1; simp [h2, e]
      · rw [if_neg (by rintro ⟨h, h' | h'⟩; exact e1 (e ▸ h'); exact e1 h')]; simp [e, e1]
    · rw [if_neg e]
      by_cases e1 : c.iss = a
      · subst e1; simp [h1, Ne.symm e]
      · by_cases e2 : c.acq = a
        · subst e2; simp [h2, e1]
        · rw [if_neg (by rintro ⟨h, h' | h'⟩; exact e1 h'; exact e2 h')]; simp [e1, e2]
theorem party_le (c : Cs) : (partyL c).length ≤ 2 := by
  unfold partyL
  refine Nat.le_trans (Lib.compact_length_le _) ?_
  exact Nat.le_trans (List.length_filter_le _ _) (by simp)
def flatP (cs : List Cs) : List Int := cs.flatMap partyL
theorem flatP_step (cs : List Cs) (k : Nat) (h : k < cs.length) : flatP (cs.take (k + 1)) = flatP (cs.take k) ++ partyL (csAt cs k) := by
  rw [flatP, take_csAt cs k h, List.flatMap_append]; simp [flatP]
theorem flatP_le (cs : List Cs) : (flatP cs).length ≤ cs.length * 2 := by
  induction cs with
  | nil => simp [flatP]
  | cons c r ih =>
    have := party_le c
    rw [show flatP (c :: r) = partyL c ++ flatP r from rfl, List.length_append, List.length_cons]; omega
theorem flat_count (cs : List Cs) (a : Int) : ((flatP cs).count a : Int) = if acctOk a = true then cntA cs a else 0 := by
  induction cs with
  | nil => simp [flatP, cntA]
  | cons c r ih =>
    rw [show flatP (c :: r) = partyL c ++ flatP r from rfl, List.count_append, cntA_cons]
    have := party_count c a
    cases h : acctOk a
    · rw [h] at ih this
      simp at ih this ⊢
      omega
    · rw [h] at ih this
      simp only [true_and, if_true] at ih this ⊢
      omega
theorem flat_zero (cs : List Cs) : (flatP cs).count 0 = 0 := by
  have := flat_count cs 0
  rw [if_neg (by decide)] at this
  omega
/-- the best of those that were asked: none, or the least of those with the most -/
def Bst (f : Int → Int) (S : Int → Prop) (b r : Int) : Prop :=
  (r = 0 ∧ b = 0 ∧ ∀ a, S a → f a ≤ 0) ∨ (S r ∧ 0 < f r ∧ b = f r ∧ ∀ a, S a → f a < f r ∨ (f a = f r ∧ r ≤ a))
theorem bst_none (f : Int → Int) {S : Int → Prop} (h : ∀ a, ¬ S a) : Bst f S 0 0 := .inl ⟨rfl, rfl, fun a ha => absurd ha (h a)⟩
theorem bst_in {f : Int → Int} {S T : Int → Prop} {b r x : Int} (h : Bst f S b r) (hx : ∀ a, S a → a ≤ x) (hT : ∀ a, T a ↔ S a ∨ a = x) (hb : b < f x) : Bst f T (f x) x := by
  refine .inr ⟨(hT x).2 (.inr rfl), ?_, rfl, fun a ha => ?_⟩
  · rcases h with ⟨-, rfl, -⟩ | ⟨-, h2, rfl, -⟩ <;> omega
  · rcases (hT a).1 ha with h1 | rfl
    · left
      rcases h with ⟨-, rfl, h3⟩ | ⟨-, h2, rfl, h3⟩
      · have := h3 a h1; omega
      · have := h3 a h1; omega
    · exact .inr ⟨rfl, Int.le_refl _⟩
theorem bst_out {f : Int → Int} {S T : Int → Prop} {b r x : Int} (h : Bst f S b r) (hx : ∀ a, S a → a ≤ x) (hT : ∀ a, T a ↔ S a ∨ a = x) (hb : ¬ b < f x) : Bst f T b r := by
  rcases h with ⟨h1, rfl, h3⟩ | ⟨h1, h2, rfl, h3⟩
  · refine .inl ⟨h1, rfl, fun a ha => ?_⟩
    rcases (hT a).1 ha with h | rfl
    · exact h3 a h
    · omega
  · refine .inr ⟨(hT r).2 (.inl h1), h2, rfl, fun a ha => ?_⟩
    rcases (hT a).1 ha with h | rfl
    · exact h3 a h
    · have := hx r h1
      omega
/-- both ways of asking lead to one account -/
theorem bst_same {f g : Int → Int} {S T : Int → Prop} {b b' r r' : Int} (h : Bst f S b r) (h' : Bst g T b' r') (hT : ∀ a, T a → S a ∧ f a = g a) (hS : ∀ a, S a → f a ≤ 0 ∨ T a) : r = r' := by
  rcases h with ⟨h1, -, h3⟩ | ⟨h1, h2, -, h3⟩
  · rcases h' with ⟨k1, -, -⟩ | ⟨k1, k2, -, -⟩
    · omega
    · have := h3 r' (hT r' k1).1
      have := (hT r' k1).2
      omega
  · have tr : T r := by rcases hS r h1 with h | h; omega; exact h
    have er := (hT r tr).2
    rcases h' with ⟨k1, -, k3⟩ | ⟨k1, k2, -, k3⟩
    · have := k3 r tr; omega
    · have e' := (hT r' k1).2
      have a1 := h3 r' (hT r' k1).1
      have a2 := k3 r tr
      omega

end Go.Proofs.Ytkdodamdjajbiaa
