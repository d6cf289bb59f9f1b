/- Sums over cases, as the machine reckons them: plainly. -/
import Derived.Test.YtkdodamdjajbiaaCaNum
namespace Go.Proofs.Ytkdodamdjajbiaa
open Go.RowKit
set_option maxRecDepth 100000

theorem take_csAt (cs : List Cs) (k : Nat) (h : k < cs.length) : cs.take (k + 1) = cs.take k ++ [csAt cs k] := by rw [List.take_succ_eq_append_getElem h, csAt_is h]
/-- what a case adds to a sum: what is told of it, where it is such -/
def sumS (P : Cs → Bool) (f : Cs → Int) (s : Int) (c : Cs) : Int := if P c = true then IntKind.i64.wrap (s + f c) else s
def sumV (P : Cs → Bool) (f : Cs → Int) (cs : List Cs) : Int := cs.foldl (sumS P f) 0
theorem sumV_step (P : Cs → Bool) (f : Cs → Int) (cs : List Cs) (k : Nat) (h : k < cs.length) : sumV P f (cs.take (k + 1)) = sumS P f (sumV P f (cs.take k)) (csAt cs k) := by
  rw [take_csAt cs k h, sumV, List.foldl_append]; rfl
theorem sumV_in {P : Cs → Bool} {f : Cs → Int} {cs : List Cs} {k : Nat} (h : k < cs.length) (hp : P (csAt cs k) = true) : sumV P f (cs.take (k + 1)) = IntKind.i64.wrap (sumV P f (cs.take k) + f (csAt cs k)) := by
  rw [sumV_step P f cs k h, sumS, if_pos hp]
theorem sumV_out {P : Cs → Bool} {f : Cs → Int} {cs : List Cs} {k : Nat} (h : k < cs.length) (hp : P (csAt cs k) = false) : sumV P f (cs.take (k + 1)) = sumV P f (cs.take k) := by
  rw [sumV_step P f cs k h, sumS, if_neg (by rw [hp]; decide)]
theorem wrap_bd (x : Int) : -9223372036854775808 ≤ IntKind.i64.wrap x ∧ IntKind.i64.wrap x ≤ 9223372036854775807 := by
  rw [IntKind.wrap_i64]; omega
theorem foldl_bd (P : Cs → Bool) (f : Cs → Int) (cs : List Cs) : ∀ s : Int, -9223372036854775808 ≤ s ∧ s ≤ 9223372036854775807 → -9223372036854775808 ≤ cs.foldl (sumS P f) s ∧ cs.foldl (sumS P f) s ≤ 9223372036854775807 := by
  induction cs with
  | nil => intro s h; exact h
  | cons c r ih =>
    intro s h
    refine ih _ ?_
    unfold sumS
    split
    · exact wrap_bd _
    · exact h
theorem sumV_bd (P : Cs → Bool) (f : Cs → Int) (cs : List Cs) : -9223372036854775808 ≤ sumV P f cs ∧ sumV P f cs ≤ 9223372036854775807 := foldl_bd P f cs 0 (by omega)
theorem sumV_filter (P Q : Cs → Bool) (f : Cs → Int) (cs : List Cs) : sumV P f (cs.filter Q) = sumV (fun c => P c && Q c) f cs := by
  unfold sumV
  suffices h : ∀ s : Int, (cs.filter Q).foldl (sumS P f) s = cs.foldl (sumS (fun c => P c && Q c) f) s from h 0
  induction cs with
  | nil => intro s; rfl
  | cons c r ih =>
    intro s
    rw [List.filter_cons, List.foldl_cons, ← ih]
    cases hq : Q c <;> cases hp : P c <;> simp [hq, hp, sumS]
/-- of one currency -/
def curP (x : Int) (c : Cs) : Bool := c.cur == x
/-- what a case says of an account -/
def netC (c : Cs) : Int := wrap64 (c.am - c.bk)
def balV (a : Int) (c : Cs) : Int :=
  if a = 9999 then wrap64 ((if a = c.acq then wrap64 ((if a = c.iss then wrap64 (0 - netC c) else 0) + netC c) else (if a = c.iss then wrap64 (0 - netC c) else 0)) + c.fee)
  else (if a = c.acq then wrap64 ((if a = c.iss then wrap64 (0 - netC c) else 0) + netC c) else (if a = c.iss then wrap64 (0 - netC c) else 0))
/-- a case adds what it says of an account, one part behind another -/
def expV (a : Int) (s : Int) (c : Cs) : Int :=
  if a = 9999 then wrap64 ((if c.acq = a then wrap64 ((if c.iss = a then wrap64 (s - netC c) else s) + netC c) else (if c.iss = a then wrap64 (s - netC c) else s)) + c.fee)
  else (if c.acq = a then wrap64 ((if c.iss = a then wrap64 (s - netC c) else s) + netC c) else (if c.iss = a then wrap64 (s - netC c) else s))
theorem expV_is (a s : Int) (c : Cs) (h : -9223372036854775808 ≤ s ∧ s ≤ 9223372036854775807) : IntKind.i64.wrap (s + balV a c) = expV a s c := by
  rw [IntKind.wrap_i64]
  unfold expV balV
  generalize netC c = n
  by_cases h1 : a = c.iss
  · by_cases h2 : a = c.acq
    · by_cases h3 : a = 9999
      · simp only [if_pos h1, if_pos h1.symm, if_pos h2, if_pos h2.symm, if_pos h3, wrap64]
        omega
      · simp only [if_pos h1, if_pos h1.symm, if_pos h2, if_pos h2.symm, if_neg h3, wrap64]
        omega
    · by_cases h3 : a = 9999
      · simp only [if_pos h1, if_pos h1.symm, if_neg h2, if_neg (Ne.symm h2), if_pos h3, wrap64]
        omega
      · simp only [if_pos h1, if_pos h1.symm, if_neg h2, if_neg (Ne.symm h2), if_neg h3, wrap64]
        omega
  · by_cases h2 : a = c.acq
    · by_cases h3 : a = 9999
      · simp only [if_neg h1, if_neg (Ne.symm h1), if_pos h2, if_pos h2.symm, if_pos h3, wrap64]
        omega
      · simp only [if_neg h1, if_neg (Ne.symm h1), if_pos h2, if_pos h2.symm, if_neg h3, wrap64]
        omega
    · by_cases h3 : a = 9999
      · simp only [if_neg h1, if_neg (Ne.symm h1), if_neg h2, if_neg (Ne.symm h2), if_pos h3, wrap64]
        omega
      · simp only [if_neg h1, if_neg (Ne.symm h1), if_neg h2, if_neg (Ne.symm h2), if_neg h3]
        omega

end Go.Proofs.Ytkdodamdjajbiaa
