/- The books, plainly: lines, when they are so, a line more, an entry posted. No Go in sight. -/
import Derived.Test.YtkdodamdjajbiaaLeaf
import Derived.Test.YtkdodamdjajbiaaCur
namespace Go.Proofs.Ytkdodamdjajbiaa

/-- a line: account, currency, amount -/
abbrev Ln := Int × Int × Int
/-- an entry: from, to, currency, amount -/
abbrev En := Int × Int × Int × Int
def lnAt (ls : List Ln) (k : Nat) : Ln := ls.getD k (0, 0, 0)
theorem lnAt_is {ls : List Ln} {k : Nat} (h : k < ls.length) : lnAt ls k = ls[k] := by simp [lnAt, List.getD_eq_getElem?_getD, h]
theorem lnAt_mem {ls : List Ln} {k : Nat} (h : k < ls.length) : lnAt ls k ∈ ls := by rw [lnAt_is h]; exact List.getElem_mem h
theorem take_lnAt (ls : List Ln) (k : Nat) (h : k < ls.length) : ls.take (k + 1) = ls.take k ++ [lnAt ls k] := by rw [List.take_succ_eq_append_getElem h, lnAt_is h]
theorem drop_lnAt (ls : List Ln) (k : Nat) (h : k < ls.length) : ls.drop k = lnAt ls k :: ls.drop (k + 1) := by rw [List.drop_eq_getElem_cons h, lnAt_is h]
def acctOk (a : Int) : Bool := decide (1 ≤ a ∧ a ≤ 9999)
def lnOk (x : Ln) : Bool := acctOk x.1 && (decide (0 ≤ digs x.2.1) && (mOk x.2.2 && decide (x.2.2 ≠ 0)))
/-- one line stands behind another -/
def lnLt (x y : Ln) : Bool := decide (x.1 < y.1 ∨ x.1 = y.1 ∧ x.2.1 < y.2.1)
/-- all lines so, and each behind the one ahead of it -/
def linesOk : Option Ln → List Ln → Bool
  | _, [] => true
  | none, x :: r => lnOk x && linesOk (some x) r
  | some y, x :: r => (lnOk x && lnLt y x) && linesOk (some x) r
def sumC (cur : Int) (ls : List Ln) : Int := (ls.map fun x => if x.2.1 = cur then x.2.2 else 0).sum
theorem sumC_step (cur : Int) (ls : List Ln) (k : Nat) (h : k < ls.length) : sumC cur (ls.take (k + 1)) = sumC cur (ls.take k) + if (lnAt ls k).2.1 = cur then (lnAt ls k).2.2 else 0 := by
  rw [take_lnAt ls k h]; simp [sumC]
def evenL (ls : List Ln) : Bool := curL.all fun c => decide (sumC c ls = 0)
def ledgerOk (ls : List Ln) : Bool := linesOk none ls && (decide (ls.length ≤ 400) && evenL ls)
def entryOk (e : En) : Bool := acctOk e.1 && (acctOk e.2.1 && (decide (e.1 ≠ e.2.1) && (decide (0 ≤ digs e.2.2.1) && decide (1 ≤ e.2.2.2 ∧ e.2.2.2 ≤ 1000000000000))))
def balL : List Ln → Int → Int → Int
  | [], _, _ => 0
  | x :: r, a, c => if x.1 = a ∧ x.2.1 = c then x.2.2 else balL r a c
theorem balL_step (ls : List Ln) (k : Nat) (a c : Int) (h : k < ls.length) : balL (ls.drop k) a c = if (lnAt ls k).1 = a ∧ (lnAt ls k).2.1 = c then (lnAt ls k).2.2 else balL (ls.drop (k + 1)) a c := by
  rw [drop_lnAt ls k h]; rfl
/-- a line is at or behind a place -/
def reach (x : Ln) (a c : Int) : Bool := decide (a < x.1 ∨ x.1 = a ∧ c ≤ x.2.1)
/-- lines with more on one of them -/
def addL : List Ln → Int → Int → Int → List Ln
  | [], a, c, m => [(a, c, m)]
  | x :: r, a, c, m => if reach x a c = true then (if x.1 = a ∧ x.2.1 = c then (if x.2.2 + m ≠ 0 then (a, c, x.2.2 + m) :: r else r) else (a, c, m) :: x :: r) else x :: addL r a c m
def postTry (ls : List Ln) (e : En) : List Ln := addL (addL ls e.1 e.2.2.1 (-e.2.2.2)) e.2.1 e.2.2.1 e.2.2.2
def postOk (ls : List Ln) (e : En) : Bool := (ledgerOk ls && entryOk e) && ledgerOk (postTry ls e)
def postL (ls : List Ln) (e : En) : List Ln := if postOk ls e = true then postTry ls e else ls
/-- entries posted in a row: what comes of them, nothing when one is refused -/
def postsL : List Ln → List En → Option (List Ln)
  | ls, [] => some ls
  | ls, e :: r => if postOk ls e = true then postsL (postTry ls e) r else none
/-- the sum of all amounts above 0 in a currency (as ints of 64 bits add up) -/
def worthS (cur : Int) (s : Int) (x : Ln) : Int := if x.2.1 = cur ∧ 0 < x.2.2 then IntKind.i64.wrap (s + x.2.2) else s
def worthL (ls : List Ln) (cur : Int) : Int := ls.foldl (worthS cur) 0
theorem worthL_step (ls : List Ln) (cur : Int) (k : Nat) (h : k < ls.length) : worthL (ls.take (k + 1)) cur = worthS cur (worthL (ls.take k) cur) (lnAt ls k) := by
  rw [take_lnAt ls k h, worthL, List.foldl_append]; rfl
def backE (e : En) : En := (e.2.1, e.1, e.2.2.1, e.2.2.2)
/-- the accounts that have a line, ascending -/
def acctsL (ls : List Ln) : List Int := ((List.range 9999).map fun i : Nat => ((i : Int) + 1)).filter fun a => ls.any fun x => decide (x.1 = a)

theorem linesOk_mem {ls : List Ln} : ∀ {p : Option Ln}, linesOk p ls = true → ∀ x ∈ ls, lnOk x = true := by
  induction ls with
  | nil => intro p _ x hx; cases hx
  | cons y r ih =>
    intro p h x hx
    cases p with
    | none =>
      simp only [linesOk, Bool.and_eq_true] at h
      rcases List.mem_cons.1 hx with rfl | hr
      · exact h.1
      · exact ih h.2 x hr
    | some q =>
      simp only [linesOk, Bool.and_eq_true] at h
      rcases List.mem_cons.1 hx with rfl | hr
      · exact h.1.1
      · exact ih h.2 x hr
theorem lnOk_is {x : Ln} (h : lnOk x = true) : (1 ≤ x.1 ∧ x.1 ≤ 9999) ∧ 0 ≤ digs x.2.1 ∧ (-1000000000000 ≤ x.2.2 ∧ x.2.2 ≤ 1000000000000) ∧ x.2.2 ≠ 0 := by
  simp only [lnOk, acctOk, Bool.and_eq_true, decide_eq_true_eq] at h
  exact ⟨h.1, h.2.1, mOk_bd h.2.2.1, h.2.2.2⟩
theorem addL_len (ls : List Ln) (a c m : Int) : (addL ls a c m).length ≤ ls.length + 1 := by
  induction ls with
  | nil => simp [addL]
  | cons x r ih =>
    simp only [addL]
    split
    · split
      · split <;> simp <;> omega
      · simp
    · simp; omega

theorem mem_accts {ls : List Ln} {a : Int} : a ∈ acctsL ls ↔ (1 ≤ a ∧ a ≤ 9999) ∧ ∃ x ∈ ls, x.1 = a := by
  simp only [acctsL, List.mem_filter, List.mem_map, List.mem_range, List.any_eq_true, decide_eq_true_eq]
  constructor
  · rintro ⟨⟨i, hi, rfl⟩, h⟩
    exact ⟨by omega, h⟩
  · rintro ⟨h, hx⟩
    exact ⟨⟨(a - 1).toNat, by omega, by omega⟩, hx⟩
theorem accts_up (ls : List Ln) : (acctsL ls).Pairwise (· < ·) := by
  refine List.Pairwise.filter _ (List.pairwise_map.2 ?_)
  exact List.pairwise_lt_range.imp fun {i j} h => by omega
theorem accts_apart (ls : List Ln) : (acctsL ls).Pairwise (· ≠ ·) := (accts_up ls).imp fun h => by omega
theorem accts_len (ls : List Ln) : (acctsL ls).length ≤ 9999 := by
  refine Nat.le_trans (List.length_filter_le _ _) ?_
  simp
theorem accts_bd {ls : List Ln} {a : Int} (h : a ∈ acctsL ls) : 1 ≤ a ∧ a ≤ 9999 := (mem_accts.1 h).1

end Go.Proofs.Ytkdodamdjajbiaa
