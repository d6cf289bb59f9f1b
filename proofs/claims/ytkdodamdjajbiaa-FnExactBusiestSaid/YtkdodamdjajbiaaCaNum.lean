/- The numbers of the cases that are such: plainly. -/
import Derived.Test.YtkdodamdjajbiaaBkGen
import Derived.Test.YtkdodamdjajbiaaRLate
namespace Go.Proofs.Ytkdodamdjajbiaa
open Go.RowKit
set_option maxRecDepth 100000

/-- the numbers below k of the cases that are such -/
def numsL (P : Cs → Bool) (cs : List Cs) (k : Nat) : List Int := ((List.range k).filter fun i => P (csAt cs i)).map fun i : Nat => (i : Int)
theorem numsL_zero (P : Cs → Bool) (cs : List Cs) : numsL P cs 0 = [] := rfl
theorem numsL_in {P : Cs → Bool} {cs : List Cs} {k : Nat} (h : P (csAt cs k) = true) : numsL P cs (k + 1) = numsL P cs k ++ [(k : Int)] := by
  simp [numsL, List.range_succ, List.filter_append, h]
theorem numsL_out {P : Cs → Bool} {cs : List Cs} {k : Nat} (h : P (csAt cs k) = false) : numsL P cs (k + 1) = numsL P cs k := by
  simp [numsL, List.range_succ, List.filter_append, h]
theorem numsL_le (P : Cs → Bool) (cs : List Cs) (k : Nat) : (numsL P cs k).length ≤ k := by
  refine Nat.le_trans (by rw [numsL, List.length_map]; exact List.length_filter_le _ _) ?_
  simp
/-- an open case; one that is open and late -/
def opP (c : Cs) : Bool := !(c.st == 7)
def dueP (t : Int) (c : Cs) : Bool := opP c && lateV t c.due
theorem opP_no {c : Cs} (h : (c.st == 7) = true) : opP c = false := by simp [opP, h]
theorem opP_yes {c : Cs} (h : (c.st == 7) = false) : opP c = true := by simp [opP, h]
theorem dueP_no {t : Int} {c : Cs} (h : (c.st == 7) = true) : dueP t c = false := by simp [dueP, opP_no h]
theorem dueP_late {t : Int} {c : Cs} (h : (c.st == 7) = false) : dueP t c = lateV t c.due := by simp [dueP, opP_yes h]
theorem one_nu (x : Int) : ∀ u ∈ [Value.int .i64 x], u.oneCell' = true := by
  intro u hu
  rw [List.mem_singleton.1 hu]; rfl
theorem infoI : (Try.prog.info? 3).map (fun i => (i.zero, i.size, i.bytes)) = some (some (.int .i64 0), 1, 8) := by kernel_rfl
/-- an answer of numbers: a row of its own -/
def NuR (w : World) (zs : List Int) (e : Ending) (w' : World) : Prop :=
  ∃ a k, e = .returned (.slice a zs.length k) ∧ w'.ownsRow w.heap.size 3 1 (.slice a zs.length k) zs.length (zs.map (Value.int .i64)) ∧ Below w.heap.size w w'

end Go.Proofs.Ytkdodamdjajbiaa
