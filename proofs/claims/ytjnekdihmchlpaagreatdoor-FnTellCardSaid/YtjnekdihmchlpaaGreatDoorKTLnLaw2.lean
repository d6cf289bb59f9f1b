/- The laws' own functions over ledgers and entries: a ledger's copy, whether two are the same, marks in one's own lines; an entry's copy. -/
import Derived.Test.YtjnekdihmchlpaaGreatDoorKTLnLaw
namespace Go.Proofs.YtjnekdihmchlpaaGreatDoor
open Go.RowKit
set_option maxRecDepth 100000



/-- the marks of n lines, from k on -/
def mkL (k n : Nat) : List Ln := (List.range n).map fun i => (((k + 3 * i : Nat) : Int), ((k + 3 * i + 1 : Nat) : Int), ((k + 3 * i + 2 : Nat) : Int))
theorem mkL_len (k n : Nat) : (mkL k n).length = n := by simp [mkL]
theorem mkL_at (k n i : Nat) (h : i < n) : lnAt (mkL k n) i = (((k + 3 * i : Nat) : Int), ((k + 3 * i + 1 : Nat) : Int), ((k + 3 * i + 2 : Nat) : Int)) := by simp [lnAt, mkL, List.getD_eq_getElem?_getD, h]
def fillL (ls : List Ln) (k j : Nat) : List Ln := mkL k j ++ ls.drop j
theorem fillL_len (ls : List Ln) (k j : Nat) (h : j ≤ ls.length) : (fillL ls k j).length = ls.length := by simp [fillL, mkL_len]; omega
theorem fillL_zero (ls : List Ln) (k : Nat) : fillL ls k 0 = ls := by simp [fillL, mkL]
theorem fillL_all (ls : List Ln) (k : Nat) : fillL ls k ls.length = mkL k ls.length := by simp [fillL]
theorem fillL_succ (ls : List Ln) (k j : Nat) (h : j < ls.length) : (fillL ls k j).set j (((k + 3 * j : Nat) : Int), ((k + 3 * j + 1 : Nat) : Int), ((k + 3 * j + 2 : Nat) : Int)) = fillL ls k (j + 1) := by
  unfold fillL
  rw [List.set_append, if_neg (by rw [mkL_len]; omega), mkL_len, Nat.sub_self, List.drop_eq_getElem_cons h, List.set_cons_zero]
  simp [mkL, List.range_succ]






end Go.Proofs.YtjnekdihmchlpaaGreatDoor
