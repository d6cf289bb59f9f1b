/- An account that a drawn book's ledger has is the House's or of a case's party, plainly; and the law's inner loop. -/
import Derived.Test.YtfeegkdkljkgpaaKNNBkExp
import Derived.Test.YtfeegkdkljkgpaaKNNFAcc
namespace Go.Proofs.Ytfeegkdkljkgpaa
open Go.RowKit
set_option maxRecDepth 100000

def ofA (a : Int) (c : Cs) : Bool := decide (c.iss = a) || decide (c.acq = a)
def knA (cs : List Cs) (a : Int) (i : Nat) : Bool := decide (a = 9999) || (cs.take i).any (ofA a)
theorem knA_zero (cs : List Cs) (a : Int) : knA cs a 0 = decide (a = 9999) := by simp [knA]
theorem knA_step (cs : List Cs) (a : Int) (i : Nat) (h : i < cs.length) : knA cs a (i + 1) = (knA cs a i || (decide ((csAt cs i).iss = a) || decide ((csAt cs i).acq = a))) := by
  rw [knA, knA, List.take_succ_eq_append_getElem h, List.any_append, csAt_is h]
  simp [ofA, Bool.or_assoc]
theorem knA_all {k : Nat} {b : Bk} (hI : Inv k b) {a : Int} (h : a ∈ acctsL b.ls) : knA b.cs a b.cs.length = true := by
  obtain ⟨x, hx, e⟩ : ∃ x ∈ b.ls, x.1 = a := by
    unfold acctsL at h
    have := (List.mem_filter.1 h).2
    obtain ⟨x, hx, e⟩ := List.any_eq_true.1 this
    exact ⟨x, hx, of_decide_eq_true e⟩
  unfold knA
  rw [List.take_of_length_le (Nat.le_refl _)]
  rcases hI.own x hx with h1 | ⟨c, hc, h1⟩
  · rw [decide_eq_true (by omega), Bool.true_or]
  · rw [Bool.or_eq_true]
    refine .inr (List.any_eq_true.2 ⟨c, hc, ?_⟩)
    unfold ofA
    rcases h1 with h1 | h1
    · rw [decide_eq_true (by omega), Bool.true_or]
    · rw [decide_eq_true (show c.acq = a by omega), Bool.or_true]
theorem acctsL_len (ls : List Ln) : (acctsL ls).length ≤ 9999 := by
  unfold acctsL
  refine Nat.le_trans (List.length_filter_le _ _) ?_
  simp

end Go.Proofs.Ytfeegkdkljkgpaa
