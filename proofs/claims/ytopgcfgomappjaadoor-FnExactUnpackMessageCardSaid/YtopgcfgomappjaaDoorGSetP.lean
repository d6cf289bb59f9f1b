/- GetSet, over plain lists. No Go in sight. -/
import Derived.Test.YtopgcfgomappjaaDoorSetP
namespace Go.Proofs.YtopgcfgomappjaaDoor
open Go.RowKit

/-- how many bytes a set has whose first byte is c -/
def szB (c : UInt8) : Nat := if 128 ≤ c.toNat then 16 else 8
def pieceS (l : List UInt8) (i : Nat) : List UInt8 := (l.drop i).take (szB (l.getD i 0))
def inS (l : List UInt8) (i : Int) : Bool := decide (0 ≤ i ∧ i + 8 ≤ l.length ∧ i + szB (l.getD i.toNat 0) ≤ l.length)
def getSOk (l : List UInt8) (i : Int) : Bool := inS l i && decide (putS (numsL (pieceS l i.toNat) (8 * szB (l.getD i.toNat 0))) = some (pieceS l i.toNat))
def getSL (l : List UInt8) (i : Int) : List Int := if getSOk l i = true then numsL (pieceS l i.toNat) (8 * szB (l.getD i.toNat 0)) else []
def getSI (l : List UInt8) (i : Int) : Int := if getSOk l i = true then i + szB (l.getD i.toNat 0) else -1
theorem getS_no {l : List UInt8} {i : Int} (h : getSOk l i = false) : getSL l i = [] ∧ getSI l i = -1 := ⟨if_neg (by rw [h]; decide), if_neg (by rw [h]; decide)⟩
theorem getS_yes {l : List UInt8} {i : Int} (h : getSOk l i = true) : getSL l i = numsL (pieceS l i.toNat) (8 * szB (l.getD i.toNat 0)) ∧ getSI l i = i + szB (l.getD i.toNat 0) := ⟨if_pos h, if_pos h⟩
theorem getS_out {l : List UInt8} {i : Int} (h : ¬ (0 ≤ i ∧ i + 8 ≤ l.length ∧ i + szB (l.getD i.toNat 0) ≤ l.length)) : getSOk l i = false := by
  unfold getSOk inS; rw [decide_eq_false h]; rfl
theorem szB_or (c : UInt8) : (szB c = 16 ∧ 128 ≤ c.toNat) ∨ (szB c = 8 ∧ c.toNat < 128) := by
  unfold szB
  by_cases h : 128 ≤ c.toNat
  · left; rw [if_pos h]; exact ⟨rfl, h⟩
  · right; rw [if_neg h]; exact ⟨rfl, by omega⟩
theorem getS_in {l : List UInt8} {k m : Nat} {b : List UInt8} (hm : szB (l.getD k 0) = m) (h : k + m ≤ l.length) (hb : (l.drop k).take m = b) (hm8 : 8 ≤ m) :
    (putS (numsL b (8 * m)) = some b → getSL l k = numsL b (8 * m) ∧ getSI l k = (k : Int) + m) ∧ (putS (numsL b (8 * m)) ≠ some b → getSL l k = [] ∧ getSI l k = -1) := by
  have e1 : inS l (k : Int) = true := by
    unfold inS
    rw [Int.toNat_natCast, hm]
    exact decide_eq_true (by omega)
  have e2 : pieceS l ((k : Int)).toNat = b := by unfold pieceS; rw [Int.toNat_natCast, hm, hb]
  have e3 : getSOk l (k : Int) = decide (putS (numsL b (8 * m)) = some b) := by
    unfold getSOk
    rw [e1, e2, Int.toNat_natCast, hm]; rfl
  constructor
  · intro hp
    have := getS_yes (l := l) (i := k) (by rw [e3]; exact decide_eq_true hp)
    rw [e2, Int.toNat_natCast, hm] at this
    exact this
  · intro hp
    exact getS_no (by rw [e3]; exact decide_eq_false hp)
theorem getSL_len (l : List UInt8) (i : Int) : (getSL l i).length ≤ 129 := by
  unfold getSL
  split
  · have := numsL_len (pieceS l i.toNat) (8 * szB (l.getD i.toNat 0))
    rcases szB_or (l.getD i.toNat 0) with ⟨h, _⟩ | ⟨h, _⟩ <;> rw [h] at this ⊢ <;> omega
  · simp
theorem bitL_first (l : List UInt8) (i : Nat) : bitL (l.drop i) 1 = decide (128 ≤ (l.getD i 0).toNat) := by
  have e : (l.drop i).getD 0 0 = l.getD i 0 := by simp [List.getD_eq_getElem?_getD]
  have h := (l.getD i 0).toNat_lt
  unfold bitL
  rw [show (1 - 1) / 8 = 0 from rfl, show 7 - (1 - 1) % 8 = 7 from rfl, e]
  congr 1
  apply propext
  constructor
  · intro hh; omega
  · intro hh; omega

end Go.Proofs.YtopgcfgomappjaaDoor
