/- Sets of numbers as bits, over plain lists. No Go in sight. -/
import Derived.Test.YtopgcfgomappjaaDoorDig
namespace Go.Proofs.YtopgcfgomappjaaDoor
open Go.RowKit

/-- ascending numbers above p, none above 128 -/
def ascS (p : Int) : List Int → Bool
  | [] => true
  | x :: r => decide (p < x ∧ x ≤ 128) && ascS x r
theorem ascS_step (zs : List Int) (k : Nat) (p : Int) (h : k < zs.length) : ascS p (zs.drop k) = (decide (p < zs.getD k 0 ∧ zs.getD k 0 ≤ 128) && ascS (zs.getD k 0) (zs.drop (k + 1))) := by
  have e : zs.getD k 0 = zs[k] := by simp [List.getD_eq_getElem?_getD, h]
  rw [List.drop_eq_getElem_cons h, e]
  rfl
theorem ascS_mem {zs : List Int} : ∀ {p : Int}, ascS p zs = true → ∀ x ∈ zs, p < x ∧ x ≤ 128 := by
  induction zs with
  | nil => intro p _ x hx; cases hx
  | cons y r ih =>
    intro p h x hx
    rw [ascS, Bool.and_eq_true, decide_eq_true_eq] at h
    rcases List.mem_cons.1 hx with rfl | hx
    · exact h.1
    · have := ih h.2 x hx; omega
/-- the number ahead of number k, 1 ahead of the first -/
def prevS (zs : List Int) (k : Nat) : Int := if k = 0 then 1 else zs.getD (k - 1) 0
def wide (zs : List Int) : Bool := zs.any fun x => decide (64 < x)
theorem wide_last {zs : List Int} : ∀ {p : Int}, ascS p zs = true → zs ≠ [] → wide zs = decide (64 < zs.getD (zs.length - 1) 0) := by
  induction zs with
  | nil => intro p _ h; exact absurd rfl h
  | cons x r ih =>
    intro p h _
    rw [ascS, Bool.and_eq_true, decide_eq_true_eq] at h
    cases r with
    | nil => simp [wide]
    | cons y t =>
      have h2 := ih h.2 (by simp)
      have e : (x :: y :: t).getD ((x :: y :: t).length - 1) 0 = (y :: t).getD ((y :: t).length - 1) 0 := by simp [List.getD_eq_getElem?_getD]
      rw [e, ← h2]
      have h3 : wide (x :: y :: t) = (decide (64 < x) || wide (y :: t)) := rfl
      rw [h3]
      by_cases hx : 64 < x
      · have hy := (ascS_mem h.2 y (by simp)).1
        have : wide (y :: t) = true := by simp [wide]; left; omega
        rw [this, Bool.or_true]
      · simp [hx]

/-- bit n of a set: bit 1 tells whether it is a wide one -/
def bitS (zs : List Int) (n : Nat) : Bool := (decide (n = 1) && wide zs) || zs.contains (n : Int)
/-- the first b bits of byte k -/
def partB (f : Nat → Bool) (k : Nat) : Nat → Nat
  | 0 => 0
  | b + 1 => 2 * partB f k b + (f (8 * k + b + 1)).toNat
theorem partB_lt (f : Nat → Bool) (k b : Nat) : partB f k b < 2 ^ b := by
  induction b with
  | zero => simp [partB]
  | succ b ih =>
    have : (f (8 * k + b + 1)).toNat ≤ 1 := Bool.toNat_le _
    rw [partB, Nat.pow_succ]; omega
theorem partB_255 (f : Nat → Bool) (k : Nat) : partB f k 8 ≤ 255 := by have := partB_lt f k 8; omega
theorem partB_congr {f g : Nat → Bool} {k : Nat} (h : ∀ b, b < 8 → f (8 * k + b + 1) = g (8 * k + b + 1)) : ∀ b, b ≤ 8 → partB f k b = partB g k b := by
  intro b
  induction b with
  | zero => intro _; rfl
  | succ b ih => intro hb; rw [partB, partB, ih (by omega), h b (by omega)]
def byteOf (f : Nat → Bool) (k : Nat) : UInt8 := UInt8.ofNat (partB f k 8)
theorem byteOf_nat (f : Nat → Bool) (k : Nat) : (byteOf f k).toNat = partB f k 8 := by
  have := partB_255 f k
  unfold byteOf; rw [UInt8.toNat_ofNat']; omega
def setB (f : Nat → Bool) (m : Nat) : List UInt8 := (List.range m).map (byteOf f)
theorem setB_len (f : Nat → Bool) (m : Nat) : (setB f m).length = m := by simp [setB]
theorem setB_succ (f : Nat → Bool) (m : Nat) : setB f (m + 1) = setB f m ++ [byteOf f m] := by simp [setB, List.range_succ]
def sizeS (zs : List Int) : Nat := if wide zs = true then 16 else 8
theorem sizeS_or (zs : List Int) : (sizeS zs = 16 ∧ wide zs = true) ∨ (sizeS zs = 8 ∧ wide zs = false) := by
  unfold sizeS
  cases wide zs <;> simp
def putS (zs : List Int) : Option (List UInt8) := if ascS 1 zs = true then some (setB (bitS zs) (sizeS zs)) else none
theorem putS_no {zs : List Int} (h : ascS 1 zs = false) : putS zs = none := if_neg (by rw [h]; decide)
theorem putS_yes {zs : List Int} (h : ascS 1 zs = true) : putS zs = some (setB (bitS zs) (sizeS zs)) := if_pos h
theorem putS_len (zs : List Int) : ((putS zs).getD []).length ≤ 16 := by
  unfold putS
  split
  · simp only [Option.getD_some, setB_len]; unfold sizeS; split <;> omega
  · simp

/-- one bit more -/
def addB (f : Nat → Bool) (n : Nat) : Nat → Bool := fun x => f x || decide (x = n)
def bitV (r : Nat) : Int := ((128 / 2 ^ r : Nat) : Int)
theorem or_bit : ∀ b0 b1 b2 b3 b4 b5 b6 b7 : Bool, ∀ r : Fin 8,
    bits .or .u8 ((2 * (2 * (2 * (2 * (2 * (2 * (2 * (2 * 0 + b0.toNat) + b1.toNat) + b2.toNat) + b3.toNat) + b4.toNat) + b5.toNat) + b6.toNat) + b7.toNat : Nat) : Int) (bitV r.val) =
    ((2 * (2 * (2 * (2 * (2 * (2 * (2 * (2 * 0 + (b0 || decide (0 = r.val)).toNat) + (b1 || decide (1 = r.val)).toNat) + (b2 || decide (2 = r.val)).toNat) + (b3 || decide (3 = r.val)).toNat) + (b4 || decide (4 = r.val)).toNat) + (b5 || decide (5 = r.val)).toNat) + (b6 || decide (6 = r.val)).toNat) + (b7 || decide (7 = r.val)).toNat : Nat) : Int) := by decide +kernel
theorem partB_or (f : Nat → Bool) (q r : Nat) (hr : r < 8) : bits .or .u8 (partB f q 8 : Int) (bitV r) = (partB (addB f (8 * q + r + 1)) q 8 : Int) := by
  have h := or_bit (f (8 * q + 0 + 1)) (f (8 * q + 1 + 1)) (f (8 * q + 2 + 1)) (f (8 * q + 3 + 1)) (f (8 * q + 4 + 1)) (f (8 * q + 5 + 1)) (f (8 * q + 6 + 1)) (f (8 * q + 7 + 1)) ⟨r, hr⟩
  have e : ∀ b, addB f (8 * q + r + 1) (8 * q + b + 1) = (f (8 * q + b + 1) || decide (b = r)) := by
    intro b
    unfold addB
    congr 1
    by_cases hb : b = r
    · subst hb; simp
    · rw [decide_eq_false hb, decide_eq_false (by omega)]
  have p : ∀ g : Nat → Bool, partB g q 8 = 2 * (2 * (2 * (2 * (2 * (2 * (2 * (2 * 0 + (g (8 * q + 0 + 1)).toNat) + (g (8 * q + 1 + 1)).toNat) + (g (8 * q + 2 + 1)).toNat) + (g (8 * q + 3 + 1)).toNat) + (g (8 * q + 4 + 1)).toNat) + (g (8 * q + 5 + 1)).toNat) + (g (8 * q + 6 + 1)).toNat) + (g (8 * q + 7 + 1)).toNat := fun g => rfl
  rw [p, p, e 0, e 1, e 2, e 3, e 4, e 5, e 6, e 7]
  exact h
theorem partB_add (f : Nat → Bool) (q r k : Nat) (hr : r < 8) (hk : k ≠ q) : partB (addB f (8 * q + r + 1)) k 8 = partB f k 8 :=
  partB_congr (fun b hb => by
    unfold addB
    rw [decide_eq_false (by omega), Bool.or_false]) 8 (Nat.le_refl _)

/-- bit n of bytes -/
def bitL (l : List UInt8) (n : Nat) : Bool := decide ((l.getD ((n - 1) / 8) 0).toNat / 2 ^ (7 - (n - 1) % 8) % 2 = 1)
theorem and_bit : ∀ c : Fin 256, ∀ r : Fin 8, (bits .and .u8 (c.val : Int) (bitV r.val) != 0) = decide (c.val / 2 ^ (7 - r.val) % 2 = 1) := by decide +kernel
theorem part_bit : ∀ b0 b1 b2 b3 b4 b5 b6 b7 : Bool, ∀ r : Fin 8,
    decide ((2 * (2 * (2 * (2 * (2 * (2 * (2 * (2 * 0 + b0.toNat) + b1.toNat) + b2.toNat) + b3.toNat) + b4.toNat) + b5.toNat) + b6.toNat) + b7.toNat) / 2 ^ (7 - r.val) % 2 = 1) =
    ((decide (0 = r.val) && b0) || (decide (1 = r.val) && b1) || (decide (2 = r.val) && b2) || (decide (3 = r.val) && b3) || (decide (4 = r.val) && b4) || (decide (5 = r.val) && b5) || (decide (6 = r.val) && b6) || (decide (7 = r.val) && b7)) := by decide +kernel
theorem bitL_set (f : Nat → Bool) (m n : Nat) (h1 : 1 ≤ n) (h2 : n ≤ 8 * m) : bitL (setB f m) n = f n := by
  obtain ⟨q, hq⟩ : ∃ q, (n - 1) / 8 = q := ⟨_, rfl⟩
  obtain ⟨r, hr⟩ : ∃ r, (n - 1) % 8 = r := ⟨_, rfl⟩
  have hr8 : r < 8 := by omega
  have hn : n = 8 * q + r + 1 := by omega
  unfold bitL
  rw [hq, hr, setB, getD_map_range _ _ _ (by omega), byteOf_nat]
  have h := part_bit (f (8 * q + 0 + 1)) (f (8 * q + 1 + 1)) (f (8 * q + 2 + 1)) (f (8 * q + 3 + 1)) (f (8 * q + 4 + 1)) (f (8 * q + 5 + 1)) (f (8 * q + 6 + 1)) (f (8 * q + 7 + 1)) ⟨r, hr8⟩
  simp only [partB]
  refine h.trans ?_
  rw [hn]
  rcases (show r = 0 ∨ r = 1 ∨ r = 2 ∨ r = 3 ∨ r = 4 ∨ r = 5 ∨ r = 6 ∨ r = 7 from by omega) with rfl | rfl | rfl | rfl | rfl | rfl | rfl | rfl <;> simp

/-- the numbers of 2 .. k whose bits are there -/
def numsL (l : List UInt8) (k : Nat) : List Int := ((List.range (k + 1)).filter fun n => decide (2 ≤ n) && bitL l n).map fun n : Nat => (n : Int)
theorem numsL_one (l : List UInt8) : numsL l 1 = [] := by simp [numsL, List.range_succ]
theorem numsL_succ (l : List UInt8) (k : Nat) (h : 1 ≤ k) : numsL l (k + 1) = numsL l k ++ (if bitL l (k + 1) = true then [((k + 1 : Nat) : Int)] else []) := by
  unfold numsL
  rw [List.range_succ, List.filter_append, List.map_append]
  congr 1
  simp only [List.filter_cons, List.filter_nil]
  cases bitL l (k + 1) <;> simp [show 2 ≤ k + 1 from by omega]
theorem numsL_len (l : List UInt8) (k : Nat) : (numsL l k).length ≤ k + 1 := by
  unfold numsL
  rw [List.length_map]
  exact Nat.le_trans (List.length_filter_le _ _) (by simp)

end Go.Proofs.YtopgcfgomappjaaDoor
