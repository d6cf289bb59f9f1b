/- Plain lists of bytes: what they are as texts, whether each lies within bounds, the number that digits spell. No Go in sight. -/
import Derived.Lib.Strings
import Derived.WalkKit
namespace Go.Proofs.Ytiiechnbionhnaa
open Go.RowKit

theorem ba_append (l r : List UInt8) : (⟨l.toArray⟩ ++ ⟨r.toArray⟩ : ByteArray) = ⟨(l ++ r).toArray⟩ := by
  apply ByteArray.ext
  simp
theorem ba_list (b : ByteArray) : b = ⟨b.data.toList.toArray⟩ := by cases b; simp
theorem ba_extract (l : List UInt8) (a b : Nat) : (⟨l.toArray⟩ : ByteArray).extract a b = ⟨((l.drop a).take (b - a)).toArray⟩ := by
  have h := Lib.extract_data ⟨l.toArray⟩ a b
  rw [ba_list (ByteArray.extract ⟨l.toArray⟩ a b), h]
theorem ba_size (l : List UInt8) : (⟨l.toArray⟩ : ByteArray).size = l.length := by simp [ByteArray.size]
theorem ba_inj {l r : List UInt8} : ((⟨l.toArray⟩ : ByteArray) = ⟨r.toArray⟩) ↔ l = r :=
  ⟨fun h => by have := congrArg (fun b : ByteArray => b.data.toList) h; simpa using this, fun h => by rw [h]⟩
theorem byte_at (l : List UInt8) (k : Nat) (h : k < l.length) : l.getD k 0 = (⟨l.toArray⟩ : ByteArray)[k]'(by rw [ba_size]; exact h) := by
  rw [List.getD_eq_getElem?_getD, List.getElem?_eq_getElem h]
  rfl
theorem wrap_byte (c : UInt8) : wrap64 ((c.toNat : Nat) : Int) = (c.toNat : Int) := by
  have := c.toNat_lt
  unfold wrap64; omega

/-- whether each byte is a .. b -/
def within (a b : Nat) (l : List UInt8) : Bool := l.all fun c => decide (a ≤ c.toNat) && decide (c.toNat ≤ b)
theorem within_step (a b : Nat) (l : List UInt8) (k : Nat) (h : k < l.length) : within a b (l.drop k) = ((decide (a ≤ (l.getD k 0).toNat) && decide ((l.getD k 0).toNat ≤ b)) && within a b (l.drop (k + 1))) := by
  have e : l.getD k 0 = l[k] := by simp [List.getD_eq_getElem?_getD, h]
  rw [List.drop_eq_getElem_cons h, e]
  simp only [within, List.all_cons]
theorem within_end (a b : Nat) (l : List UInt8) : within a b (l.drop l.length) = true := by rw [List.drop_of_length_le (Nat.le_refl _)]; rfl
theorem within_mem {a b : Nat} {l : List UInt8} (h : within a b l = true) : ∀ c ∈ l, a ≤ c.toNat ∧ c.toNat ≤ b := by
  intro c hc
  have := List.all_eq_true.1 h c hc
  simpa using this
theorem within_of {a b : Nat} {l : List UInt8} (h : ∀ c ∈ l, a ≤ c.toNat ∧ c.toNat ≤ b) : within a b l = true :=
  List.all_eq_true.2 fun c hc => by simpa using h c hc
theorem within_at {a b : Nat} {l : List UInt8} (h : within a b l = true) {k : Nat} (hk : k < l.length) : a ≤ (l.getD k 0).toNat ∧ (l.getD k 0).toNat ≤ b :=
  within_mem h _ (by simp [List.getD_eq_getElem?_getD, hk])

/-- the number that digits spell, from a on -/
def val (a : Nat) (l : List UInt8) : Nat := l.foldl (fun a c => a * 10 + (c.toNat - 48)) a
theorem val_cons (a : Nat) (c : UInt8) (l : List UInt8) : val a (c :: l) = val (a * 10 + (c.toNat - 48)) l := by simp only [val, List.foldl_cons]
theorem val_append (a : Nat) (l r : List UInt8) : val a (l ++ r) = val (val a l) r := by simp [val]
theorem val_zeros (k : Nat) (l : List UInt8) : val 0 (List.replicate k 48 ++ l) = val 0 l := by
  induction k with
  | zero => rfl
  | succ k ih => rw [List.replicate_succ, List.cons_append, val_cons]; exact ih
theorem take_succ_at (l : List UInt8) (k : Nat) (h : k < l.length) : l.take (k + 1) = l.take k ++ [l.getD k 0] := by
  rw [List.take_add_one, List.getElem?_eq_getElem h, List.getD_eq_getElem?_getD, List.getElem?_eq_getElem h]; rfl
theorem val_take (l : List UInt8) (k : Nat) (h : k < l.length) : val 0 (l.take (k + 1)) = val 0 (l.take k) * 10 + ((l.getD k 0).toNat - 48) := by
  rw [take_succ_at l k h, val_append]; rfl
theorem val_bound (l : List UInt8) (h : within 48 57 l = true) : ∀ k, k ≤ l.length → val 0 (l.take k) < 10 ^ k := by
  intro k
  induction k with
  | zero => intro _; simp [val]
  | succ k ih =>
    intro hk
    have := ih (by omega)
    have hb := within_at h (k := k) (by omega)
    rw [val_take l k (by omega), Nat.pow_succ]
    omega

/-- a text's number -/
def numOf (l : List UInt8) : Int := if l.length ≤ 18 ∧ within 48 57 l = true then (val 0 l : Int) else -1
theorem numOf_no1 {l : List UInt8} (h : 18 < l.length) : numOf l = -1 := if_neg (by omega)
theorem numOf_no2 {l : List UInt8} (h : within 48 57 l = false) : numOf l = -1 := if_neg (by rw [h]; simp)
theorem numOf_yes {l : List UInt8} (h1 : l.length ≤ 18) (h2 : within 48 57 l = true) : numOf l = (val 0 l : Int) := if_pos ⟨h1, h2⟩
theorem numOf_bd (l : List UInt8) : -1 ≤ numOf l ∧ numOf l < 1000000000000000000 := by
  unfold numOf
  split
  · rename_i h
    have := val_bound l h.2 l.length (Nat.le_refl _)
    rw [List.take_of_length_le (Nat.le_refl _)] at this
    have : 10 ^ l.length ≤ 10 ^ 18 := Nat.pow_le_pow_right (by omega) h.1
    omega
  · omega

end Go.Proofs.Ytiiechnbionhnaa
