/- The text that the exact laws lay as a mark. -/
import Derived.Test.YtkdodamdjajbiaaAid
import Derived.Test.YtkdodamdjajbiaaBy
import Derived.Test.YtkdodamdjajbiaaFBytes
import Derived.Handy
namespace Go.Proofs.Ytkdodamdjajbiaa
open Go.RowKit

def digC (m : Nat) : UInt8 := UInt8.ofNat (48 + m % 10)
theorem digC_nat (m : Nat) : (digC m).toNat = 48 + m % 10 := by unfold digC; rw [UInt8.toNat_ofNat']; omega
def mdig (n : Nat) : List UInt8 := if _h : n = 0 then [] else mdig (n / 10) ++ [digC n]
termination_by n
decreasing_by omega
theorem mdig_zero : mdig 0 = [] := by rw [mdig]; rfl
theorem mdig_step (n : Nat) (h : n ≠ 0) : mdig n = mdig (n / 10) ++ [digC n] := by rw [mdig, dif_neg h]
theorem mdig_len (n : Nat) : ∀ k, n < 10 ^ k → (mdig n).length ≤ k := by
  induction n using Nat.strongRecOn with
  | _ n ih =>
    intro k hk
    by_cases h : n = 0
    · subst h; rw [mdig_zero]; exact Nat.zero_le _
    · rw [mdig_step n h]
      cases k with
      | zero => simp at hk; omega
      | succ k =>
        have := ih (n / 10) (by omega) k (by rw [Nat.pow_succ] at hk; omega)
        simp; omega
def mtx (n : Nat) : List UInt8 := 109 :: mdig n

end Go.Proofs.Ytkdodamdjajbiaa
