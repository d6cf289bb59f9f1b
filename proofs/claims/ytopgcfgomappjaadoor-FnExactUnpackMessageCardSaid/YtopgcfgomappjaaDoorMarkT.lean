/- The text that the exact laws lay as a mark. -/
import Derived.Test.YtopgcfgomappjaaDoorBase
import Derived.Test.YtopgcfgomappjaaDoorBy
import Derived.Test.YtopgcfgomappjaaDoorFBytes
import Derived.Handy
namespace Go.Proofs.YtopgcfgomappjaaDoor
open Go.RowKit

def digC (m : Nat) : UInt8 := UInt8.ofNat (48 + m % 10)
theorem digC_nat (m : Nat) : (digC m).toNat = 48 + m % 10 := by unfold digC; rw [UInt8.toNat_ofNat']; omega
def mdig (n : Nat) : List UInt8 := if _h : n = 0 then [] else mdig (n / 10) ++ [digC n]
termination_by n
decreasing_by omega
theorem mdig_zero : mdig 0 = [] := by rw [mdig]; rfl
theorem mdig_step (n : Nat) (h : n ≠ 0) : mdig n = mdig (n / 10) ++ [digC n] := by rw [mdig, dif_neg h]
theorem mdig_len (n : Nat) : ∀ k, n < 10 ^ k → (mdig n).length ≤ k := by
  induction n using Nat.strongRecOn with
  | _ n ih =>
    intro k hk
    by_cases h : n = 0
    · subst h; rw [mdig_zero]; exact Nat.zero_le _
    · rw [mdig_step n h]
      cases k with
      | zero => simp at hk; omega
      | succ k =>
        have := ih (n / 10) (by omega) k (by rw [Nat.pow_succ] at hk; omega)
        simp; omega
def mtx (n : Nat) : List UInt8 := 109 :: mdig n

theorem dig_conv (m : Nat) (w : World) : (convert 65 9 (.slice (some ⟨w.heap.size, 0, none⟩) 1 1)).run Tryd.prog (w.alloc (.cells #[.int .u8 (48 + (m : Int) % 10)] 5)) = .ok (.string ⟨[digC m].toArray⟩) (w.alloc (.cells #[.int .u8 (48 + (m : Int) % 10)] 5)) := by
  refine text_own (base := w.heap.size) (n := 1) ?_
  have h := World.ownsRow_lit (e := 5) (size := 1) w #[.int .u8 (48 + (m : Int) % 10)] 1 (Nat.le_refl _) (by unfold maxLen; omega) rfl
  have e : [digC m].map cell = #[Value.int .u8 (48 + (m : Int) % 10)].toList := by
    simp [cell, digC_nat]
  rw [e]
  exact h

set_option maxHeartbeats 800000 in
theorem markText_any (n : Nat) (w : World) (h0 : 0 < n) (hn : n ≤ 1099511627776) :
    Calls Tryd.prog 63 #[.int .i64 n] w fun e w' => e = .returned (.string ⟨(mtx n).toArray⟩) ∧ Below w.heap.size w w' := by
  go_enter Tryd.func63, Tryd.ntmps63
  go_wp2
  go_loopw [0, 3] (fun k o wr => ∃ (m : Nat) (l : List UInt8), m ≤ n ∧ k = .int .i64 m ∧ o = .string ⟨l.toArray⟩ ∧ mdig n = mdig m ++ l ∧ Below w.heap.size w wr ) (fun k _ _ => (intOf k).toNat)
  case atStart => exact ⟨n, [], Nat.le_refl _, rfl, rfl, by simp, Below.refl _ _⟩
  case round =>
    obtain ⟨m, l, hm, rfl, rfl, hd, hbr⟩ := hrel
    have hml := mdig_len n 13 (by omega)
    have hll : l.length ≤ 13 := by rw [hd] at hml; simp at hml; omega
    clear hml
    by_cases hz : 0 < m
    · have hst := mdig_step m (by omega)
      have hcv := dig_conv m wr
      have HD : Hid (mdig n = mdig (m / 10) ++ (digC m :: l)) := by rw [Hid, hd, hst, List.append_assoc]; rfl
      have HM : Hid (((m / 10 : Nat) : Int) = (m : Int) / 10) := by rw [Hid]; omega
      clear hst hd
      go_wp2
      go_roundw
      case rel => exact ⟨m / 10, digC m :: l, by omega, by rw [HM.out], by rw [show (⟨#[digC m]⟩ : ByteArray) = ⟨[digC m].toArray⟩ from rfl, ba_append]; rfl, HD.out, hbr.alloc hbr.size _⟩
      case measure => simp [intOf]; omega
    · have hm0 : m = 0 := by omega
      subst hm0
      have HD : Hid (mdig n = l) := by rw [Hid, hd, mdig_zero]; rfl
      clear hd
      go_wp2
      go_ret
      exact ⟨one_str (by rw [mtx, HD.out, show (⟨#[109]⟩ : ByteArray) = ⟨[109].toArray⟩ from rfl, ba_append]; rfl), hbr⟩

end Go.Proofs.YtopgcfgomappjaaDoor
