/- The specification's decimal numeral. -/
import Derived.Test.YtopgcfgomappjaaDoorBase
import Derived.Test.YtopgcfgomappjaaDoorBy
import Derived.Lib.ItoaNum
import Derived.Lib.ItoaLen
import Derived.WalkSpells
import Derived.Outline
namespace Go.Proofs.YtopgcfgomappjaaDoor
open Go.RowKit

/-- the digits of m, none for 0 -/
def low (m : Nat) : List UInt8 := if m = 0 then [] else Lib.decDigits m
theorem low_step (m : Nat) (h : m ≠ 0) : low m = low (m / 10) ++ [UInt8.ofNat (48 + m % 10)] := by
  unfold low
  rw [if_neg h, Lib.decDigits]
  by_cases h1 : m < 10
  · rw [dif_pos h1, if_pos (by omega), Nat.mod_eq_of_lt h1]; rfl
  · rw [dif_neg h1, if_neg (by omega)]

theorem dec_len (a : Nat) (ha : a ≤ 9223372036854775807) : (Lib.decDigits a).length ≤ 21 := by
  have := Lib.itoa_length_le (a : Int) (by omega) (by omega)
  simpa [Lib.itoa, show ¬ (a : Int) < 0 from by omega] using this

theorem dig_one (d : Nat) (h : d < 10) : (⟨#[48, 49, 50, 51, 52, 53, 54, 55, 56, 57]⟩ : ByteArray).extract d (d + 1) = ⟨[UInt8.ofNat (48 + d)].toArray⟩ := by
  rcases (show d = 0 ∨ d = 1 ∨ d = 2 ∨ d = 3 ∨ d = 4 ∨ d = 5 ∨ d = 6 ∨ d = 7 ∨ d = 8 ∨ d = 9 from by omega) with rfl | rfl | rfl | rfl | rfl | rfl | rfl | rfl | rfl | rfl <;> decide
theorem dig_piece (d : Nat) (l : List UInt8) (h : d < 10) : (⟨#[48, 49, 50, 51, 52, 53, 54, 55, 56, 57]⟩ : ByteArray).extract d (d + 1) ++ ⟨l.toArray⟩ = ⟨(UInt8.ofNat (48 + d) :: l).toArray⟩ := by
  rw [dig_one d h, ba_append]; rfl

set_option maxHeartbeats 800000 in
theorem dec_up (a : Nat) (w : World) (ha : a ≤ 9223372036854775807) :
    Calls Tryd.prog 39 #[.int .i64 a] w fun e w' => e = .returned (.string ⟨(Lib.decDigits a).toArray⟩) ∧ w' = w := by
  by_cases h0 : a = 0
  · subst h0
    go_enter Tryd.func39, Tryd.ntmps39
    go_wp2
    go_ret
    exact ⟨one_str (by rw [Lib.decDigits_one (by omega)]; rfl), rfl⟩
  · have hne : ((a : Int) == 0) = false := by simp; omega
    have hnn : ¬ (a : Int) < 0 := by omega
    go_enter Tryd.func39, Tryd.ntmps39
    go_wp2
    go_loop [3, 4, 5] (fun o m _ => ∃ (k : Nat) (l : List UInt8), k ≤ a ∧ m = .int .i64 k ∧ o = .string ⟨l.toArray⟩ ∧ Lib.decDigits a = low k ++ l) (fun _ m _ => (intOf m).toNat)
    case atStart => exact ⟨a, [], Nat.le_refl _, rfl, rfl, by simp [low, h0]⟩
    case round =>
      obtain ⟨k, l, hk, rfl, rfl, hd⟩ := hrel
      by_cases hk0 : k = 0
      · subst hk0
        have HD : Hid _ := hd
        clear hd
        go_wp2
        go_ret
        exact ⟨one_str (by have := HD.out; simp [low] at this; rw [this]), rfl⟩
      · have kne : ((k : Int) != 0) = true := by simp; omega
        have HD : Hid (Lib.decDigits a = low (k / 10) ++ (UInt8.ofNat (48 + k % 10) :: l)) := by rw [Hid, hd, low_step k hk0]; simp
        have hl : l.length ≤ 21 := by have h1 := dec_len a ha; rw [hd] at h1; simp at h1; omega
        clear hd
        go_wp2
        go_round
        case rel => exact ⟨k / 10, UInt8.ofNat (48 + k % 10) :: l, by omega, by go_num, by rw [dig_piece _ _ (by omega)], HD.out⟩
        case measure => simp [intOf]; omega

end Go.Proofs.YtopgcfgomappjaaDoor
