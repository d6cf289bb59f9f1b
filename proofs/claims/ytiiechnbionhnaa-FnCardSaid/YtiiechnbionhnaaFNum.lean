/- The contracts of NumOf, the program's and the specification's. -/
import Derived.Test.YtiiechnbionhnaaFLeaf
namespace Go.Proofs.Ytiiechnbionhnaa
open Go.RowKit

set_option maxHeartbeats 400000 in
theorem iNumOf_any (l : List UInt8) (w : World) (hl : l.length ≤ 1099511627776) :
    Calls Try.prog 29 #[.string ⟨l.toArray⟩] w fun e w' => e = .returned (.int .i64 (numOf l)) ∧ w' = w := by
  by_cases hbig : 18 < l.length
  · have HN : Hid _ := numOf_no1 hbig
    have hbi : (18 : Int) < (l.length : Int) := by omega
    go_enter Try.func29, Try.ntmps29
    go_wp2
    go_ret
    exact ⟨one_int HN.out.symm, rfl⟩
  · have hbi : (l.length : Int) ≤ 18 := by omega
    have hl18 : l.length ≤ 18 := by omega
    cases hd : within 48 57 l
    · have HN : Hid _ := numOf_no2 hd
      go_enter Try.func29, Try.ntmps29
      go_wp2_with fail
      refine (iDigits_any _ _ hl).mono ?_
      rintro e w1 ⟨rfl, hw⟩
      subst hw
      rw [hd]
      go_wp2
      go_ret
      exact ⟨one_int HN.out.symm, rfl⟩
    · have HY : Hid _ := numOf_yes hl18 hd
      have HB : Hid _ := val_bound l hd
      have HD : Hid (within 48 57 l = true) := hd
      go_enter Try.func29, Try.ntmps29
      go_wp2_with fail
      refine (iDigits_any _ _ hl).mono ?_
      rintro e w1 ⟨rfl, hw⟩
      subst hw
      rw [hd]
      clear hd
      go_wp2
      go_loop [3, 4, 15] (fun v _ i => ∃ k : Nat, k ≤ l.length ∧ i = .int .i64 k ∧ v = .int .i64 (val 0 (l.take k))) (fun _ _ i => l.length - (intOf i).toNat)
      case atStart => exact ⟨0, Nat.zero_le _, rfl, rfl⟩
      case round =>
        obtain ⟨k, hk, rfl, rfl⟩ := hrel
        have hb := HB.out k hk
        have hp : 10 ^ k ≤ 10 ^ 18 := Nat.pow_le_pow_right (by omega) (by omega)
        by_cases hlt : k < l.length
        · have hki : (k : Int) < (l.length : Int) := by omega
          have hp1 : 10 ^ k ≤ 10 ^ 17 := Nat.pow_le_pow_right (by omega) (by omega)
          have hw := within_at HD.out hlt
          have hv := val_take l k hlt
          obtain ⟨c, hc⟩ : ∃ c, (⟨l.toArray⟩ : ByteArray)[k]'(by rw [ba_size]; exact hlt) = c := ⟨_, rfl⟩
          rw [(byte_at l k hlt).trans hc] at hw hv
          obtain ⟨x, hx⟩ : ∃ x, val 0 (l.take k) = x := ⟨_, rfl⟩
          rw [hx] at hb hv ⊢
          have hxb : x ≤ 100000000000000000 := by omega
          have hsi : ((val 0 (l.take (k + 1)) : Nat) : Int) = (x : Int) * 10 + ((c.toNat : Int) - 48) := by omega
          have HV : Hid _ := hsi
          clear hsi hv hx hb hp hp1
          go_wp2
          go_round
          case rel => exact ⟨k + 1, by omega, by go_num, by rw [HV.out]⟩
          case measure => simp [intOf]; omega
        · have hke : k = l.length := by omega
          subst hke
          rw [List.take_of_length_le (Nat.le_refl _)]
          clear hb hp
          go_wp2
          go_ret
          exact ⟨one_int HY.out.symm, rfl⟩

set_option maxHeartbeats 400000 in
theorem sNumOf_any (l : List UInt8) (w : World) (hl : l.length ≤ 1099511627776) :
    Calls Try.prog 38 #[.string ⟨l.toArray⟩] w fun e w' => e = .returned (.int .i64 (numOf l)) ∧ w' = w := by
  by_cases hbig : 18 < l.length
  · have HN : Hid _ := numOf_no1 hbig
    have hbi : (18 : Int) < (l.length : Int) := by omega
    go_enter Try.func38, Try.ntmps38
    go_wp2
    go_ret
    exact ⟨one_int HN.out.symm, rfl⟩
  · have hbi : (l.length : Int) ≤ 18 := by omega
    have hl18 : l.length ≤ 18 := by omega
    cases hd : within 48 57 l
    · have HN : Hid _ := numOf_no2 hd
      go_enter Try.func38, Try.ntmps38
      go_wp2_with fail
      refine (sDigits_any _ _ hl).mono ?_
      rintro e w1 ⟨rfl, hw⟩
      subst hw
      rw [hd]
      go_wp2
      go_ret
      exact ⟨one_int HN.out.symm, rfl⟩
    · have HY : Hid _ := numOf_yes hl18 hd
      have HB : Hid _ := val_bound l hd
      have HD : Hid (within 48 57 l = true) := hd
      go_enter Try.func38, Try.ntmps38
      go_wp2_with fail
      refine (sDigits_any _ _ hl).mono ?_
      rintro e w1 ⟨rfl, hw⟩
      subst hw
      rw [hd]
      clear hd
      go_wp2
      go_loop [3, 4] (fun v i => ∃ k : Nat, k ≤ l.length ∧ i = .int .i64 k ∧ v = .int .i64 (val 0 (l.take k))) (fun _ i => l.length - (intOf i).toNat)
      case atStart => exact ⟨0, Nat.zero_le _, rfl, rfl⟩
      case round =>
        obtain ⟨k, hk, rfl, rfl⟩ := hrel
        have hb := HB.out k hk
        have hp : 10 ^ k ≤ 10 ^ 18 := Nat.pow_le_pow_right (by omega) (by omega)
        by_cases hlt : k < l.length
        · have hki : (k : Int) < (l.length : Int) := by omega
          have hp1 : 10 ^ k ≤ 10 ^ 17 := Nat.pow_le_pow_right (by omega) (by omega)
          have hw := within_at HD.out hlt
          have hv := val_take l k hlt
          obtain ⟨c, hc⟩ : ∃ c, (⟨l.toArray⟩ : ByteArray)[k]'(by rw [ba_size]; exact hlt) = c := ⟨_, rfl⟩
          rw [(byte_at l k hlt).trans hc] at hw hv
          obtain ⟨x, hx⟩ : ∃ x, val 0 (l.take k) = x := ⟨_, rfl⟩
          rw [hx] at hb hv ⊢
          have hxb : x ≤ 100000000000000000 := by omega
          have hsi : ((val 0 (l.take (k + 1)) : Nat) : Int) = 10 * (x : Int) + (c.toNat : Int) - 48 := by omega
          have HV : Hid _ := hsi
          clear hsi hv hx hb hp hp1
          go_wp2
          go_round
          case rel => exact ⟨k + 1, by omega, by go_num, by rw [HV.out]⟩
          case measure => simp [intOf]; omega
        · have hke : k = l.length := by omega
          subst hke
          rw [List.take_of_length_le (Nat.le_refl _)]
          clear hb hp
          go_wp2
          go_ret
          exact ⟨one_int HY.out.symm, rfl⟩

end Go.Proofs.Ytiiechnbionhnaa
