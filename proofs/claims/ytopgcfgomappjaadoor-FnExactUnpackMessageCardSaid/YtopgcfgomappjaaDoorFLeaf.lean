/- The contracts of the small functions of chapter 3 (fields) over a text's bytes: what each returns for every argument. -/
import Derived.Test.YtopgcfgomappjaaDoorBase
import Derived.Test.YtopgcfgomappjaaDoorBy
namespace Go.Proofs.YtopgcfgomappjaaDoor
open Go.RowKit

def inB (x a b : Int) : Bool := decide (a ≤ x ∧ x ≤ b)
theorem inB_pos {x a b : Int} (h : a ≤ x) (g : x ≤ b) : inB x a b = true := by simp [inB, h, g]
theorem inB_neg {x a b : Int} (h : x < a ∨ b < x) : inB x a b = false := by simp [inB]; omega

set_option maxHeartbeats 400000 in
theorem in_any (x a b : Int) (w : World) :
    Calls Tryd.prog 44 #[.int .i64 x, .int .i64 a, .int .i64 b] w fun e w' => e = .returned (.bool (inB x a b)) ∧ w' = w := by
  by_cases h1 : a ≤ x
  · by_cases h2 : x ≤ b
    · go_enter Tryd.func44, Tryd.ntmps44
      go_wp2
      go_ret
      exact ⟨by simp [inB, h1, h2], rfl⟩
    · go_enter Tryd.func44, Tryd.ntmps44
      go_wp2
      go_ret
      exact ⟨by simp [inB, h1, h2], rfl⟩
  · go_enter Tryd.func44, Tryd.ntmps44
    go_wp2
    go_ret
    exact ⟨by simp [inB]; omega, rfl⟩

theorem in_byte (c : UInt8) (a b : Nat) : inB (c.toNat : Int) a b = (decide (a ≤ c.toNat) && decide (c.toNat ≤ b)) := by
  unfold inB
  by_cases h1 : a ≤ c.toNat <;> by_cases h2 : c.toNat ≤ b <;> simp [h1, h2]

set_option maxHeartbeats 400000 in
theorem iWithin_any (l : List UInt8) (a b : Nat) (w : World) (hl : l.length ≤ 1099511627776) :
    Calls Tryd.prog 97 #[.string ⟨l.toArray⟩, .int .u8 a, .int .u8 b] w fun e w' => e = .returned (.bool (within a b l)) ∧ w' = w := by
  go_enter Tryd.func97, Tryd.ntmps97
  go_wp2
  go_loop [7, 10] (fun _ i => ∃ k : Nat, k ≤ l.length ∧ i = .int .i64 k ∧ within a b l = within a b (l.drop k)) (fun _ i => l.length - (intOf i).toNat)
  case atStart => exact ⟨0, Nat.zero_le _, rfl, rfl⟩
  case round =>
    obtain ⟨k, hk, rfl, ht⟩ := hrel
    by_cases hlt : k < l.length
    · have hki : (k : Int) < (l.length : Int) := by omega
      have hs := within_step a b l k hlt
      obtain ⟨c, hc⟩ : ∃ c, (⟨l.toArray⟩ : ByteArray)[k]'(by rw [ba_size]; exact hlt) = c := ⟨_, rfl⟩
      rw [(byte_at l k hlt).trans hc] at hs
      have HS : Hid _ := ht.trans hs
      clear hs ht
      by_cases h1 : a ≤ c.toNat
      · have h1' : (a : Int) ≤ (c.toNat : Int) := by omega
        by_cases h2 : c.toNat ≤ b
        · have h2' : (c.toNat : Int) ≤ (b : Int) := by omega
          have HY : Hid (within a b l = within a b (l.drop (k + 1))) := by rw [Hid, HS.out]; simp [h1, h2]
          clear HS
          go_wp2
          go_round
          case rel => exact ⟨k + 1, by omega, by go_num, HY.out⟩
          case measure => simp [intOf]; omega
        · have h2' : (b : Int) < (c.toNat : Int) := by omega
          have HN : Hid (within a b l = false) := by rw [Hid, HS.out]; simp [h2]
          clear HS
          go_wp2
          go_ret
          exact ⟨one_bool HN.out.symm, rfl⟩
      · have h1' : (c.toNat : Int) < (a : Int) := by omega
        have HN : Hid (within a b l = false) := by rw [Hid, HS.out]; simp [h1]
        clear HS
        go_wp2
        go_ret
        exact ⟨one_bool HN.out.symm, rfl⟩
    · have hke : k = l.length := by omega
      subst hke
      have HE : Hid (within a b l = true) := by rw [Hid, ht, within_end]
      clear ht
      go_wp2
      go_ret
      exact ⟨one_bool HE.out.symm, rfl⟩

set_option maxHeartbeats 400000 in
theorem iDigits_any (l : List UInt8) (w : World) (hl : l.length ≤ 1099511627776) :
    Calls Tryd.prog 81 #[.string ⟨l.toArray⟩] w fun e w' => e = .returned (.bool (within 48 57 l)) ∧ w' = w := by
  go_enter Tryd.func81, Tryd.ntmps81
  go_wp2_with fail
  refine (iWithin_any l 48 57 _ hl).mono ?_
  rintro e w1 ⟨rfl, hw⟩
  subst hw
  go_wp2
  go_ret
  exact ⟨rfl, rfl⟩

set_option maxHeartbeats 400000 in
theorem iPlain_any (l : List UInt8) (w : World) (hl : l.length ≤ 1099511627776) :
    Calls Tryd.prog 152 #[.string ⟨l.toArray⟩] w fun e w' => e = .returned (.bool (within 32 126 l)) ∧ w' = w := by
  go_enter Tryd.func152, Tryd.ntmps152
  go_wp2_with fail
  refine (iWithin_any l 32 126 _ hl).mono ?_
  rintro e w1 ⟨rfl, hw⟩
  subst hw
  go_wp2
  go_ret
  exact ⟨rfl, rfl⟩

set_option maxHeartbeats 400000 in
theorem sPlain_any (l : List UInt8) (w : World) (hl : l.length ≤ 1099511627776) :
    Calls Tryd.prog 66 #[.string ⟨l.toArray⟩] w fun e w' => e = .returned (.bool (within 32 126 l)) ∧ w' = w := by
  go_enter Tryd.func66, Tryd.ntmps66
  go_wp2
  go_loop [3] (fun i => ∃ k : Nat, k ≤ l.length ∧ i = .int .i64 k ∧ within 32 126 l = within 32 126 (l.drop k)) (fun i => l.length - (intOf i).toNat)
  case atStart => exact ⟨0, Nat.zero_le _, rfl, rfl⟩
  case round =>
    obtain ⟨k, hk, rfl, ht⟩ := hrel
    by_cases hlt : k < l.length
    · have hki : (k : Int) < (l.length : Int) := by omega
      have hs := within_step 32 126 l k hlt
      obtain ⟨c, hc⟩ : ∃ c, (⟨l.toArray⟩ : ByteArray)[k]'(by rw [ba_size]; exact hlt) = c := ⟨_, rfl⟩
      rw [(byte_at l k hlt).trans hc, ← in_byte c 32 126] at hs
      have HS : Hid _ := ht.trans hs
      have hwc := wrap_byte c
      clear hs ht
      cases hin : inB (c.toNat : Int) 32 126
      · have HN : Hid (within 32 126 l = false) := by rw [Hid, HS.out]; simp [hin]
        clear HS
        go_wp2_with fail
        refine (in_any _ _ _ _).mono ?_
        rintro e w1 ⟨rfl, hw1⟩
        subst hw1
        rw [hin]
        go_wp2
        go_ret
        exact ⟨one_bool HN.out.symm, rfl⟩
      · have HY : Hid (within 32 126 l = within 32 126 (l.drop (k + 1))) := by rw [Hid, HS.out]; simp [hin]
        clear HS
        go_wp2_with fail
        refine (in_any _ _ _ _).mono ?_
        rintro e w1 ⟨rfl, hw1⟩
        subst hw1
        rw [hin]
        go_wp2
        go_round
        case rel => exact ⟨k + 1, by omega, by go_num, HY.out⟩
        case measure => simp [intOf]; omega
    · have hke : k = l.length := by omega
      subst hke
      have HE : Hid (within 32 126 l = true) := by rw [Hid, ht, within_end]
      clear ht
      go_wp2
      go_ret
      exact ⟨one_bool HE.out.symm, rfl⟩

set_option maxHeartbeats 400000 in
theorem sDigits_any (l : List UInt8) (w : World) (hl : l.length ≤ 1099511627776) :
    Calls Tryd.prog 30 #[.string ⟨l.toArray⟩] w fun e w' => e = .returned (.bool (within 48 57 l)) ∧ w' = w := by
  go_enter Tryd.func30, Tryd.ntmps30
  go_wp2
  go_loop [3] (fun i => ∃ k : Nat, k ≤ l.length ∧ i = .int .i64 k ∧ within 48 57 l = within 48 57 (l.drop k)) (fun i => l.length - (intOf i).toNat)
  case atStart => exact ⟨0, Nat.zero_le _, rfl, rfl⟩
  case round =>
    obtain ⟨k, hk, rfl, ht⟩ := hrel
    by_cases hlt : k < l.length
    · have hki : (k : Int) < (l.length : Int) := by omega
      have hs := within_step 48 57 l k hlt
      obtain ⟨c, hc⟩ : ∃ c, (⟨l.toArray⟩ : ByteArray)[k]'(by rw [ba_size]; exact hlt) = c := ⟨_, rfl⟩
      rw [(byte_at l k hlt).trans hc, ← in_byte c 48 57] at hs
      have HS : Hid _ := ht.trans hs
      have hwc := wrap_byte c
      clear hs ht
      cases hin : inB (c.toNat : Int) 48 57
      · have HN : Hid (within 48 57 l = false) := by rw [Hid, HS.out]; simp [hin]
        clear HS
        go_wp2_with fail
        refine (in_any _ _ _ _).mono ?_
        rintro e w1 ⟨rfl, hw1⟩
        subst hw1
        rw [hin]
        go_wp2
        go_ret
        exact ⟨one_bool HN.out.symm, rfl⟩
      · have HY : Hid (within 48 57 l = within 48 57 (l.drop (k + 1))) := by rw [Hid, HS.out]; simp [hin]
        clear HS
        go_wp2_with fail
        refine (in_any _ _ _ _).mono ?_
        rintro e w1 ⟨rfl, hw1⟩
        subst hw1
        rw [hin]
        go_wp2
        go_round
        case rel => exact ⟨k + 1, by omega, by go_num, HY.out⟩
        case measure => simp [intOf]; omega
    · have hke : k = l.length := by omega
      subst hke
      have HE : Hid (within 48 57 l = true) := by rw [Hid, ht, within_end]
      clear ht
      go_wp2
      go_ret
      exact ⟨one_bool HE.out.symm, rfl⟩

end Go.Proofs.YtopgcfgomappjaaDoor
