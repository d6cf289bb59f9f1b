/- The decimal text of whatever number: some text, and not a long one. -/
import Derived.Test.YtiiechnbionhnaaTgDec3
namespace Go.Proofs.Ytiiechnbionhnaa
open Go.RowKit Tg
set_option maxRecDepth 100000

theorem wrapT_eq (n : Int) : IntKind.i64.wrap n = if 9223372036854775808 ≤ n % 18446744073709551616 then n % 18446744073709551616 - 18446744073709551616 else n % 18446744073709551616 := by
  simp [IntKind.wrap, IntKind.bits, IntKind.signed]
theorem wrapT_bd (n : Int) : -9223372036854775808 ≤ IntKind.i64.wrap n ∧ IntKind.i64.wrap n ≤ 9223372036854775807 := by
  rw [wrapT_eq]
  by_cases h : 9223372036854775808 ≤ n % 18446744073709551616
  · rw [if_pos h]; omega
  · rw [if_neg h]; omega
theorem wrapT_id {n : Int} (h1 : -9223372036854775808 ≤ n) (h2 : n ≤ 9223372036854775807) : IntKind.i64.wrap n = n := by
  rw [wrapT_eq]
  by_cases h : 9223372036854775808 ≤ n % 18446744073709551616
  · rw [if_pos h]; omega
  · rw [if_neg h]; omega
/-- how many digits there may be yet -/
def QT (j : Nat) (k : Int) : Prop := j = 0 ∨ (1 ≤ j ∧ k.natAbs * 10 ^ (j - 1) ≤ 9223372036854775808)
theorem QT_bd {j : Nat} {k : Int} (h : QT j k) (hk : k ≠ 0) : j ≤ 19 := by
  rcases h with rfl | ⟨h1, h2⟩
  · omega
  · by_cases hj : j ≤ 19
    · exact hj
    · have h3 : 10 ^ 19 ≤ 10 ^ (j - 1) := Nat.pow_le_pow_right (by omega) (by omega)
      have h4 : 1 * 10 ^ (j - 1) ≤ k.natAbs * 10 ^ (j - 1) := Nat.mul_le_mul_right _ (by omega)
      omega
theorem tdiv_abs (k : Int) : (k.tdiv 10).natAbs = k.natAbs / 10 := by rw [Int.natAbs_tdiv]; rfl
theorem QT_next {j : Nat} {k : Int} (h : QT j k) (_hk : k ≠ 0) : QT (j + 1) (IntKind.i64.wrap (k.tdiv 10)) ∧ (IntKind.i64.wrap (k.tdiv 10)).natAbs < k.natAbs := by
  have ha := tdiv_abs k
  have hb := wrapT_bd (k.tdiv 10)
  by_cases hs : k.natAbs ≤ 9223372036854775808
  · have e : IntKind.i64.wrap (k.tdiv 10) = k.tdiv 10 := wrapT_id (by omega) (by omega)
    rw [e]
    refine ⟨.inr ⟨by omega, ?_⟩, by omega⟩
    rcases h with rfl | ⟨h1, h2⟩
    · rw [ha]; simp; omega
    · have e2 : 10 ^ (j + 1 - 1) = 10 ^ (j - 1) * 10 := by rw [← Nat.pow_succ]; congr 1; omega
      have h3 : k.natAbs / 10 * 10 ≤ k.natAbs := Nat.div_mul_le_self _ _
      have h4 := Nat.mul_le_mul_right (10 ^ (j - 1)) h3
      rw [ha, e2]
      have e3 : k.natAbs / 10 * (10 ^ (j - 1) * 10) = k.natAbs / 10 * 10 * 10 ^ (j - 1) := by
        rw [Nat.mul_comm (10 ^ (j - 1)) 10, Nat.mul_assoc]
      omega
  · rcases h with rfl | ⟨h1, h2⟩
    · refine ⟨.inr ⟨by omega, ?_⟩, by omega⟩
      simp; omega
    · exfalso
      have h3 : 1 ≤ 10 ^ (j - 1) := Nat.one_le_pow _ _ (by omega)
      have h4 : k.natAbs * 1 ≤ k.natAbs * 10 ^ (j - 1) := Nat.mul_le_mul_left _ h3
      omega

set_option maxHeartbeats 800000 in
theorem dec_tot (n : Int) (w : World) :
    Calls Try.prog 57 #[.int .i64 n] w fun e w' => ∃ l : List UInt8, e = .returned (.string ⟨l.toArray⟩) ∧ l.length ≤ 22 ∧ w' = w := by
  by_cases h0 : n = 0
  · subst h0
    go_enter Try.func57, Try.ntmps57
    go_wp2
    go_ret
    exact ⟨[48], rfl, by simp, rfl⟩
  · have hne : (n == 0) = false := by simpa using h0
    go_enter Try.func57, Try.ntmps57
    go_wp2
    go_loop [3, 4, 5] (fun o m _ => ∃ (k : Int) (l : List UInt8), m = .int .i64 k ∧ o = .string ⟨l.toArray⟩ ∧ l.length ≤ 20 ∧ QT l.length k) (fun _ m _ => (intOf m).natAbs)
    case atStart => exact ⟨n, [], rfl, rfl, by simp, .inl rfl⟩
    case round =>
      obtain ⟨k, l, rfl, rfl, hl, hq⟩ := hrel
      by_cases hk0 : k = 0
      · subst hk0
        clear hq
        by_cases hn : n < 0
        · go_wp2
          go_ret
          exact ⟨45 :: l, by rw [show (⟨#[45]⟩ : ByteArray) = ⟨[45].toArray⟩ from rfl, ba_append]; rfl, by simp; omega, rfl⟩
        · go_wp2
          go_ret
          exact ⟨l, rfl, by omega, rfl⟩
      · have kne : (k != 0) = true := by simpa using hk0
        have hb := QT_bd hq hk0
        obtain ⟨hq1, hq2⟩ := QT_next hq hk0
        obtain ⟨k2, hk2⟩ : ∃ x, IntKind.i64.wrap (k.tdiv 10) = x := ⟨_, rfl⟩
        rw [hk2] at hq1 hq2
        have HQ1 : Hid _ := hq1
        have HQ2 : Hid (k2.natAbs < k.natAbs) := hq2
        have hr : (k.tmod 10).natAbs < 10 := by
          rw [Int.natAbs_tmod]; exact Nat.mod_lt _ (by decide)
        obtain ⟨r, hre⟩ : ∃ r, k.tmod 10 = r := ⟨_, rfl⟩
        rw [hre] at hr
        clear hq hq1 hq2
        by_cases hs : r < 0
        · obtain ⟨d, hd⟩ : ∃ d : Nat, r = -(d : Int) := ⟨r.natAbs, by omega⟩
          subst hd
          have hd9 : d < 10 := by omega
          have hd0 : 0 < d := by omega
          have hw : IntKind.i64.wrap (-(d : Int)) = -(d : Int) := wrapT_id (by omega) (by omega)
          clear hr
          go_wp2
          go_round
          case rel => exact ⟨k2, UInt8.ofNat (48 + d) :: l, by rfl, by rw [dig_piece _ _ hd9], by simp; omega, HQ1.out⟩
          case measure => simp only [intOf]; exact HQ2.out
        · obtain ⟨d, hd⟩ : ∃ d : Nat, r = (d : Int) := ⟨r.natAbs, by omega⟩
          subst hd
          have hd9 : d < 10 := by omega
          clear hr
          go_wp2
          go_round
          case rel => exact ⟨k2, UInt8.ofNat (48 + d) :: l, by rfl, by rw [dig_piece _ _ hd9], by simp; omega, HQ1.out⟩
          case measure => simp only [intOf]; exact HQ2.out

end Go.Proofs.Ytiiechnbionhnaa
