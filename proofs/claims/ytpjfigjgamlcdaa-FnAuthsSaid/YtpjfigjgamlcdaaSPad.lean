/- The contract of the specification's PadNum: what it returns for every two numbers. -/
import Derived.Test.YtpjfigjgamlcdaaLeaf
import Derived.Test.YtpjfigjgamlcdaaPadP
import Derived.Test.YtpjfigjgamlcdaaDec3
import Derived.Lib.Strings
namespace Go.Proofs.Ytpjfigjgamlcdaa
open Go.RowKit

set_option maxRecDepth 100000 in
set_option maxHeartbeats 400000 in
theorem l01Ten_any (n : Nat) (w : World) (hn : n ≤ 18) :
    Calls Try.prog 70 #[.int .i64 n] w fun e w' => e = .returned (.int .i64 (10 ^ n : Nat)) ∧ w' = w := by
  go_enter Try.func70, Try.ntmps70
  go_wp2
  go_loop [3, 4] (fun p i => ∃ k : Nat, k ≤ n ∧ i = .int .i64 k ∧ p = .int .i64 (10 ^ k : Nat)) (fun _ i => n - (intOf i).toNat)
  case atStart => exact ⟨0, Nat.zero_le _, rfl, rfl⟩
  case round =>
    obtain ⟨k, hk, rfl, rfl⟩ := hrel
    by_cases hlt : k < n
    · have hki : (k : Int) < (n : Int) := by omega
      have hp : 10 ^ k ≤ 10 ^ 17 := Nat.pow_le_pow_right (by omega) (by omega)
      have hs : 10 ^ (k + 1) = 10 ^ k * 10 := Nat.pow_succ 10 k
      obtain ⟨x, hx⟩ : ∃ x : Nat, 10 ^ k = x := ⟨_, rfl⟩
      rw [hx] at hp hs ⊢
      have HS : Hid (((10 ^ (k + 1) : Nat) : Int) = 10 * (x : Int)) := by rw [Hid, hs]; omega
      have hxb : x ≤ 100000000000000000 := by omega
      clear hs hx hp
      go_wp2
      go_round
      case rel => exact ⟨k + 1, by omega, by go_num, by rw [HS.out]⟩
      case measure => simp [intOf]; omega
    · have hke : k = n := by omega
      subst hke
      obtain ⟨x, hx⟩ : ∃ x : Nat, 10 ^ k = x := ⟨_, rfl⟩
      rw [hx]
      have HX : Hid _ := hx
      clear hx
      go_wp2
      go_ret
      exact ⟨one_int (by rw [← HX.out]; simp), rfl⟩

def strLen : Value → Nat
  | .string b => b.size
  | _ => 0
theorem strLen_list (l : List UInt8) : strLen (.string ⟨l.toArray⟩) = l.length := by simp [strLen, ByteArray.size]

set_option maxRecDepth 100000 in
set_option maxHeartbeats 800000 in
theorem sPadNum_any (x n : Int) (w : World) :
    Calls Try.prog 57 #[.int .i64 x, .int .i64 n] w fun e w' => e = .returned (.string ⟨(padT x n).toArray⟩) ∧ Below w.heap.size w w' := by
  cases h1 : inB n 1 18
  · have h1o : ¬ (1 ≤ n ∧ n ≤ 18) := of_decide_eq_false h1
    have HN : Hid _ := padT_no (padOk_no1 (x := x) h1o)
    go_enter Try.func57, Try.ntmps57
    go_wp2_with fail
    refine (in_any _ _ _ _).mono ?_
    rintro e w1 ⟨rfl, hw1⟩
    subst hw1
    rw [h1]
    go_wp2
    go_ret
    exact ⟨one_str (by rw [HN.out]), Below.refl _ _⟩
  · have h1i : 1 ≤ n ∧ n ≤ 18 := of_decide_eq_true h1
    have HI : Hid _ := h1
    obtain ⟨m, rfl⟩ := Int.eq_ofNat_of_zero_le (show 0 ≤ n by omega)
    have hp : 10 ^ m ≤ 10 ^ 18 := Nat.pow_le_pow_right (by omega) (by omega)
    have hp0 : 0 < 10 ^ m := Nat.pow_pos (by omega)
    have hm18 : m ≤ 18 := by omega
    have HM1 : Hid (1 ≤ m) := by rw [Hid]; omega
    clear h1
    obtain ⟨y, hy⟩ : ∃ y : Nat, 10 ^ m = y := ⟨_, rfl⟩
    rw [hy] at hp hp0
    have hyb : y ≤ 1000000000000000000 := by omega
    have HYM : Hid _ := hy
    clear hy hp
    cases h2 : inB x 0 ((y : Int) - 1)
    · have h2o : ¬ (0 ≤ x ∧ x ≤ (y : Int) - 1) := of_decide_eq_false h2
      have HN : Hid _ := padT_no (padOk_no2 (x := x) (n := m) (by rw [Int.toNat_natCast, HYM.out]; omega))
      go_enter Try.func57, Try.ntmps57
      go_wp2_with fail
      refine (in_any _ _ _ _).mono ?_
      rintro e w1 ⟨rfl, hw1⟩
      subst hw1
      rw [HI.out]
      go_wp2_with fail
      refine (l01Ten_any m _ hm18).mono ?_
      rintro e w1 ⟨rfl, hw1⟩
      subst hw1
      rw [HYM.out]
      go_wp2_with fail
      refine (in_any _ _ _ _).mono ?_
      rintro e w1 ⟨rfl, hw1⟩
      subst hw1
      rw [h2]
      go_wp2
      go_ret
      exact ⟨one_str (by rw [HN.out]), Below.refl _ _⟩
    · have h2i : 0 ≤ x ∧ x ≤ (y : Int) - 1 := of_decide_eq_true h2
      obtain ⟨a, rfl⟩ := Int.eq_ofNat_of_zero_le h2i.1
      have H2 : Hid _ := h2
      have hay : a < y := by omega
      have HY : Hid (padT a m = padN a m) := padT_yes HM1.out hm18 (by rw [HYM.out]; exact hay)
      have hsl := dec_len_pow m a HM1.out (by rw [HYM.out]; exact hay)
      unfold padN at HY
      clear h2
      go_enter Try.func57, Try.ntmps57
      go_wp2_with fail
      refine (in_any _ _ _ _).mono ?_
      rintro e w1 ⟨rfl, hw1⟩
      subst hw1
      rw [HI.out]
      go_wp2_with fail
      refine (l01Ten_any m _ hm18).mono ?_
      rintro e w1 ⟨rfl, hw1⟩
      subst hw1
      rw [HYM.out]
      go_wp2_with fail
      refine (in_any _ _ _ _).mono ?_
      rintro e w1 ⟨rfl, hw1⟩
      subst hw1
      rw [H2.out]
      clear H2 HI
      go_wp2_with fail
      refine (dec_up a _ (by omega)).mono ?_
      rintro e w1 ⟨rfl, hw1⟩
      subst hw1
      generalize Lib.decDigits a = s at hsl HY
      go_wp2
      go_loop [5] (fun v => ∃ k : Nat, k ≤ m - s.length ∧ v = .string ⟨(List.replicate k 48 ++ s).toArray⟩) (fun v => m - strLen v)
      case atStart => exact ⟨0, Nat.zero_le _, rfl⟩
      case round =>
        obtain ⟨k, hk, rfl⟩ := hrel
        have hsz : (List.replicate k (48 : UInt8) ++ s).length = k + s.length := by simp
        have HS2 : Hid ((⟨#[48]⟩ : ByteArray) ++ ⟨(List.replicate k 48 ++ s).toArray⟩ = ⟨(List.replicate (k + 1) 48 ++ s).toArray⟩) := ba_append [48] (List.replicate k 48 ++ s)
        have HS3 : Hid (strLen (.string ((⟨#[48]⟩ : ByteArray) ++ ⟨(List.replicate k 48 ++ s).toArray⟩)) = k + 1 + s.length) := by rw [Hid, HS2.out, strLen_list]; simp
        have HS4 : Hid (strLen (.string ⟨(List.replicate k 48 ++ s).toArray⟩) = k + s.length) := by rw [Hid, strLen_list, hsz]
        have HK : Hid (k = m - s.length → padT a m = List.replicate k 48 ++ s) := fun e => by rw [e]; exact HY.out
        generalize List.replicate k (48 : UInt8) ++ s = p at hsz HS2 HS3 HS4 HK
        have hpl : p.length ≤ 25 := by omega
        by_cases hlt : p.length < m
        · have hlt' : (p.length : Int) < (m : Int) := by omega
          have hkd : k + 1 ≤ m - s.length := by omega
          have hme : m - (k + 1 + s.length) < m - (k + s.length) := by omega
          clear hsz
          go_wp2
          go_round
          case rel => exact ⟨k + 1, hkd, by rw [HS2.out]⟩
          case measure => rw [HS3.out, HS4.out]; exact hme
        · have hlt' : (m : Int) ≤ (p.length : Int) := by omega
          have HP : Hid _ := HK.out (by omega)
          clear hsz HK HS2 HS3 HS4 hk
          go_wp2
          go_ret
          exact ⟨one_str (by rw [HP.out]), Below.refl _ _⟩

end Go.Proofs.Ytpjfigjgamlcdaa
