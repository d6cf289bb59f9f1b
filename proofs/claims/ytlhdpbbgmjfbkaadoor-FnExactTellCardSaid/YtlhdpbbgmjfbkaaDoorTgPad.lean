/- The contracts of PadNum, the program's and the specification's. -/
import Derived.Test.YtlhdpbbgmjfbkaaDoorTgLeaf
import Derived.Test.YtlhdpbbgmjfbkaaDoorTgTen
import Derived.Test.YtlhdpbbgmjfbkaaDoorTgPadP
import Derived.Test.YtlhdpbbgmjfbkaaDoorTgDec3
import Derived.Test.YtlhdpbbgmjfbkaaDoorShelf
import Derived.Lib.AppendIntMem
import Derived.Lib.Strings
namespace Go.Proofs.YtlhdpbbgmjfbkaaDoor.Tg
open Go.RowKit

theorem repeat_one (n : Nat) : Lib.repeatL [48] n = List.replicate n 48 := by
  induction n with
  | zero => rfl
  | succ n ih => simp [Lib.repeatL, ih, List.replicate_succ]

def Pow10 (w : World) : Prop := Lib.TabIs Tryd.prog w "internal/strconv.uint64pow10" .u64 Lib.pow10Tab
theorem Pow10.below {w w' : World} (h : Pow10 w) (hb : Below w.heap.size w w') : Pow10 w' := Lib.tabBelow_of_tabIs h w' hb

set_option maxRecDepth 100000 in
set_option maxHeartbeats 400000 in
theorem l01Ten_any (n : Nat) (w : World) (hn : n ≤ 18) :
    Calls Tryd.prog 32 #[.int .i64 n] w fun e w' => e = .returned (.int .i64 (10 ^ n : Nat)) ∧ w' = w := by
  go_enter Tryd.func32, Tryd.ntmps32
  go_wp2
  go_loop [3, 4] (fun p i => ∃ k : Nat, k ≤ n ∧ i = .int .i64 k ∧ p = .int .i64 (10 ^ k : Nat)) (fun _ i => n - (intOf i).toNat)
  case atStart => exact ⟨0, Nat.zero_le _, rfl, rfl⟩
  case round =>
    obtain ⟨k, hk, rfl, rfl⟩ := hrel
    by_cases hlt : k < n
    · have hki : (k : Int) < (n : Int) := by omega
      have hp : 10 ^ k ≤ 10 ^ 17 := Nat.pow_le_pow_right (by omega) (by omega)
      have hs : 10 ^ (k + 1) = 10 ^ k * 10 := Nat.pow_succ 10 k
      obtain ⟨x, hx⟩ : ∃ x : Nat, 10 ^ k = x := ⟨_, rfl⟩
      rw [hx] at hp hs ⊢
      have HS : Hid (((10 ^ (k + 1) : Nat) : Int) = 10 * (x : Int)) := by rw [Hid, hs]; omega
      have hxb : x ≤ 100000000000000000 := by omega
      clear hs hx hp
      go_wp2
      go_round
      case rel => exact ⟨k + 1, by omega, by go_num, by rw [HS.out]⟩
      case measure => simp [intOf]; omega
    · have hke : k = n := by omega
      subst hke
      obtain ⟨x, hx⟩ : ∃ x : Nat, 10 ^ k = x := ⟨_, rfl⟩
      rw [hx]
      have HX : Hid _ := hx
      clear hx
      go_wp2
      go_ret
      exact ⟨one_int (by rw [← HX.out]; simp), rfl⟩

set_option maxRecDepth 100000 in
set_option maxHeartbeats 800000 in
theorem iPadNum_any (x n : Int) (w : World) (ht : Pow10 w) :
    Calls Tryd.prog 22 #[.int .i64 x, .int .i64 n] w fun e w' => e = .returned (.string ⟨(padT x n).toArray⟩) ∧ Below w.heap.size w w' := by
  have HT : Hid (Pow10 w) := ht
  clear ht
  by_cases h1 : n < 1
  · have HN : Hid _ := padT_no (padOk_no1 (x := x) (n := n) (by omega))
    go_enter Tryd.func22, Tryd.ntmps22
    go_wp2
    go_ret
    exact ⟨one_str (by rw [HN.out]), Below.refl _ _⟩
  · by_cases h2 : 18 < n
    · have HN : Hid _ := padT_no (padOk_no1 (x := x) (n := n) (by omega))
      go_enter Tryd.func22, Tryd.ntmps22
      go_wp2
      go_ret
      exact ⟨one_str (by rw [HN.out]), Below.refl _ _⟩
    · by_cases h3 : x < 0
      · have HN : Hid _ := padT_no (padOk_no2 (x := x) (n := n) (by omega))
        have h1' : 1 ≤ n := by omega
        have h2' : n ≤ 18 := by omega
        go_enter Tryd.func22, Tryd.ntmps22
        go_wp2
        go_ret
        exact ⟨one_str (by rw [HN.out]), Below.refl _ _⟩
      · obtain ⟨a, rfl⟩ := Int.eq_ofNat_of_zero_le (show 0 ≤ x by omega)
        obtain ⟨m, rfl⟩ := Int.eq_ofNat_of_zero_le (show 0 ≤ n by omega)
        have hm1 : (1 : Int) ≤ (m : Int) := by omega
        have hm2 : (m : Int) ≤ 18 := by omega
        have hp : 10 ^ m ≤ 10 ^ 18 := Nat.pow_le_pow_right (by omega) (by omega)
        clear h1 h2 h3
        by_cases h4 : 10 ^ m ≤ a
        · have HN : Hid _ := padT_no (padOk_no2 (x := a) (n := m) (by rw [Int.toNat_natCast]; omega))
          go_enter Tryd.func22, Tryd.ntmps22
          go_wp2_with fail
          refine (tenTo_any m _ (by omega)).mono ?_
          rintro e w1 ⟨rfl, hw1⟩
          subst hw1
          obtain ⟨y, hy⟩ : ∃ y : Nat, 10 ^ m = y := ⟨_, rfl⟩
          rw [hy] at h4 ⊢
          have h4i : (y : Int) ≤ (a : Int) := by omega
          clear hy hp
          go_wp2
          go_ret
          exact ⟨one_str (by rw [HN.out]), Below.refl _ _⟩
        · have HY : Hid (padT a m = padN a m) := padT_yes (by omega) (by omega) (by omega)
          have hsl := dec_len_pow m a (by omega) (by omega)
          have HI : Hid (Lib.itoa (a : Int) = Lib.decDigits a) := by rw [Hid, Lib.itoa, if_neg (by omega)]; rfl
          unfold padN at HY
          obtain ⟨s, hs⟩ : ∃ s, Lib.decDigits a = s := ⟨_, rfl⟩
          rw [hs] at HY hsl HI
          have hab : a ≤ 1000000000000000000 := by omega
          obtain ⟨y, hy⟩ : ∃ y : Nat, 10 ^ m = y := ⟨_, rfl⟩
          rw [hy] at h4
          have h4i : (a : Int) < (y : Int) := by omega
          have HYM : Hid _ := hy
          clear hs hp hy
          go_enter Tryd.func22, Tryd.ntmps22
          go_wp2_with fail
          refine (tenTo_any m _ (by omega)).mono ?_
          rintro e w1 ⟨rfl, hw1⟩
          subst hw1
          rw [HYM.out]
          go_wp2_with fail
          refine (Tryd.strconv_Itoa _ (by omega) (by omega) _ HT.out).mono ?_
          rintro e w2 ⟨rfl, k, os, rfl⟩
          rw [HI.out]
          have hr : (List.replicate (m - s.length) (48 : UInt8)).length = m - s.length := by simp
          go_wp2_with fail
          rw [show ((m : Int) - (s.length : Int)) = ((m - s.length : Nat) : Int) from by omega]
          refine (Tryd.strings_Repeat ⟨#[48]⟩ (m - s.length) _ (by omega) (by simp [ByteArray.size]; omega)).mono ?_
          rintro e w3 ⟨rfl, b3⟩
          rw [show Lib.repeatL (⟨#[48]⟩ : ByteArray).data.toList (m - s.length) = List.replicate (m - s.length) 48 from repeat_one _]
          generalize List.replicate (m - s.length) (48 : UInt8) = r at hr HY
          go_wp2
          go_ret
          refine ⟨one_str ?_, next (Lib.below_grow _ _ (Nat.le_refl _) _ _) b3⟩
          rw [HY.out, ba_append r s]

def strLen : Value → Nat
  | .string b => b.size
  | _ => 0
theorem strLen_list (l : List UInt8) : strLen (.string ⟨l.toArray⟩) = l.length := by simp [strLen, ByteArray.size]

set_option maxRecDepth 100000 in
set_option maxHeartbeats 800000 in
theorem sPadNum_any (x n : Int) (w : World) :
    Calls Tryd.prog 16 #[.int .i64 x, .int .i64 n] w fun e w' => e = .returned (.string ⟨(padT x n).toArray⟩) ∧ Below w.heap.size w w' := by
  cases h1 : inB n 1 18
  · have h1o : ¬ (1 ≤ n ∧ n ≤ 18) := of_decide_eq_false h1
    have HN : Hid _ := padT_no (padOk_no1 (x := x) h1o)
    go_enter Tryd.func16, Tryd.ntmps16
    go_wp2_with fail
    refine (in_any _ _ _ _).mono ?_
    rintro e w1 ⟨rfl, hw1⟩
    subst hw1
    rw [h1]
    go_wp2
    go_ret
    exact ⟨one_str (by rw [HN.out]), Below.refl _ _⟩
  · have h1i : 1 ≤ n ∧ n ≤ 18 := of_decide_eq_true h1
    have HI : Hid _ := h1
    obtain ⟨m, rfl⟩ := Int.eq_ofNat_of_zero_le (show 0 ≤ n by omega)
    have hp : 10 ^ m ≤ 10 ^ 18 := Nat.pow_le_pow_right (by omega) (by omega)
    have hp0 : 0 < 10 ^ m := Nat.pow_pos (by omega)
    have hm18 : m ≤ 18 := by omega
    have HM1 : Hid (1 ≤ m) := by rw [Hid]; omega
    clear h1
    obtain ⟨y, hy⟩ : ∃ y : Nat, 10 ^ m = y := ⟨_, rfl⟩
    rw [hy] at hp hp0
    have hyb : y ≤ 1000000000000000000 := by omega
    have HYM : Hid _ := hy
    clear hy hp
    cases h2 : inB x 0 ((y : Int) - 1)
    · have h2o : ¬ (0 ≤ x ∧ x ≤ (y : Int) - 1) := of_decide_eq_false h2
      have HN : Hid _ := padT_no (padOk_no2 (x := x) (n := m) (by rw [Int.toNat_natCast, HYM.out]; omega))
      go_enter Tryd.func16, Tryd.ntmps16
      go_wp2_with fail
      refine (in_any _ _ _ _).mono ?_
      rintro e w1 ⟨rfl, hw1⟩
      subst hw1
      rw [HI.out]
      go_wp2_with fail
      refine (l01Ten_any m _ hm18).mono ?_
      rintro e w1 ⟨rfl, hw1⟩
      subst hw1
      rw [HYM.out]
      go_wp2_with fail
      refine (in_any _ _ _ _).mono ?_
      rintro e w1 ⟨rfl, hw1⟩
      subst hw1
      rw [h2]
      go_wp2
      go_ret
      exact ⟨one_str (by rw [HN.out]), Below.refl _ _⟩
    · have h2i : 0 ≤ x ∧ x ≤ (y : Int) - 1 := of_decide_eq_true h2
      obtain ⟨a, rfl⟩ := Int.eq_ofNat_of_zero_le h2i.1
      have H2 : Hid _ := h2
      have hay : a < y := by omega
      have HY : Hid (padT a m = padN a m) := padT_yes HM1.out hm18 (by rw [HYM.out]; exact hay)
      have hsl := dec_len_pow m a HM1.out (by rw [HYM.out]; exact hay)
      unfold padN at HY
      clear h2
      go_enter Tryd.func16, Tryd.ntmps16
      go_wp2_with fail
      refine (in_any _ _ _ _).mono ?_
      rintro e w1 ⟨rfl, hw1⟩
      subst hw1
      rw [HI.out]
      go_wp2_with fail
      refine (l01Ten_any m _ hm18).mono ?_
      rintro e w1 ⟨rfl, hw1⟩
      subst hw1
      rw [HYM.out]
      go_wp2_with fail
      refine (in_any _ _ _ _).mono ?_
      rintro e w1 ⟨rfl, hw1⟩
      subst hw1
      rw [H2.out]
      clear H2 HI
      go_wp2_with fail
      refine (dec_up a _ (by omega)).mono ?_
      rintro e w1 ⟨rfl, hw1⟩
      subst hw1
      generalize Lib.decDigits a = s at hsl HY
      go_wp2
      go_loop [5] (fun v => ∃ k : Nat, k ≤ m - s.length ∧ v = .string ⟨(List.replicate k 48 ++ s).toArray⟩) (fun v => m - strLen v)
      case atStart => exact ⟨0, Nat.zero_le _, rfl⟩
      case round =>
        obtain ⟨k, hk, rfl⟩ := hrel
        have hsz : (List.replicate k (48 : UInt8) ++ s).length = k + s.length := by simp
        have HS2 : Hid ((⟨#[48]⟩ : ByteArray) ++ ⟨(List.replicate k 48 ++ s).toArray⟩ = ⟨(List.replicate (k + 1) 48 ++ s).toArray⟩) := ba_append [48] (List.replicate k 48 ++ s)
        have HS3 : Hid (strLen (.string ((⟨#[48]⟩ : ByteArray) ++ ⟨(List.replicate k 48 ++ s).toArray⟩)) = k + 1 + s.length) := by rw [Hid, HS2.out, strLen_list]; simp
        have HS4 : Hid (strLen (.string ⟨(List.replicate k 48 ++ s).toArray⟩) = k + s.length) := by rw [Hid, strLen_list, hsz]
        have HK : Hid (k = m - s.length → padT a m = List.replicate k 48 ++ s) := fun e => by rw [e]; exact HY.out
        generalize List.replicate k (48 : UInt8) ++ s = p at hsz HS2 HS3 HS4 HK
        have hpl : p.length ≤ 25 := by omega
        by_cases hlt : p.length < m
        · have hlt' : (p.length : Int) < (m : Int) := by omega
          have hkd : k + 1 ≤ m - s.length := by omega
          have hme : m - (k + 1 + s.length) < m - (k + s.length) := by omega
          clear hsz
          go_wp2
          go_round
          case rel => exact ⟨k + 1, hkd, by rw [HS2.out]⟩
          case measure => rw [HS3.out, HS4.out]; exact hme
        · have hlt' : (m : Int) ≤ (p.length : Int) := by omega
          have HP : Hid _ := HK.out (by omega)
          clear hsz HK HS2 HS3 HS4 hk
          go_wp2
          go_ret
          exact ⟨one_str (by rw [HP.out]), Below.refl _ _⟩

end Go.Proofs.YtlhdpbbgmjfbkaaDoor.Tg
