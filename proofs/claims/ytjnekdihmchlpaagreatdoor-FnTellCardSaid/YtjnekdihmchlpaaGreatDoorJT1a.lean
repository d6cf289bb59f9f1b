import Derived.Test.YtjnekdihmchlpaaGreatDoorJT0a
import Derived.Test.YtjnekdihmchlpaaGreatDoorKTCal
import Derived.Lib.AppendIntMem
import Derived.Lib.Strings
import Derived.Test.YtjnekdihmchlpaaGreatDoorRows
import Derived.Test.YtjnekdihmchlpaaGreatDoorCards
import Derived.Test.YtjnekdihmchlpaaGreatDoorTie
import Derived.Test.YtjnekdihmchlpaaGreatDoorKTBase
import Derived.LaidMore
import Derived.Deep.DeepHandedRow
import Derived.JoinedCond
import Derived.Lay
import Derived.SevenTiedAt
import Derived.Stop.Joined
import Derived.Stop.LaidErr
import Derived.Lib.LaidTab
import Derived.Handy
import Derived.OwnWalk
import Derived.Maps.AppendAt
import Derived.Deep.SlicePairs
import Derived.Outline
import Derived.Test.YtjnekdihmchlpaaGreatDoorKTCur
import Derived.Deep.Strs
import Derived.Lib.SmallJoins
import Derived.Lib.AppendZeros
import Derived.Deep.AppendLies
import Derived.Deep.RegionWith
import Derived.Deep.RegionHeld3
/- The contracts of the small functions of chapter 2 (days): what each returns for every argument. -/
namespace Go.Proofs.YtjnekdihmchlpaaGreatDoor
open Go.RowKit
theorem inB_pos {x a b : Int} (h : a ≤ x) (g : x ≤ b) : inB x a b = true := by simp [inB, h, g]
theorem inB_neg {x a b : Int} (h : x < a ∨ b < x) : inB x a b = false := by simp [inB]; omega
set_option maxHeartbeats 400000 in
theorem sDayOk_any (x : Int) (w : World) :
    Calls Tryz.prog 64 #[.int .i64 x] w fun e w' => e = .returned (.bool (dOk x)) ∧ w' = w := by
  go_enter Tryz.func64, Tryz.ntmps64
  go_wp2_with (go_at_call 26; refine (in_any _ _ _ _).mono ?_; rintro e w' ⟨rfl, rfl⟩)
  go_ret
  exact ⟨rfl, rfl⟩
set_option maxHeartbeats 400000 in
theorem iDayOk_any (x : Int) (w : World) :
    Calls Tryz.prog 53 #[.int .i64 x] w fun e w' => e = .returned (.bool (dOk x)) ∧ w' = w := by
  by_cases h1 : 0 ≤ x
  · by_cases h2 : x ≤ 80000
    · go_enter Tryz.func53, Tryz.ntmps53
      go_wp2
      go_ret
      exact ⟨by simp [dOk, h1, h2], rfl⟩
    · go_enter Tryz.func53, Tryz.ntmps53
      go_wp2
      go_ret
      exact ⟨by simp [dOk, h1, h2], rfl⟩
  · go_enter Tryz.func53, Tryz.ntmps53
    go_wp2
    go_ret
    exact ⟨by simp [dOk]; omega, rfl⟩
/-- the day of the week -/
def wdV (d : Int) : Int := if dOk d = true then (d + 5) % 7 else -1
theorem wdV_yes {d : Int} (h : dOk d = true) : wdV d = (d + 5) % 7 := if_pos h
theorem wdV_no {d : Int} (h : dOk d = false) : wdV d = -1 := if_neg (by rw [h]; decide)
set_option maxHeartbeats 400000 in
theorem sWeekDay_any (x : Int) (w : World) :
    Calls Tryz.prog 175 #[.int .i64 x] w fun e w' => e = .returned (.int .i64 (wdV x)) ∧ w' = w := by
  cases h : dOk x
  · have HV : Hid _ := wdV_no h
    go_enter Tryz.func175, Tryz.ntmps175
    go_wp2_with (go_at_call 64; refine (sDayOk_any _ _).mono ?_; rintro e w' ⟨rfl, rfl⟩)
    go_ret
    exact ⟨one_int HV.out.symm, rfl⟩
  · have HV : Hid _ := wdV_yes h
    have hb := dOk_bd h
    go_enter Tryz.func175, Tryz.ntmps175
    go_wp2_with (go_at_call 64; refine (sDayOk_any _ _).mono ?_; rintro e w' ⟨rfl, rfl⟩)
    go_ret
    exact ⟨one_int HV.out.symm, rfl⟩
end Go.Proofs.YtjnekdihmchlpaaGreatDoor
/- The contracts of the small functions of chapter 3 (fields) over a text's bytes: what each returns for every argument. -/
namespace Go.Proofs.YtjnekdihmchlpaaGreatDoor
open Go.RowKit
theorem in_byte (c : UInt8) (a b : Nat) : inB (c.toNat : Int) a b = (decide (a ≤ c.toNat) && decide (c.toNat ≤ b)) := by
  unfold inB
  by_cases h1 : a ≤ c.toNat <;> by_cases h2 : c.toNat ≤ b <;> simp [h1, h2]
set_option maxHeartbeats 400000 in
theorem iWithin_any (l : List UInt8) (a b : Nat) (w : World) (hl : l.length ≤ 1099511627776) :
    Calls Tryz.prog 87 #[.string ⟨l.toArray⟩, .int .u8 a, .int .u8 b] w fun e w' => e = .returned (.bool (within a b l)) ∧ w' = w := by
  go_enter Tryz.func87, Tryz.ntmps87
  go_wp2
  go_loop [7, 10] (fun _ i => ∃ k : Nat, k ≤ l.length ∧ i = .int .i64 k ∧ within a b l = within a b (l.drop k)) (fun _ i => l.length - (intOf i).toNat)
  case atStart => exact ⟨0, Nat.zero_le _, rfl, rfl⟩
  case round =>
    obtain ⟨k, hk, rfl, ht⟩ := hrel
    by_cases hlt : k < l.length
    · have hki : (k : Int) < (l.length : Int) := by omega
      have hs := within_step a b l k hlt
      obtain ⟨c, hc⟩ : ∃ c, (⟨l.toArray⟩ : ByteArray)[k]'(by rw [ba_size]; exact hlt) = c := ⟨_, rfl⟩
      rw [(byte_at l k hlt).trans hc] at hs
      have HS : Hid _ := ht.trans hs
      clear hs ht
      by_cases h1 : a ≤ c.toNat
      · have h1' : (a : Int) ≤ (c.toNat : Int) := by omega
        by_cases h2 : c.toNat ≤ b
        · have h2' : (c.toNat : Int) ≤ (b : Int) := by omega
          have HY : Hid (within a b l = within a b (l.drop (k + 1))) := by rw [Hid, HS.out]; simp [h1, h2]
          clear HS
          go_wp2
          go_round
          case rel => exact ⟨k + 1, by omega, by go_num, HY.out⟩
          case measure => simp [intOf]; omega
        · have h2' : (b : Int) < (c.toNat : Int) := by omega
          have HN : Hid (within a b l = false) := by rw [Hid, HS.out]; simp [h2]
          clear HS
          go_wp2
          go_ret
          exact ⟨one_bool HN.out.symm, rfl⟩
      · have h1' : (c.toNat : Int) < (a : Int) := by omega
        have HN : Hid (within a b l = false) := by rw [Hid, HS.out]; simp [h1]
        clear HS
        go_wp2
        go_ret
        exact ⟨one_bool HN.out.symm, rfl⟩
    · have hke : k = l.length := by omega
      subst hke
      have HE : Hid (within a b l = true) := by rw [Hid, ht, within_end]
      clear ht
      go_wp2
      go_ret
      exact ⟨one_bool HE.out.symm, rfl⟩
set_option maxHeartbeats 400000 in
theorem iAllDig_any (l : List UInt8) (w : World) (hl : l.length ≤ 1099511627776) :
    Calls Tryz.prog 45 #[.string ⟨l.toArray⟩] w fun e w' => e = .returned (.bool (within 48 57 l)) ∧ w' = w := by
  go_enter Tryz.func45, Tryz.ntmps45
  go_wp2_with fail
  refine (iWithin_any l 48 57 _ hl).mono ?_
  rintro e w1 ⟨rfl, hw⟩
  subst hw
  go_wp2
  go_ret
  exact ⟨rfl, rfl⟩
set_option maxHeartbeats 400000 in
theorem iPlain_any (l : List UInt8) (w : World) (hl : l.length ≤ 1099511627776) :
    Calls Tryz.prog 138 #[.string ⟨l.toArray⟩] w fun e w' => e = .returned (.bool (within 32 126 l)) ∧ w' = w := by
  go_enter Tryz.func138, Tryz.ntmps138
  go_wp2_with fail
  refine (iWithin_any l 32 126 _ hl).mono ?_
  rintro e w1 ⟨rfl, hw⟩
  subst hw
  go_wp2
  go_ret
  exact ⟨rfl, rfl⟩
set_option maxHeartbeats 400000 in
theorem sPlain_any (l : List UInt8) (w : World) (hl : l.length ≤ 1099511627776) :
    Calls Tryz.prog 111 #[.string ⟨l.toArray⟩] w fun e w' => e = .returned (.bool (within 32 126 l)) ∧ w' = w := by
  go_enter Tryz.func111, Tryz.ntmps111
  go_wp2
  go_loop [3] (fun i => ∃ k : Nat, k ≤ l.length ∧ i = .int .i64 k ∧ within 32 126 l = within 32 126 (l.drop k)) (fun i => l.length - (intOf i).toNat)
  case atStart => exact ⟨0, Nat.zero_le _, rfl, rfl⟩
  case round =>
    obtain ⟨k, hk, rfl, ht⟩ := hrel
    by_cases hlt : k < l.length
    · have hki : (k : Int) < (l.length : Int) := by omega
      have hs := within_step 32 126 l k hlt
      obtain ⟨c, hc⟩ : ∃ c, (⟨l.toArray⟩ : ByteArray)[k]'(by rw [ba_size]; exact hlt) = c := ⟨_, rfl⟩
      rw [(byte_at l k hlt).trans hc, ← in_byte c 32 126] at hs
      have HS : Hid _ := ht.trans hs
      have hwc := wrap_byte c
      clear hs ht
      cases hin : inB (c.toNat : Int) 32 126
      · have HN : Hid (within 32 126 l = false) := by rw [Hid, HS.out]; simp [hin]
        clear HS
        go_wp2_with fail
        refine (in_any _ _ _ _).mono ?_
        rintro e w1 ⟨rfl, hw1⟩
        subst hw1
        rw [hin]
        go_wp2
        go_ret
        exact ⟨one_bool HN.out.symm, rfl⟩
      · have HY : Hid (within 32 126 l = within 32 126 (l.drop (k + 1))) := by rw [Hid, HS.out]; simp [hin]
        clear HS
        go_wp2_with fail
        refine (in_any _ _ _ _).mono ?_
        rintro e w1 ⟨rfl, hw1⟩
        subst hw1
        rw [hin]
        go_wp2
        go_round
        case rel => exact ⟨k + 1, by omega, by go_num, HY.out⟩
        case measure => simp [intOf]; omega
    · have hke : k = l.length := by omega
      subst hke
      have HE : Hid (within 32 126 l = true) := by rw [Hid, ht, within_end]
      clear ht
      go_wp2
      go_ret
      exact ⟨one_bool HE.out.symm, rfl⟩
end Go.Proofs.YtjnekdihmchlpaaGreatDoor
/- The contracts of PadNum, the program's and the specification's. -/
namespace Go.Proofs.YtjnekdihmchlpaaGreatDoor
open Go.RowKit
theorem repeat_one (n : Nat) : Lib.repeatL [48] n = List.replicate n 48 := by
  induction n with
  | zero => rfl
  | succ n ih => simp [Lib.repeatL, ih, List.replicate_succ]
def Pow10 (w : World) : Prop := Lib.TabIs Tryz.prog w "internal/strconv.uint64pow10" .u64 Lib.pow10Tab
theorem Pow10.below {w w' : World} (h : Pow10 w) (hb : Below w.heap.size w w') : Pow10 w' := Lib.tabBelow_of_tabIs h w' hb
set_option maxRecDepth 100000 in
set_option maxHeartbeats 400000 in
theorem l01Ten_any (n : Nat) (w : World) (hn : n ≤ 18) :
    Calls Tryz.prog 67 #[.int .i64 n] w fun e w' => e = .returned (.int .i64 (10 ^ n : Nat)) ∧ w' = w := by
  go_enter Tryz.func67, Tryz.ntmps67
  go_wp2
  go_loop [3, 4] (fun p i => ∃ k : Nat, k ≤ n ∧ i = .int .i64 k ∧ p = .int .i64 (10 ^ k : Nat)) (fun _ i => n - (intOf i).toNat)
  case atStart => exact ⟨0, Nat.zero_le _, rfl, rfl⟩
  case round =>
    obtain ⟨k, hk, rfl, rfl⟩ := hrel
    by_cases hlt : k < n
    · have hki : (k : Int) < (n : Int) := by omega
      have hp : 10 ^ k ≤ 10 ^ 17 := Nat.pow_le_pow_right (by omega) (by omega)
      have hs : 10 ^ (k + 1) = 10 ^ k * 10 := Nat.pow_succ 10 k
      obtain ⟨x, hx⟩ : ∃ x : Nat, 10 ^ k = x := ⟨_, rfl⟩
      rw [hx] at hp hs ⊢
      have HS : Hid (((10 ^ (k + 1) : Nat) : Int) = 10 * (x : Int)) := by rw [Hid, hs]; omega
      have hxb : x ≤ 100000000000000000 := by omega
      clear hs hx hp
      go_wp2
      go_round
      case rel => exact ⟨k + 1, by omega, by go_num, by rw [HS.out]⟩
      case measure => simp [intOf]; omega
    · have hke : k = n := by omega
      subst hke
      obtain ⟨x, hx⟩ : ∃ x : Nat, 10 ^ k = x := ⟨_, rfl⟩
      rw [hx]
      have HX : Hid _ := hx
      clear hx
      go_wp2
      go_ret
      exact ⟨one_int (by rw [← HX.out]; simp), rfl⟩
set_option maxRecDepth 100000 in
set_option maxHeartbeats 800000 in
theorem iPadNum_any (x n : Int) (w : World) (ht : Pow10 w) :
    Calls Tryz.prog 24 #[.int .i64 x, .int .i64 n] w fun e w' => e = .returned (.string ⟨(padT x n).toArray⟩) ∧ Below w.heap.size w w' := by
  have HT : Hid (Pow10 w) := ht
  clear ht
  by_cases h1 : n < 1
  · have HN : Hid _ := padT_no (padOk_no1 (x := x) (n := n) (by omega))
    go_enter Tryz.func24, Tryz.ntmps24
    go_wp2
    go_ret
    exact ⟨one_str (by rw [HN.out]), Below.refl _ _⟩
  · by_cases h2 : 18 < n
    · have HN : Hid _ := padT_no (padOk_no1 (x := x) (n := n) (by omega))
      go_enter Tryz.func24, Tryz.ntmps24
      go_wp2
      go_ret
      exact ⟨one_str (by rw [HN.out]), Below.refl _ _⟩
    · by_cases h3 : x < 0
      · have HN : Hid _ := padT_no (padOk_no2 (x := x) (n := n) (by omega))
        have h1' : 1 ≤ n := by omega
        have h2' : n ≤ 18 := by omega
        go_enter Tryz.func24, Tryz.ntmps24
        go_wp2
        go_ret
        exact ⟨one_str (by rw [HN.out]), Below.refl _ _⟩
      · obtain ⟨a, rfl⟩ := Int.eq_ofNat_of_zero_le (show 0 ≤ x by omega)
        obtain ⟨m, rfl⟩ := Int.eq_ofNat_of_zero_le (show 0 ≤ n by omega)
        have hm1 : (1 : Int) ≤ (m : Int) := by omega
        have hm2 : (m : Int) ≤ 18 := by omega
        have hp : 10 ^ m ≤ 10 ^ 18 := Nat.pow_le_pow_right (by omega) (by omega)
        clear h1 h2 h3
        by_cases h4 : 10 ^ m ≤ a
        · have HN : Hid _ := padT_no (padOk_no2 (x := a) (n := m) (by rw [Int.toNat_natCast]; omega))
          go_enter Tryz.func24, Tryz.ntmps24
          go_wp2_with fail
          refine (tenTo_any m _ (by omega)).mono ?_
          rintro e w1 ⟨rfl, hw1⟩
          subst hw1
          obtain ⟨y, hy⟩ : ∃ y : Nat, 10 ^ m = y := ⟨_, rfl⟩
          rw [hy] at h4 ⊢
          have h4i : (y : Int) ≤ (a : Int) := by omega
          clear hy hp
          go_wp2
          go_ret
          exact ⟨one_str (by rw [HN.out]), Below.refl _ _⟩
        · have HY : Hid (padT a m = padN a m) := padT_yes (by omega) (by omega) (by omega)
          have hsl := dec_len_pow m a (by omega) (by omega)
          have HI : Hid (Lib.itoa (a : Int) = Lib.decDigits a) := by rw [Hid, Lib.itoa, if_neg (by omega)]; rfl
          unfold padN at HY
          obtain ⟨s, hs⟩ : ∃ s, Lib.decDigits a = s := ⟨_, rfl⟩
          rw [hs] at HY hsl HI
          have hab : a ≤ 1000000000000000000 := by omega
          obtain ⟨y, hy⟩ : ∃ y : Nat, 10 ^ m = y := ⟨_, rfl⟩
          rw [hy] at h4
          have h4i : (a : Int) < (y : Int) := by omega
          have HYM : Hid _ := hy
          clear hs hp hy
          go_enter Tryz.func24, Tryz.ntmps24
          go_wp2_with fail
          refine (tenTo_any m _ (by omega)).mono ?_
          rintro e w1 ⟨rfl, hw1⟩
          subst hw1
          rw [HYM.out]
          go_wp2_with fail
          refine (Tryz.strconv_Itoa _ (by omega) (by omega) _ HT.out).mono ?_
          rintro e w2 ⟨rfl, k, os, rfl⟩
          rw [HI.out]
          have hr : (List.replicate (m - s.length) (48 : UInt8)).length = m - s.length := by simp
          go_wp2_with fail
          rw [show ((m : Int) - (s.length : Int)) = ((m - s.length : Nat) : Int) from by omega]
          refine (Tryz.strings_Repeat ⟨#[48]⟩ (m - s.length) _ (by omega) (by simp [ByteArray.size]; omega)).mono ?_
          rintro e w3 ⟨rfl, b3⟩
          rw [show Lib.repeatL (⟨#[48]⟩ : ByteArray).data.toList (m - s.length) = List.replicate (m - s.length) 48 from repeat_one _]
          generalize List.replicate (m - s.length) (48 : UInt8) = r at hr HY
          go_wp2
          go_ret
          refine ⟨one_str ?_, next (Lib.below_grow _ _ (Nat.le_refl _) _ _) b3⟩
          rw [HY.out, ba_append r s]
def strLen : Value → Nat
  | .string b => b.size
  | _ => 0
theorem strLen_list (l : List UInt8) : strLen (.string ⟨l.toArray⟩) = l.length := by simp [strLen, ByteArray.size]
set_option maxRecDepth 100000 in
set_option maxHeartbeats 800000 in
theorem sPadNum_any (x n : Int) (w : World) :
    Calls Tryz.prog 31 #[.int .i64 x, .int .i64 n] w fun e w' => e = .returned (.string ⟨(padT x n).toArray⟩) ∧ Below w.heap.size w w' := by
  cases h1 : inB n 1 18
  · have h1o : ¬ (1 ≤ n ∧ n ≤ 18) := of_decide_eq_false h1
    have HN : Hid _ := padT_no (padOk_no1 (x := x) h1o)
    go_enter Tryz.func31, Tryz.ntmps31
    go_wp2_with fail
    refine (in_any _ _ _ _).mono ?_
    rintro e w1 ⟨rfl, hw1⟩
    subst hw1
    rw [h1]
    go_wp2
    go_ret
    exact ⟨one_str (by rw [HN.out]), Below.refl _ _⟩
  · have h1i : 1 ≤ n ∧ n ≤ 18 := of_decide_eq_true h1
    have HI : Hid _ := h1
    obtain ⟨m, rfl⟩ := Int.eq_ofNat_of_zero_le (show 0 ≤ n by omega)
    have hp : 10 ^ m ≤ 10 ^ 18 := Nat.pow_le_pow_right (by omega) (by omega)
    have hp0 : 0 < 10 ^ m := Nat.pow_pos (by omega)
    have hm18 : m ≤ 18 := by omega
    have HM1 : Hid (1 ≤ m) := by rw [Hid]; omega
    clear h1
    obtain ⟨y, hy⟩ : ∃ y : Nat, 10 ^ m = y := ⟨_, rfl⟩
    rw [hy] at hp hp0
    have hyb : y ≤ 1000000000000000000 := by omega
    have HYM : Hid _ := hy
    clear hy hp
    cases h2 : inB x 0 ((y : Int) - 1)
    · have h2o : ¬ (0 ≤ x ∧ x ≤ (y : Int) - 1) := of_decide_eq_false h2
      have HN : Hid _ := padT_no (padOk_no2 (x := x) (n := m) (by rw [Int.toNat_natCast, HYM.out]; omega))
      go_enter Tryz.func31, Tryz.ntmps31
      go_wp2_with fail
      refine (in_any _ _ _ _).mono ?_
      rintro e w1 ⟨rfl, hw1⟩
      subst hw1
      rw [HI.out]
      go_wp2_with fail
      refine (l01Ten_any m _ hm18).mono ?_
      rintro e w1 ⟨rfl, hw1⟩
      subst hw1
      rw [HYM.out]
      go_wp2_with fail
      refine (in_any _ _ _ _).mono ?_
      rintro e w1 ⟨rfl, hw1⟩
      subst hw1
      rw [h2]
      go_wp2
      go_ret
      exact ⟨one_str (by rw [HN.out]), Below.refl _ _⟩
    · have h2i : 0 ≤ x ∧ x ≤ (y : Int) - 1 := of_decide_eq_true h2
      obtain ⟨a, rfl⟩ := Int.eq_ofNat_of_zero_le h2i.1
      have H2 : Hid _ := h2
      have hay : a < y := by omega
      have HY : Hid (padT a m = padN a m) := padT_yes HM1.out hm18 (by rw [HYM.out]; exact hay)
      have hsl := dec_len_pow m a HM1.out (by rw [HYM.out]; exact hay)
      unfold padN at HY
      clear h2
      go_enter Tryz.func31, Tryz.ntmps31
      go_wp2_with fail
      refine (in_any _ _ _ _).mono ?_
      rintro e w1 ⟨rfl, hw1⟩
      subst hw1
      rw [HI.out]
      go_wp2_with fail
      refine (l01Ten_any m _ hm18).mono ?_
      rintro e w1 ⟨rfl, hw1⟩
      subst hw1
      rw [HYM.out]
      go_wp2_with fail
      refine (in_any _ _ _ _).mono ?_
      rintro e w1 ⟨rfl, hw1⟩
      subst hw1
      rw [H2.out]
      clear H2 HI
      go_wp2_with fail
      refine (dec_up a _ (by omega)).mono ?_
      rintro e w1 ⟨rfl, hw1⟩
      subst hw1
      generalize Lib.decDigits a = s at hsl HY
      go_wp2
      go_loop [5] (fun v => ∃ k : Nat, k ≤ m - s.length ∧ v = .string ⟨(List.replicate k 48 ++ s).toArray⟩) (fun v => m - strLen v)
      case atStart => exact ⟨0, Nat.zero_le _, rfl⟩
      case round =>
        obtain ⟨k, hk, rfl⟩ := hrel
        have hsz : (List.replicate k (48 : UInt8) ++ s).length = k + s.length := by simp
        have HS2 : Hid ((⟨#[48]⟩ : ByteArray) ++ ⟨(List.replicate k 48 ++ s).toArray⟩ = ⟨(List.replicate (k + 1) 48 ++ s).toArray⟩) := ba_append [48] (List.replicate k 48 ++ s)
        have HS3 : Hid (strLen (.string ((⟨#[48]⟩ : ByteArray) ++ ⟨(List.replicate k 48 ++ s).toArray⟩)) = k + 1 + s.length) := by rw [Hid, HS2.out, strLen_list]; simp
        have HS4 : Hid (strLen (.string ⟨(List.replicate k 48 ++ s).toArray⟩) = k + s.length) := by rw [Hid, strLen_list, hsz]
        have HK : Hid (k = m - s.length → padT a m = List.replicate k 48 ++ s) := fun e => by rw [e]; exact HY.out
        generalize List.replicate k (48 : UInt8) ++ s = p at hsz HS2 HS3 HS4 HK
        have hpl : p.length ≤ 25 := by omega
        by_cases hlt : p.length < m
        · have hlt' : (p.length : Int) < (m : Int) := by omega
          have hkd : k + 1 ≤ m - s.length := by omega
          have hme : m - (k + 1 + s.length) < m - (k + s.length) := by omega
          clear hsz
          go_wp2
          go_round
          case rel => exact ⟨k + 1, hkd, by rw [HS2.out]⟩
          case measure => rw [HS3.out, HS4.out]; exact hme
        · have hlt' : (m : Int) ≤ (p.length : Int) := by omega
          have HP : Hid _ := HK.out (by omega)
          clear hsz HK HS2 HS3 HS4 hk
          go_wp2
          go_ret
          exact ⟨one_str (by rw [HP.out]), Below.refl _ _⟩
end Go.Proofs.YtjnekdihmchlpaaGreatDoor
/- From what the rows of chapter 4 list of Go's library's tables to what PadNum asks of them. -/
namespace Go.Proofs.YtjnekdihmchlpaaGreatDoor
open Go.ChangeShapes Go.WideShapes Go.ChangeAt Go.RowKit
theorem tabEq : (Rows.laid_internal_strconv_uint64pow10 : DataW Unit) = Lib.tabData .u64 Lib.pow10Tab := by kernel_rfl
theorem pow10_head {w : World} {r : List (String × DataW Unit)} (h1 : laidMet Tryz.prog (("internal/strconv.uint64pow10", Rows.laid_internal_strconv_uint64pow10) :: r) w) : Pow10 w := by
  rw [tabEq] at h1
  exact Lib.tabIs_of_head (g := 7) (t := 225) (by kernel_rfl) (by kernel_rfl) Tryz.underlying225 Tryz.underlying174 (by kernel_rfl) (by kernel_rfl) h1
end Go.Proofs.YtjnekdihmchlpaaGreatDoor
/- The contracts of NumOf, the program's and the specification's. -/
namespace Go.Proofs.YtjnekdihmchlpaaGreatDoor
open Go.RowKit
set_option maxHeartbeats 400000 in
theorem iNumOf_any (l : List UInt8) (w : World) (hl : l.length ≤ 1099511627776) :
    Calls Tryz.prog 16 #[.string ⟨l.toArray⟩] w fun e w' => e = .returned (.int .i64 (numOf l)) ∧ w' = w := by
  by_cases hbig : 18 < l.length
  · have HN : Hid _ := numOf_no1 hbig
    have hbi : (18 : Int) < (l.length : Int) := by omega
    go_enter Tryz.func16, Tryz.ntmps16
    go_wp2
    go_ret
    exact ⟨one_int HN.out.symm, rfl⟩
  · have hbi : (l.length : Int) ≤ 18 := by omega
    have hl18 : l.length ≤ 18 := by omega
    cases hd : within 48 57 l
    · have HN : Hid _ := numOf_no2 hd
      go_enter Tryz.func16, Tryz.ntmps16
      go_wp2_with fail
      refine (iAllDig_any _ _ hl).mono ?_
      rintro e w1 ⟨rfl, hw⟩
      subst hw
      rw [hd]
      go_wp2
      go_ret
      exact ⟨one_int HN.out.symm, rfl⟩
    · have HY : Hid _ := numOf_yes hl18 hd
      have HB : Hid _ := val_bound l hd
      have HD : Hid (within 48 57 l = true) := hd
      go_enter Tryz.func16, Tryz.ntmps16
      go_wp2_with fail
      refine (iAllDig_any _ _ hl).mono ?_
      rintro e w1 ⟨rfl, hw⟩
      subst hw
      rw [hd]
      clear hd
      go_wp2
      go_loop [3, 4, 15] (fun v _ i => ∃ k : Nat, k ≤ l.length ∧ i = .int .i64 k ∧ v = .int .i64 (val 0 (l.take k))) (fun _ _ i => l.length - (intOf i).toNat)
      case atStart => exact ⟨0, Nat.zero_le _, rfl, rfl⟩
      case round =>
        obtain ⟨k, hk, rfl, rfl⟩ := hrel
        have hb := HB.out k hk
        have hp : 10 ^ k ≤ 10 ^ 18 := Nat.pow_le_pow_right (by omega) (by omega)
        by_cases hlt : k < l.length
        · have hki : (k : Int) < (l.length : Int) := by omega
          have hp1 : 10 ^ k ≤ 10 ^ 17 := Nat.pow_le_pow_right (by omega) (by omega)
          have hw := within_at HD.out hlt
          have hv := val_take l k hlt
          obtain ⟨c, hc⟩ : ∃ c, (⟨l.toArray⟩ : ByteArray)[k]'(by rw [ba_size]; exact hlt) = c := ⟨_, rfl⟩
          rw [(byte_at l k hlt).trans hc] at hw hv
          obtain ⟨x, hx⟩ : ∃ x, val 0 (l.take k) = x := ⟨_, rfl⟩
          rw [hx] at hb hv ⊢
          have hxb : x ≤ 100000000000000000 := by omega
          have hsi : ((val 0 (l.take (k + 1)) : Nat) : Int) = (x : Int) * 10 + ((c.toNat : Int) - 48) := by omega
          have HV : Hid _ := hsi
          clear hsi hv hx hb hp hp1
          go_wp2
          go_round
          case rel => exact ⟨k + 1, by omega, by go_num, by rw [HV.out]⟩
          case measure => simp [intOf]; omega
        · have hke : k = l.length := by omega
          subst hke
          rw [List.take_of_length_le (Nat.le_refl _)]
          clear hb hp
          go_wp2
          go_ret
          exact ⟨one_int HY.out.symm, rfl⟩
end Go.Proofs.YtjnekdihmchlpaaGreatDoor
/- The contract of hasBytes: whether so many bytes stand in a text from a place on. -/
namespace Go.Proofs.YtjnekdihmchlpaaGreatDoor
open Go.RowKit
theorem str_two {a b : ByteArray} {x y : Int} (h : a = b) (g : x = y) : Ending.returned (.tuple #[.string a, .int .i64 x]) = .returned (.tuple #[.string b, .int .i64 y]) := by rw [h, g]
theorem piece_eq (l : List UInt8) (a b : Nat) : (⟨l.toArray⟩ : ByteArray).extract a (a + b) = ⟨((l.drop a).take b).toArray⟩ := by
  rw [ba_extract, Nat.add_sub_cancel_left]
def hasB (n : Nat) (i size : Int) : Bool := decide (0 ≤ i ∧ i ≤ n ∧ size ≤ n - i)
theorem hasB_pos {n : Nat} {i size : Int} (h0 : 0 ≤ i) (h1 : i ≤ n) (h2 : size ≤ n - i) : hasB n i size = true := decide_eq_true ⟨h0, h1, h2⟩
theorem hasB_neg {n : Nat} {i size : Int} (h : i < 0 ∨ n < i ∨ n - i < size) : hasB n i size = false := decide_eq_false (by omega)
theorem hasB_in {n : Nat} {i size : Int} (h : hasB n i size = true) : 0 ≤ i ∧ i ≤ n ∧ size ≤ n - i := of_decide_eq_true h
theorem hasB_out {n : Nat} {i size : Int} (h : hasB n i size = false) : ¬ (0 ≤ i ∧ i ≤ n ∧ size ≤ n - i) := of_decide_eq_false h
set_option maxHeartbeats 400000 in
theorem hasBytes_any (l : List UInt8) (i size : Int) (w : World) (hl : l.length ≤ 1099511627776) :
    Calls Tryz.prog 77 #[.string ⟨l.toArray⟩, .int .i64 i, .int .i64 size] w fun e w' => e = .returned (.bool (hasB l.length i size)) ∧ w' = w := by
  by_cases h0 : 0 ≤ i
  · by_cases h1 : i ≤ (l.length : Int)
    · by_cases h2 : size ≤ (l.length : Int) - i
      · have HB : Hid _ := hasB_pos h0 h1 h2
        go_enter Tryz.func77, Tryz.ntmps77
        go_wp2
        go_ret
        exact ⟨one_bool HB.out.symm, rfl⟩
      · have HB : Hid (hasB l.length i size = false) := hasB_neg (by omega)
        have h2' : (l.length : Int) - i < size := by omega
        go_enter Tryz.func77, Tryz.ntmps77
        go_wp2
        go_ret
        exact ⟨one_bool HB.out.symm, rfl⟩
    · have HB : Hid (hasB l.length i size = false) := hasB_neg (by omega)
      go_enter Tryz.func77, Tryz.ntmps77
      go_wp2
      go_ret
      exact ⟨one_bool HB.out.symm, rfl⟩
  · have HB : Hid (hasB l.length i size = false) := hasB_neg (by omega)
    go_enter Tryz.func77, Tryz.ntmps77
    go_wp2
    go_ret
    exact ⟨one_bool HB.out.symm, rfl⟩
end Go.Proofs.YtjnekdihmchlpaaGreatDoor
/- The contracts of GetVar, the program's and the specification's. -/
namespace Go.Proofs.YtjnekdihmchlpaaGreatDoor
open Go.RowKit
def lim (wd : Int) : Int := if wd = 2 then 99 else if wd = 3 then 999 else 0
def wOk (wd : Int) : Bool := decide (wd = 2) || decide (wd = 3)
theorem wOk_no {wd : Int} (h2 : wd ≠ 2) (h3 : wd ≠ 3) : wOk wd = false := by simp [wOk, h2, h3]
theorem wOk_is {wd : Int} (h : wOk wd = true) : wd = 2 ∨ wd = 3 := by simpa [wOk] using h
theorem wOk_isnt {wd : Int} (h : wOk wd = false) : wd ≠ 2 ∧ wd ≠ 3 := by simpa [wOk] using h
set_option maxHeartbeats 400000 in
theorem varLimit_any (wd : Int) (w : World) :
    Calls Tryz.prog 121 #[.int .i64 wd] w fun e w' => e = .returned (.tuple #[.int .i64 (lim wd), .bool (wOk wd)]) ∧ w' = w := by
  by_cases h2 : wd = 2
  · subst h2
    go_enter Tryz.func121, Tryz.ntmps121
    go_wp2
    go_ret2
    exact ⟨rfl, rfl⟩
  · by_cases h3 : wd = 3
    · subst h3
      go_enter Tryz.func121, Tryz.ntmps121
      go_wp2
      go_ret2
      exact ⟨rfl, rfl⟩
    · have HL : Hid (lim wd = 0) := by rw [Hid, lim, if_neg h2, if_neg h3]
      have HW : Hid _ := wOk_no h2 h3
      have h2' : (wd == 2) = false := by simpa using h2
      have h3' : (wd == 3) = false := by simpa using h3
      go_enter Tryz.func121, Tryz.ntmps121
      go_wp2
      go_ret2
      exact ⟨two_eq HL.out.symm HW.out.symm, rfl⟩
/-- GetVar -/
def vNum (l : List UInt8) (i wd : Int) : Int := numOf ((l.drop i.toNat).take wd.toNat)
def varOk (l : List UInt8) (i wd : Int) : Bool := wOk wd && decide (0 ≤ i ∧ i + wd ≤ l.length ∧ 0 ≤ vNum l i wd ∧ vNum l i wd ≤ l.length - (i + wd))
def varL (l : List UInt8) (i wd : Int) : List UInt8 := if varOk l i wd = true then (l.drop (i + wd).toNat).take (vNum l i wd).toNat else []
def varI (l : List UInt8) (i wd : Int) : Int := if varOk l i wd = true then i + wd + vNum l i wd else -1
theorem var_no {l : List UInt8} {i wd : Int} (h : varOk l i wd = false) : varL l i wd = [] ∧ varI l i wd = -1 := ⟨if_neg (by rw [h]; decide), if_neg (by rw [h]; decide)⟩
theorem var_yes {l : List UInt8} {i wd : Int} (h : varOk l i wd = true) : varL l i wd = (l.drop (i + wd).toNat).take (vNum l i wd).toNat ∧ varI l i wd = i + wd + vNum l i wd := ⟨if_pos h, if_pos h⟩
theorem varOk_w {l : List UInt8} {i wd : Int} (h : wOk wd = false) : varOk l i wd = false := by unfold varOk; rw [h]; rfl
theorem varOk_no {l : List UInt8} {i wd : Int} (h : ¬ (0 ≤ i ∧ i + wd ≤ l.length ∧ 0 ≤ vNum l i wd ∧ vNum l i wd ≤ l.length - (i + wd))) : varOk l i wd = false := by
  unfold varOk; rw [decide_eq_false h, Bool.and_false]
theorem varOk_yes {l : List UInt8} {i wd : Int} (hw : wOk wd = true) (h : 0 ≤ i ∧ i + wd ≤ l.length ∧ 0 ≤ vNum l i wd ∧ vNum l i wd ≤ l.length - (i + wd)) : varOk l i wd = true := by
  unfold varOk; rw [decide_eq_true h, hw]; rfl
set_option maxHeartbeats 800000 in
theorem iGetVar_any (l : List UInt8) (i wd : Int) (w : World) (hl : l.length ≤ 1099511627776) :
    Calls Tryz.prog 78 #[.string ⟨l.toArray⟩, .int .i64 i, .int .i64 wd] w fun e w' => e = .returned (.tuple #[.string ⟨(varL l i wd).toArray⟩, .int .i64 (varI l i wd)]) ∧ Below w.heap.size w w' := by
  cases hw : wOk wd
  · have HN : Hid _ := var_no (varOk_w (l := l) (i := i) hw)
    go_enter Tryz.func78, Tryz.ntmps78
    go_wp2_with fail
    refine (varLimit_any _ _).mono ?_
    rintro e w1 ⟨rfl, hw1⟩
    subst hw1
    rw [hw]
    go_wp2
    go_ret2
    exact ⟨str_two (by rw [HN.out.1]) HN.out.2.symm, Below.refl _ _⟩
  · have hwd := wOk_is hw
    cases hb : hasB l.length i wd
    · have HN : Hid _ := var_no (varOk_no (l := l) (i := i) (wd := wd) (by have := hasB_out hb; omega))
      have HW : Hid _ := hw
      clear hw hwd
      go_enter Tryz.func78, Tryz.ntmps78
      go_wp2_with fail
      refine (varLimit_any _ _).mono ?_
      rintro e w1 ⟨rfl, hw1⟩
      subst hw1
      rw [HW.out]
      go_wp2_with fail
      refine (hasBytes_any _ _ _ _ hl).mono ?_
      rintro e w1 ⟨rfl, hw1⟩
      subst hw1
      rw [hb]
      go_wp2
      go_ret2
      exact ⟨str_two (by rw [HN.out.1]) HN.out.2.symm, Below.refl _ _⟩
    · have hin := hasB_in hb
      have HW : Hid _ := hw
      have HB : Hid _ := hb
      obtain ⟨k, rfl⟩ := Int.eq_ofNat_of_zero_le hin.1
      obtain ⟨d, rfl⟩ := Int.eq_ofNat_of_zero_le (show 0 ≤ wd by omega)
      have hd : d = 2 ∨ d = 3 := by omega
      have hkd : k + d ≤ l.length := by omega
      have hnb := numOf_bd ((l.drop k).take d)
      have HV : Hid (vNum l k d = numOf ((l.drop k).take d)) := rfl
      have hpl : ((l.drop k).take d).length ≤ 1099511627776 := by simp; omega
      have HP : Hid _ := piece_eq l k d
      clear hw hb hin hwd
      go_enter Tryz.func78, Tryz.ntmps78
      go_wp2_with fail
      refine (varLimit_any _ _).mono ?_
      rintro e w1 ⟨rfl, hw1⟩
      subst hw1
      rw [HW.out]
      go_wp2_with fail
      refine (hasBytes_any _ _ _ _ hl).mono ?_
      rintro e w1 ⟨rfl, hw1⟩
      subst hw1
      rw [HB.out]
      have hk1 : (k : Int) ≤ (k : Int) + (d : Int) := by omega
      have hk2 : (k : Int) + (d : Int) ≤ (l.length : Int) := by omega
      clear HB
      go_wp2_with fail
      rw [HP.out]
      refine (iNumOf_any _ _ hpl).mono ?_
      rintro e w1 ⟨rfl, hw1⟩
      subst hw1
      obtain ⟨n, hn⟩ : ∃ n, numOf ((l.drop k).take d) = n := ⟨_, rfl⟩
      rw [hn] at hnb HV ⊢
      clear hn HP hpl
      by_cases hneg : n < 0
      · have HN : Hid _ := var_no (varOk_no (l := l) (i := k) (wd := d) (by rw [HV.out]; omega))
        go_wp2
        go_ret2
        exact ⟨str_two (by rw [HN.out.1]) HN.out.2.symm, Below.refl _ _⟩
      · obtain ⟨m, rfl⟩ := Int.eq_ofNat_of_zero_le (show 0 ≤ n by omega)
        cases hb : hasB l.length ((k : Int) + (d : Int)) m
        · have HN : Hid _ := var_no (varOk_no (l := l) (i := k) (wd := d) (by have := hasB_out hb; rw [HV.out]; omega))
          go_wp2_with fail
          refine (hasBytes_any _ _ _ _ hl).mono ?_
          rintro e w1 ⟨rfl, hw1⟩
          subst hw1
          rw [hb]
          go_wp2
          go_ret2
          exact ⟨str_two (by rw [HN.out.1]) HN.out.2.symm, Below.refl _ _⟩
        · have hin := hasB_in hb
          have HN : Hid (varL l k d = (l.drop (k + d)).take m ∧ varI l k d = (k : Int) + d + m) := by
            have h := var_yes (varOk_yes (l := l) (i := k) (wd := d) HW.out (by rw [HV.out]; omega))
            rw [HV.out] at h
            exact h
          have HB : Hid _ := hb
          have hkz : 0 ≤ (k : Int) + (d : Int) := by omega
          have hkm : (k : Int) + (d : Int) ≤ (k : Int) + (d : Int) + (m : Int) := by omega
          have hkl : (k : Int) + (d : Int) + (m : Int) ≤ (l.length : Int) := by omega
          have hpl : ((l.drop (k + d)).take m).length ≤ 1099511627776 := by simp; omega
          have HP : Hid _ := piece_eq l (k + d) m
          clear hb hin hneg
          go_wp2_with fail
          refine (hasBytes_any _ _ _ _ hl).mono ?_
          rintro e w1 ⟨rfl, hw1⟩
          subst hw1
          rw [HB.out]
          clear HB
          go_wp2_with fail
          rw [HP.out]
          refine (clone_any _ _ hpl).mono ?_
          rintro e w2 ⟨rfl, b2⟩
          clear hpl
          generalize (l.drop (k + d)).take m = r at HN
          go_wp2
          go_ret2
          exact ⟨str_two (by rw [HN.out.1]) HN.out.2.symm, b2⟩
end Go.Proofs.YtjnekdihmchlpaaGreatDoor
/- A message out of bytes, plainly. No Go in sight. -/
namespace Go.Proofs.YtjnekdihmchlpaaGreatDoor
/-- what stands at place i by a field's form, and the place behind it -/
def rawL (l : List UInt8) (i n : Int) : List UInt8 :=
  if fK n = 1 then getL l i (fS n)
  else if fK n = 2 then (if hasB l.length i 2 = true then getL l (i + 2) (numOf ((l.drop i.toNat).take 2)) else [])
  else if fK n = 3 then (if hasB l.length i (fS n) = true then (l.drop i.toNat).take (fS n).toNat else [])
  else if fK n = 4 then varL l i 2 else if fK n = 5 then varL l i 3 else []
def rawI (l : List UInt8) (i n : Int) : Int :=
  if fK n = 1 then getI l i (fS n)
  else if fK n = 2 then (if hasB l.length i 2 = true then getI l (i + 2) (numOf ((l.drop i.toNat).take 2)) else -1)
  else if fK n = 3 then (if hasB l.length i (fS n) = true then i + fS n else -1)
  else if fK n = 4 then varI l i 2 else if fK n = 5 then varI l i 3 else -1
theorem raw1 {l : List UInt8} {i n : Int} (h : fK n = 1) : rawL l i n = getL l i (fS n) ∧ rawI l i n = getI l i (fS n) := ⟨if_pos h, if_pos h⟩
theorem raw2 {l : List UInt8} {i n : Int} (h : fK n = 2) : rawL l i n = (if hasB l.length i 2 = true then getL l (i + 2) (numOf ((l.drop i.toNat).take 2)) else []) ∧ rawI l i n = (if hasB l.length i 2 = true then getI l (i + 2) (numOf ((l.drop i.toNat).take 2)) else -1) := by
  unfold rawL rawI; simp [h]
theorem raw3 {l : List UInt8} {i n : Int} (h : fK n = 3) : rawL l i n = (if hasB l.length i (fS n) = true then (l.drop i.toNat).take (fS n).toNat else []) ∧ rawI l i n = (if hasB l.length i (fS n) = true then i + fS n else -1) := by
  unfold rawL rawI; simp [h]
theorem raw4 {l : List UInt8} {i n : Int} (h : fK n = 4) : rawL l i n = varL l i 2 ∧ rawI l i n = varI l i 2 := by
  unfold rawL rawI; simp [h]
theorem raw5 {l : List UInt8} {i n : Int} (h : fK n = 5) : rawL l i n = varL l i 3 ∧ rawI l i n = varI l i 3 := by
  unfold rawL rawI; simp [h]
theorem raw0 {l : List UInt8} {i n : Int} (h : fK n = 0) : rawL l i n = [] ∧ rawI l i n = -1 := by
  unfold rawL rawI; simp [h]
def fldAt (l : List UInt8) (i n : Int) : Bool := decide (0 ≤ rawI l i n) && fieldOk n (rawL l i n)
theorem getL_len (l : List UInt8) (i n : Int) : (getL l i n).length ≤ 100 := by
  unfold getL; split
  · rename_i h
    rw [unL_len]
    unfold getOk at h
    simp at h; omega
  · simp
theorem varL_len (l : List UInt8) (i n : Int) : (varL l i n).length ≤ l.length := by
  unfold varL; split
  · rw [List.length_take, List.length_drop]; omega
  · simp
theorem rawL_len (l : List UInt8) (i n : Int) (hl : l.length ≤ 1048576) : (rawL l i n).length ≤ 1099511627776 := by
  have h1 := getL_len l i (fS n)
  have h2 := getL_len l (i + 2) (numOf ((l.drop i.toNat).take 2))
  have h3 := varL_len l i 2
  have h4 := varL_len l i 3
  unfold rawL
  split
  · omega
  · split
    · split
      · omega
      · simp
    · split
      · split
        · rw [List.length_take, List.length_drop]; omega
        · simp
      · split
        · omega
        · split
          · omega
          · simp
theorem getI_le {l : List UInt8} {i n : Int} (h : 0 ≤ getI l i n) : i ≤ getI l i n ∧ getI l i n ≤ l.length := by
  unfold getI at h ⊢
  split at h
  · rename_i ho
    rw [if_pos ho]
    unfold getOk at ho
    simp at ho; omega
  · omega
theorem varI_le {l : List UInt8} {i n : Int} (h : 0 ≤ varI l i n) : i ≤ varI l i n ∧ varI l i n ≤ l.length := by
  unfold varI at h ⊢
  split at h
  · rename_i ho
    rw [if_pos ho]
    unfold varOk at ho
    simp at ho
    have := wOk_is ho.1
    omega
  · omega
theorem rawI_le {l : List UInt8} {i n : Int} (h : 0 ≤ rawI l i n) (hs : 0 ≤ fS n) : i ≤ rawI l i n ∧ rawI l i n ≤ l.length := by
  unfold rawI at h ⊢
  split at h
  · rename_i e; rw [if_pos e]; exact getI_le h
  · rename_i e; rw [if_neg e]
    split at h
    · rename_i e2; rw [if_pos e2]
      split at h
      · rename_i e3; rw [if_pos e3]; have := getI_le h; omega
      · omega
    · rename_i e2; rw [if_neg e2]
      split at h
      · rename_i e3; rw [if_pos e3]
        split at h
        · rename_i e4; rw [if_pos e4]; have := hasB_in e4; omega
        · omega
      · rename_i e3; rw [if_neg e3]
        split at h
        · rename_i e4; rw [if_pos e4]; exact varI_le h
        · rename_i e4; rw [if_neg e4]
          split at h
          · rename_i e5; rw [if_pos e5]; exact varI_le h
          · omega
/-- the fields one by one: the code, the place, the fields -/
def rdF (l : List UInt8) : List Int → Int → List Fld → Int × Int × List Fld
  | [], a, acc => if a < (l.length : Int) then (4, a, []) else (0, 0, acc)
  | n :: r, a, acc => if fldAt l a n = true then rdF l r (rawI l a n) (acc ++ [(n, rawL l a n)]) else (3, n, [])
theorem rdF_step (l : List UInt8) (ns : List Int) (k : Nat) (a : Int) (acc : List Fld) (h : k < ns.length) :
    rdF l (ns.drop k) a acc = if fldAt l a (ns.getD k 0) = true then rdF l (ns.drop (k + 1)) (rawI l a (ns.getD k 0)) (acc ++ [(ns.getD k 0, rawL l a (ns.getD k 0))]) else (3, ns.getD k 0, []) := by
  have e : ns.getD k 0 = ns[k] := by simp [List.getD_eq_getElem?_getD, h]
  rw [List.drop_eq_getElem_cons h, e]; rfl
def kindOk (l : List UInt8) : Bool := hasB l.length 0 4 && within 48 57 (l.take 4)
/-- the code, the place, the kind, the fields -/
def unp (l : List UInt8) : Int × Int × Int × List Fld :=
  if kindOk l = false then (1, 0, 0, [])
  else if getSI l 4 < 0 then (2, 4, 0, [])
  else if (rdF l (getSL l 4) (getSI l 4) []).1 = 0 then (0, 0, numOf (l.take 4), (rdF l (getSL l 4) (getSI l 4) []).2.2)
  else ((rdF l (getSL l 4) (getSI l 4) []).1, (rdF l (getSL l 4) (getSI l 4) []).2.1, 0, [])
end Go.Proofs.YtjnekdihmchlpaaGreatDoor
/- The contracts of PutDigits, the program's. -/
namespace Go.Proofs.YtjnekdihmchlpaaGreatDoor
open Go.RowKit
set_option maxHeartbeats 400000 in
theorem packedLen_any (n : Nat) (w : World) (hn : n ≤ 1099511627776) :
    Calls Tryz.prog 113 #[.int .i64 n] w fun e w' => e = .returned (.int .i64 ((n + 1) / 2 : Nat)) ∧ w' = w := by
  go_enter Tryz.func113, Tryz.ntmps113
  go_wp2
  go_ret
  exact ⟨one_int (by omega), rfl⟩
def shiftOf (h : Nat) : Nat := if h % 2 = 0 then 4 else 0
theorem shift_even {h : Nat} (e : h % 2 = 0) : shiftOf h = 4 := if_pos e
theorem shift_odd {h : Nat} (e : h % 2 = 1) : shiftOf h = 0 := if_neg (by omega)
set_option maxHeartbeats 400000 in
theorem digitPlace_any (k n : Nat) (w : World) (hn : n ≤ 1099511627776) (hk : k ≤ 1099511627776) :
    Calls Tryz.prog 114 #[.int .i64 k, .int .i64 n] w fun e w' => e = .returned (.tuple #[.int .i64 ((k + n % 2) / 2 : Nat), .int .i64 (shiftOf (k + n % 2))]) ∧ w' = w := by
  by_cases h : (k + n % 2) % 2 = 0
  · have HS : Hid _ := shift_even h
    have e2 : ((k : Int) + (n : Int) % 2) % 2 = 0 := by omega
    go_enter Tryz.func114, Tryz.ntmps114
    go_wp2
    go_ret2
    exact ⟨two_ints (by omega) (by rw [HS.out]; rfl), rfl⟩
  · have HS : Hid _ := shift_odd (show (k + n % 2) % 2 = 1 by omega)
    have e2 : ((k : Int) + (n : Int) % 2) % 2 = 1 := by omega
    go_enter Tryz.func114, Tryz.ntmps114
    go_wp2
    go_ret2
    exact ⟨two_ints (by omega) (by rw [HS.out]; rfl), rfl⟩
theorem cells0 (e : List UInt8) (h m : Nat) (hz : ∀ j, cellK e h j = 0) : (List.replicate m (0 : UInt8)).map cell = (List.range m).map fun j => Value.int .u8 (cellK e h j) := by
  apply List.ext_getElem?
  intro i
  by_cases hi : i < m
  · simp [hi, cell, hz]
  · simp [hi]
theorem cells1 (e : List UInt8) (m : Nat) (hd : within 48 57 e = true) : ((List.range m).map fun j => Value.int .u8 (cellK e (2 * m) j)) = (pkL e m).map cell := by
  unfold pkL
  rw [List.map_map]
  refine List.map_congr_left fun j hj => ?_
  rw [List.mem_range] at hj
  have a := dg_le hd (2 * j)
  have b := dg_le hd (2 * j + 1)
  simp only [cell, pkB, Function.comp, cellK_all e m j hj]
  rw [UInt8.toNat_ofNat']
  congr 1
  omega
theorem or_two : ∀ x d : Fin 10, bits .or .u8 ((x.val : Int) * 16) (d.val : Int) = (x.val : Int) * 16 + (d.val : Int) := by decide +kernel
theorem or_hi : ∀ d : Fin 10, bits .or .u8 0 ((d.val : Int) * 16) = (d.val : Int) * 16 := by decide +kernel
set_option maxHeartbeats 1000000 in
theorem packDigits_any (l : List UInt8) (w : World) (hl : l.length ≤ 100) (hd : within 48 57 l = true) :
    Calls Tryz.prog 71 #[.string ⟨l.toArray⟩] w fun e w' => e = .returned (.string ⟨(pkL (padE l) ((l.length + 1) / 2)).toArray⟩) ∧ Below w.heap.size w w' := by
  obtain ⟨i0, hi, hz0, hz1, hz2⟩ := info_parts info5
  obtain ⟨m, hm⟩ : ∃ m, (l.length + 1) / 2 = m := ⟨_, rfl⟩
  have hm50 : m ≤ 50 := by omega
  have HD : Hid _ := hd
  have HM : Hid _ := hm
  clear hd hm
  go_enter Tryz.func71, Tryz.ntmps71
  go_wp2_with fail
  refine (packedLen_any _ _ (by omega)).mono ?_
  rintro e w1 ⟨rfl, hw1⟩
  subst hw1
  rw [HM.out]
  go_wp2_with (refine wpList_make_full _ rfl (.tmp 9) (.tmp 9) 22 rfl w1.heap.size 5 i0 (.int .u8 0) 1 Tryz.underlying22 hi hz0 hz1 .i64 .i64 _ _ m rfl rfl rfl rfl (by rw [hz2]; omega) (by unfold maxLen; omega) (Nat.le_refl _) ?_; intro w2 hown hg)
  rw [made5, cells0 (padE l) (l.length % 2) m cellK_first] at hown
  have hb2 : Below w1.heap.size w1 w2 := (Below.refl _ _).grown hg (Nat.le_refl _) (fun k hk => by cases hk)
  clear hg
  go_loopw [4, 5, 6, 13] (fun _ _ _ i wr => ∃ k : Nat, k ≤ l.length ∧ i = .int .i64 k ∧ wr.ownsRow w1.heap.size 5 1 (.slice (some ⟨w1.heap.size, 0, none⟩) m m) m ((List.range m).map fun j => Value.int .u8 (cellK (padE l) (k + l.length % 2) j)) ∧ Below w1.heap.size w1 wr) (fun _ _ _ i _ => l.length - (intOf i).toNat)
  case atStart => exact ⟨0, Nat.zero_le _, rfl, by rw [Nat.zero_add]; exact hown, hb2⟩
  case round =>
    obtain ⟨k, hk, rfl, ho, hbr⟩ := hrel
    clear hown
    by_cases hlt : k < l.length
    · have hki : (k : Int) < (l.length : Int) := by omega
      have hw := within_at HD.out hlt
      have hp := padE_at l k
      obtain ⟨c, hc⟩ : ∃ c, (⟨l.toArray⟩ : ByteArray)[k]'(by rw [ba_size]; exact hlt) = c := ⟨_, rfl⟩
      rw [(byte_at l k hlt).trans hc] at hw hp
      obtain ⟨h, hh⟩ : ∃ h, k + l.length % 2 = h := ⟨_, rfl⟩
      rw [hh] at ho hp
      have hat : h / 2 < m := by have := HM.out; omega
      have c2 : wr.cell? ⟨w1.heap.size, h / 2, none⟩ = some (.int .u8 (cellK (padE l) h (h / 2))) := by rw [ho.cellAt _ (by simpa using hat)]; simp [hat]
      have c3 : wr.frozen? ⟨w1.heap.size, h / 2, none⟩ = false := ho.frozenAt _
      obtain ⟨q, hq⟩ : ∃ q, h / 2 = q := ⟨_, rfl⟩
      rw [hq] at c2 c3 hat
      have hqi : (q : Int) < (m : Int) := by omega
      have hst := fun v => (ho.stored q (.int .u8 v)).1
      have hdg : dg (padE l) h = c.toNat - 48 := by unfold dg; rw [hp]
      have HST : Hid (∀ v : Int, v = (cellK (padE l) (h + 1) q : Nat) → (wr.setCell ⟨w1.heap.size, q, none⟩ (.int .u8 v)).ownsRow w1.heap.size 5 1 (.slice (some ⟨w1.heap.size, 0, none⟩) m m) m ((List.range m).map fun j => Value.int .u8 (cellK (padE l) (k + 1 + l.length % 2) j))) := by
        intro v hv
        have h1 := hst v
        rw [hv, map_range_set (fun j => Value.int .u8 (cellK (padE l) h j)) (fun j => Value.int .u8 (cellK (padE l) (h + 1) j)) m q (fun i hi => by rw [cellK_other (padE l) h i (by omega)])] at h1
        rw [show k + 1 + l.length % 2 = h + 1 from by omega, hv]
        exact h1
      have HH : Hid (k + l.length % 2 = h) := hh
      have HQ : Hid (h / 2 = q) := hq
      have hcb : (c.toNat : Int) ≤ 57 := by omega
      have hca : (48 : Int) ≤ (c.toNat : Int) := by omega
      by_cases hev : h % 2 = 0
      · have hz := cellK_even (padE l) h hev
        rw [hq, hdg] at hz
        rw [hz.1] at c2
        have c2' : wr.cell? ⟨w1.heap.size, q, none⟩ = some (.int .u8 0) := c2
        have HV : Hid (bits .or .u8 0 (((c.toNat : Int) - 48) * 16) = (cellK (padE l) (h + 1) q : Nat)) := by
          have := or_hi ⟨c.toNat - 48, by omega⟩
          simp only at this
          rw [Hid, show (c.toNat : Int) - 48 = ((c.toNat - 48 : Nat) : Int) from by omega, this, hz.2]
          omega
        clear hh hq ho hp hst hz c2 hdg
        go_wp2_with fail
        refine (digitPlace_any _ _ _ (by omega) (by omega)).mono ?_
        rintro e w3 ⟨rfl, hw3⟩
        subst hw3
        rw [HH.out, HQ.out, shift_even hev]
        go_wp2_with fail
        go_region
        go_wp2
        go_roundw
        case rel => exact ⟨k + 1, by omega, by go_num, (HST.out _ HV.out).drew, (hbr.setCell (Nat.le_refl _) _).drew⟩
        case measure => simp [intOf]; omega
      · have hod : h % 2 = 1 := by omega
        have hz := cellK_odd (padE l) h hod
        rw [hq, hdg] at hz
        have hx := dg_le (padE_dig HD.out) (h - 1)
        obtain ⟨x, hxe⟩ : ∃ x, dg (padE l) (h - 1) = x := ⟨_, rfl⟩
        rw [hxe] at hz hx
        rw [hz.1] at c2
        have c2' : wr.cell? ⟨w1.heap.size, q, none⟩ = some (.int .u8 ((x : Int) * 16)) := c2
        have HV : Hid (bits .or .u8 ((x : Int) * 16) ((c.toNat : Int) - 48) = (cellK (padE l) (h + 1) q : Nat)) := by
          have := or_two ⟨x, by omega⟩ ⟨c.toNat - 48, by omega⟩
          simp only at this
          rw [Hid, show (c.toNat : Int) - 48 = ((c.toNat - 48 : Nat) : Int) from by omega, this, hz.2]
          omega
        clear hh hq ho hp hst hz c2 hdg hxe
        go_wp2_with fail
        refine (digitPlace_any _ _ _ (by omega) (by omega)).mono ?_
        rintro e w3 ⟨rfl, hw3⟩
        subst hw3
        rw [HH.out, HQ.out, shift_odd hod]
        go_wp2_with fail
        go_region
        go_wp2
        go_roundw
        case rel => exact ⟨k + 1, by omega, by go_num, (HST.out _ HV.out).drew, (hbr.setCell (Nat.le_refl _) _).drew⟩
        case measure => simp [intOf]; omega
    · have hke : k = l.length := by omega
      subst hke
      have he : l.length + l.length % 2 = 2 * m := by have := HM.out; omega
      rw [he, cells1 (padE l) m (padE_dig HD.out)] at ho
      have ht := text_own ho
      have HO : Hid _ := ho
      clear ho he
      go_wp2
      go_ret
      exact ⟨one_str (by rw [HM.out]), hbr⟩
theorem putD_some {l r : List UInt8} (h : putD l = some r) : within 48 57 l = true ∧ l.length ≤ 100 ∧ r = pkL (padE l) ((l.length + 1) / 2) := by
  unfold putD at h
  split at h
  · rename_i h1
    exact ⟨h1.1, h1.2, (Option.some.inj h).symm⟩
  · cases h
set_option maxHeartbeats 400000 in
theorem iPutDigits_any (l : List UInt8) (w : World) (hl : l.length ≤ 1099511627776) :
    Calls Tryz.prog 172 #[.string ⟨l.toArray⟩] w fun e w' => e = .returned (.tuple #[.string ⟨((putD l).getD []).toArray⟩, .bool (putD l).isSome]) ∧ Below w.heap.size w w' := by
  by_cases hbig : 100 < l.length
  · have HN : Hid _ := putD_no2 hbig
    have hbi : (100 : Int) < (l.length : Int) := by omega
    go_enter Tryz.func172, Tryz.ntmps172
    go_wp2
    go_ret2
    exact ⟨str_ok (by rw [HN.out]; rfl) (by rw [HN.out]; rfl), Below.refl _ _⟩
  · have hbi : (l.length : Int) ≤ 100 := by omega
    have hl1 : l.length ≤ 100 := by omega
    cases hd : within 48 57 l
    · have HN : Hid _ := putD_no1 hd
      go_enter Tryz.func172, Tryz.ntmps172
      go_wp2_with fail
      refine (iAllDig_any _ _ hl).mono ?_
      rintro e w1 ⟨rfl, hw⟩
      subst hw
      rw [hd]
      go_wp2
      go_ret2
      exact ⟨str_ok (by rw [HN.out]; rfl) (by rw [HN.out]; rfl), Below.refl _ _⟩
    · have HY : Hid _ := putD_yes hd hl1
      have HD : Hid _ := hd
      go_enter Tryz.func172, Tryz.ntmps172
      go_wp2_with fail
      refine (iAllDig_any _ _ hl).mono ?_
      rintro e w1 ⟨rfl, hw⟩
      subst hw
      rw [hd]
      clear hd
      go_wp2_with fail
      refine (packDigits_any _ _ hl1 HD.out).mono ?_
      rintro e w2 ⟨rfl, b2⟩
      generalize pkL (padE l) ((l.length + 1) / 2) = r at HY
      go_wp2
      go_ret2
      exact ⟨str_ok (by rw [HY.out]; rfl) (by rw [HY.out]; rfl), b2⟩
end Go.Proofs.YtjnekdihmchlpaaGreatDoor
/- The contract of the specification's PutDigits. -/
namespace Go.Proofs.YtjnekdihmchlpaaGreatDoor
open Go.RowKit
theorem wrap8 {x : Int} (h0 : 0 ≤ x) (h1 : x ≤ 255) : IntKind.u8.wrap x = x := by
  simp [IntKind.wrap, IntKind.bits, IntKind.signed]; omega
theorem own0 (w : World) : (w.alloc (.cells #[] 5)).ownsRow w.heap.size 5 1 (.slice (some ⟨w.heap.size, 0, none⟩) 0 0) 0 [] := World.ownsRow_lit w #[] 0 (Nat.le_refl _) (by unfold maxLen; omega) rfl
theorem pkB_nat {e : List UInt8} (hd : within 48 57 e = true) (j : Nat) : (pkB e j).toNat = dg e (2 * j) * 16 + dg e (2 * j + 1) := by
  have a := dg_le hd (2 * j)
  have b := dg_le hd (2 * j + 1)
  unfold pkB; rw [UInt8.toNat_ofNat']; omega
end Go.Proofs.YtjnekdihmchlpaaGreatDoor
/- The contracts of GetDigits, the program's and the specification's. -/
namespace Go.Proofs.YtjnekdihmchlpaaGreatDoor
open Go.RowKit
theorem nib_shr : ∀ c : Fin 256, bits .and .u8 ((c.val : Int) / 16) 15 = ((c.val / 16 : Nat) : Int) := by decide +kernel
theorem nib_and : ∀ c : Fin 256, bits .and .u8 (c.val : Int) 15 = ((c.val % 16 : Nat) : Int) := by decide +kernel
theorem nib_even (b : List UInt8) (h : Nat) (e : h % 2 = 0) : nib b h = (b.getD (h / 2) 0).toNat / 16 := if_pos e
theorem nib_odd (b : List UInt8) (h : Nat) (e : h % 2 = 1) : nib b h = (b.getD (h / 2) 0).toNat % 16 := if_neg (by omega)
/-- the first k places hold f, the others 0 -/
def fill8 (f : Nat → UInt8) (n k : Nat) : List Value := (List.range n).map fun j => if j < k then cell (f j) else .int .u8 0
theorem fill8_zero (f : Nat → UInt8) (n : Nat) : (List.replicate n (0 : UInt8)).map cell = fill8 f n 0 := by
  apply List.ext_getElem?
  intro i
  by_cases hi : i < n
  · simp [hi, cell, fill8]
  · simp [hi, fill8]
theorem fill8_all (f : Nat → UInt8) (n : Nat) : fill8 f n n = ((List.range n).map f).map cell := by
  unfold fill8
  rw [List.map_map]
  refine List.map_congr_left fun j hj => ?_
  rw [List.mem_range] at hj
  simp [hj]
theorem fill8_at (f : Nat → UInt8) (n k : Nat) (h : k < n) : (fill8 f n k)[k]? = some (.int .u8 0) := by simp [fill8, h]
theorem fill8_succ (f : Nat → UInt8) (n k : Nat) : (fill8 f n k).set k (cell (f k)) = fill8 f n (k + 1) := by
  have := map_range_set (fun j => if j < k then cell (f j) else .int .u8 0) (fun j => if j < k + 1 then cell (f j) else .int .u8 0) n k (fun i hi => by
    by_cases h1 : i < k
    · rw [if_pos h1, if_pos (by omega)]
    · rw [if_neg h1, if_neg (by omega)])
  rw [if_pos (by omega)] at this
  exact this
theorem fill8_len (f : Nat → UInt8) (n k : Nat) : (fill8 f n k).length = n := by simp [fill8]
set_option maxRecDepth 100000 in
set_option maxHeartbeats 1000000 in
theorem unpack_any (b : List UInt8) (n : Nat) (w : World) (hn : n ≤ 100) (hb : b.length = (n + 1) / 2) :
    Calls Tryz.prog 171 #[.string ⟨b.toArray⟩, .int .i64 n] w fun e w' => e = .returned (.string ⟨(unL b n).toArray⟩) ∧ Below w.heap.size w w' := by
  obtain ⟨i0, hi, hz0, hz1, hz2⟩ := info_parts info5
  have HB : Hid _ := hb
  clear hb
  go_enter Tryz.func171, Tryz.ntmps171
  go_wp2_with (refine wpList_make_full _ rfl (.tmp 9) (.tmp 9) 22 rfl w.heap.size 5 i0 (.int .u8 0) 1 Tryz.underlying22 hi hz0 hz1 .i64 .i64 _ _ n rfl rfl rfl rfl (by rw [hz2]; omega) (by unfold maxLen; omega) (Nat.le_refl _) ?_; intro w2 hown hg)
  rw [made5, fill8_zero (fun k => unB b (k + n % 2))] at hown
  have hb2 : Below w.heap.size w w2 := (Below.refl _ _).grown hg (Nat.le_refl _) (fun k hk => by cases hk)
  clear hg
  go_loopw [6, 7, 8, 13] (fun _ _ _ i wr => ∃ k : Nat, k ≤ n ∧ i = .int .i64 k ∧ wr.ownsRow w.heap.size 5 1 (.slice (some ⟨w.heap.size, 0, none⟩) n n) n (fill8 (fun k => unB b (k + n % 2)) n k) ∧ Below w.heap.size w wr) (fun _ _ _ i _ => n - (intOf i).toNat)
  case atStart => exact ⟨0, Nat.zero_le _, rfl, hown, hb2⟩
  case round =>
    obtain ⟨k, hk, rfl, ho, hbr⟩ := hrel
    clear hown
    by_cases hlt : k < n
    · have hki : (k : Int) < (n : Int) := by omega
      have hu := unB_nat b (k + n % 2)
      have hst := (ho.stored k (cell (unB b (k + n % 2)))).1
      rw [fill8_succ (fun k => unB b (k + n % 2)) n k] at hst
      have c2 : wr.cell? ⟨w.heap.size, k, none⟩ = some (.int .u8 0) := by rw [ho.cellAt k (by omega), fill8_at _ _ _ hlt]
      have c3 : wr.frozen? ⟨w.heap.size, k, none⟩ = false := ho.frozenAt k
      obtain ⟨h, hh⟩ : ∃ h, k + n % 2 = h := ⟨_, rfl⟩
      rw [hh] at hu hst
      have hq2 : h / 2 < b.length := by have := HB.out; omega
      have hne := nib_even b h
      have hno := nib_odd b h
      have hnl := nib_lt b h
      obtain ⟨q, hq⟩ : ∃ q, h / 2 = q := ⟨_, rfl⟩
      rw [hq] at hq2 hne hno
      obtain ⟨c, hc⟩ : ∃ c, (⟨b.toArray⟩ : ByteArray)[q]'(by rw [ba_size]; exact hq2) = c := ⟨_, rfl⟩
      rw [(byte_at b q hq2).trans hc] at hne hno
      have hqi : (q : Int) < (b.length : Int) := by omega
      have hcb : (c.toNat : Int) ≤ 255 := by have := c.toNat_lt; omega
      have HH : Hid (k + n % 2 = h) := hh
      have HQ : Hid (h / 2 = q) := hq
      by_cases hev : h % 2 = 0
      · have f1 : bits .and .u8 ((c.toNat : Int) / 16) 15 = (nib b h : Int) := by rw [hne hev]; exact nib_shr ⟨c.toNat, c.toNat_lt⟩
        have HST : Hid ((wr.setCell ⟨w.heap.size, k, none⟩ (.int .u8 (48 + (nib b h : Int)))).ownsRow w.heap.size 5 1 (.slice (some ⟨w.heap.size, 0, none⟩) n n) n (fill8 (fun k => unB b (k + n % 2)) n (k + 1))) := by
          have e : cell (unB b h) = .int .u8 (48 + (nib b h : Int)) := by unfold cell; rw [hu]; congr 1
          rw [Hid, ← e]; exact hst
        obtain ⟨x, hx⟩ : ∃ x, nib b h = x := ⟨_, rfl⟩
        rw [hx] at f1 HST hnl
        clear hh hq ho hst hne hno hu hx
        go_wp2_with fail
        refine (digitPlace_any _ _ _ (by omega) (by omega)).mono ?_
        rintro e w3 ⟨rfl, hw3⟩
        subst hw3
        rw [HH.out, HQ.out, shift_even hev]
        go_wp2
        go_roundw
        case rel => exact ⟨k + 1, by omega, by go_num, HST.out, hbr.setCell (Nat.le_refl _) _⟩
        case measure => simp [intOf]; omega
      · have hod : h % 2 = 1 := by omega
        have f1 : bits .and .u8 (c.toNat : Int) 15 = (nib b h : Int) := by rw [hno hod]; exact nib_and ⟨c.toNat, c.toNat_lt⟩
        have HST : Hid ((wr.setCell ⟨w.heap.size, k, none⟩ (.int .u8 (48 + (nib b h : Int)))).ownsRow w.heap.size 5 1 (.slice (some ⟨w.heap.size, 0, none⟩) n n) n (fill8 (fun k => unB b (k + n % 2)) n (k + 1))) := by
          have e : cell (unB b h) = .int .u8 (48 + (nib b h : Int)) := by unfold cell; rw [hu]; congr 1
          rw [Hid, ← e]; exact hst
        obtain ⟨x, hx⟩ : ∃ x, nib b h = x := ⟨_, rfl⟩
        rw [hx] at f1 HST hnl
        clear hh hq ho hst hne hno hu hx
        go_wp2_with fail
        refine (digitPlace_any _ _ _ (by omega) (by omega)).mono ?_
        rintro e w3 ⟨rfl, hw3⟩
        subst hw3
        rw [HH.out, HQ.out, shift_odd hod]
        go_wp2
        go_roundw
        case rel => exact ⟨k + 1, by omega, by go_num, HST.out, hbr.setCell (Nat.le_refl _) _⟩
        case measure => simp [intOf]; omega
    · have hke : k = n := by omega
      subst hke
      rw [fill8_all] at ho
      have ht := text_own ho
      have HO : Hid _ := ho
      clear ho
      go_wp2
      go_ret
      exact ⟨rfl, hbr⟩
theorem goodB_no {b : List UInt8} {n : Nat} (hb : b.length = (n + 1) / 2) (hn : n ≤ 100) (h : putD (unL b n) ≠ some b) : goodB b n = false := by
  cases e : goodB b n
  · rfl
  · exact absurd ((again b n hb hn).2 e) h
set_option maxRecDepth 100000 in
set_option maxHeartbeats 1000000 in
theorem iGetDigits_any (l : List UInt8) (i n : Int) (w : World) (hl : l.length ≤ 1099511627776) :
    Calls Tryz.prog 150 #[.string ⟨l.toArray⟩, .int .i64 i, .int .i64 n] w fun e w' => e = .returned (.tuple #[.string ⟨(getL l i n).toArray⟩, .int .i64 (getI l i n)]) ∧ Below w.heap.size w w' := by
  by_cases h0 : n < 0
  · have HN : Hid _ := get_no (getOk_out (l := l) (i := i) (n := n) (by omega))
    go_enter Tryz.func150, Tryz.ntmps150
    go_wp2
    go_ret2
    exact ⟨str_two (by rw [HN.out.1]) HN.out.2.symm, Below.refl _ _⟩
  · by_cases h1 : 100 < n
    · have HN : Hid _ := get_no (getOk_out (l := l) (i := i) (n := n) (by omega))
      go_enter Tryz.func150, Tryz.ntmps150
      go_wp2
      go_ret2
      exact ⟨str_two (by rw [HN.out.1]) HN.out.2.symm, Below.refl _ _⟩
    · obtain ⟨d, rfl⟩ := Int.eq_ofNat_of_zero_le (show 0 ≤ n by omega)
      have hd : d ≤ 100 := by omega
      have hd' : (d : Int) ≤ 100 := by omega
      clear h0 h1
      obtain ⟨m, hm⟩ : ∃ m, (d + 1) / 2 = m := ⟨_, rfl⟩
      have HM : Hid _ := hm
      have hm50 : m ≤ 50 := by omega
      cases hb : hasB l.length i m
      · have HN : Hid _ := get_no (getOk_out (l := l) (i := i) (n := d) (by have := hasB_out hb; omega))
        clear hm
        go_enter Tryz.func150, Tryz.ntmps150
        go_wp2_with fail
        refine (packedLen_any _ _ (by omega)).mono ?_
        rintro e w1 ⟨rfl, hw1⟩
        subst hw1
        rw [HM.out]
        go_wp2_with fail
        refine (hasBytes_any _ _ _ _ hl).mono ?_
        rintro e w1 ⟨rfl, hw1⟩
        subst hw1
        rw [hb]
        go_wp2
        go_ret2
        exact ⟨str_two (by rw [HN.out.1]) HN.out.2.symm, Below.refl _ _⟩
      · have hin := hasB_in hb
        obtain ⟨k, rfl⟩ := Int.eq_ofNat_of_zero_le hin.1
        have HB : Hid _ := hb
        have hk1 : (k : Int) ≤ (k : Int) + (m : Int) := by omega
        have hk2 : (k : Int) + (m : Int) ≤ (l.length : Int) := by omega
        have HP : Hid _ := piece_eq l k m
        have hbl : ((l.drop k).take m).length = m := piece_len (by omega)
        have HK : Hid (getOk l k d = goodB ((l.drop k).take m) d) := by rw [Hid, getOk_in (by omega), hm]
        have HY : Hid (getOk l k d = true → getL l k d = unL ((l.drop k).take m) d ∧ getI l k d = (k : Int) + (m : Int)) := by
          intro h
          have := get_yes h
          rw [Int.toNat_natCast, Int.toNat_natCast, hm] at this
          exact ⟨this.1, by rw [this.2]; omega⟩
        obtain ⟨b, hbe⟩ : ∃ b, (l.drop k).take m = b := ⟨_, rfl⟩
        rw [hbe] at HP hbl HK HY
        have hbl2 : b.length = (d + 1) / 2 := by omega
        have HG : Hid (putD (unL b d) ≠ some b → getL l k d = [] ∧ getI l k d = -1) := fun h => get_no (by rw [HK.out]; exact goodB_no hbl2 hd h)
        have HT : Hid (putD (unL b d) = some b → getL l k d = unL b d ∧ getI l k d = (k : Int) + (m : Int)) := fun h => HY.out (by rw [HK.out]; exact (again b d hbl2 hd).1 h)
        have hul : (unL b d).length ≤ 1099511627776 := by rw [unL_len]; omega
        have HL2 : Hid _ := hbl2
        clear hb hin hm HK HY hbe hbl hbl2
        go_enter Tryz.func150, Tryz.ntmps150
        go_wp2_with fail
        refine (packedLen_any _ _ (by omega)).mono ?_
        rintro e w1 ⟨rfl, hw1⟩
        subst hw1
        rw [HM.out]
        go_wp2_with fail
        refine (hasBytes_any _ _ _ _ hl).mono ?_
        rintro e w1 ⟨rfl, hw1⟩
        subst hw1
        rw [HB.out]
        clear HB
        go_wp2_with fail
        refine (packedLen_any _ _ (by omega)).mono ?_
        rintro e w1 ⟨rfl, hw1⟩
        subst hw1
        rw [HM.out]
        go_wp2_with fail
        rw [HP.out]
        refine (unpack_any b d _ hd HL2.out).mono ?_
        rintro e w2 ⟨rfl, b2⟩
        go_wp2_with fail
        refine (iPutDigits_any _ _ hul).mono ?_
        rintro e w3 ⟨rfl, b3⟩
        have B3 := next b2 b3
        clear b2 b3 hul
        obtain ⟨r, hr⟩ : ∃ r, putD (unL b d) = r := ⟨_, rfl⟩
        rw [hr] at HG HT ⊢
        clear hr
        generalize unL b d = u at HT
        cases r with
        | none =>
          have HN : Hid _ := HG.out (by simp)
          simp only [Option.getD_none, Option.isSome_none]
          go_wp2
          go_ret2
          exact ⟨str_two (by rw [HN.out.1]) HN.out.2.symm, B3⟩
        | some r =>
          simp only [Option.getD_some, Option.isSome_some]
          by_cases hrb : r = b
          · subst hrb
            have HN : Hid _ := HT.out rfl
            clear HG HT
            have hp := HP.out
            go_wp2
            go_ret2
            exact ⟨str_two (by rw [HN.out.1]) HN.out.2.symm, B3⟩
          · have HN : Hid _ := HG.out (by simpa using hrb)
            clear HG HT
            have hp := HP.out
            have hrb' : (r == b) = false := by simpa using hrb
            go_wp2
            go_ret2
            exact ⟨str_two (by rw [HN.out.1]) HN.out.2.symm, B3⟩
end Go.Proofs.YtjnekdihmchlpaaGreatDoor
/- The contracts of the functions that tell a field's form, the program's and the specification's, and of the forms' own tests. -/
namespace Go.Proofs.YtjnekdihmchlpaaGreatDoor
open Go.RowKit
def knB (n : Int) : Bool := knowns.contains n
theorem knB_yes {n : Int} (h : n ∈ knowns) : knB n = true := by simpa [knB] using h
theorem knB_no {n : Int} (h : n ∉ knowns) : knB n = false := by simpa [knB] using h
def formV (n : Int) : Value :=
  if fK n = 1 then .iface 106 (.agg #[.int .i64 (fS n)])
  else if fK n = 2 then .iface 104 (.agg #[.int .i64 (fS n)])
  else if fK n = 3 then .iface 109 (.agg #[.int .i64 (fS n)])
  else if fK n = 4 then .iface 108 (.agg #[.int .i64 (fS n), .int .i64 2])
  else if fK n = 5 then .iface 108 (.agg #[.int .i64 (fS n), .int .i64 3])
  else .nilIface
theorem form_two {a b : Value} {x y : Bool} (h : a = b) (g : x = y) : Ending.returned (.tuple #[a, .bool x]) = .returned (.tuple #[b, .bool y]) := by rw [h, g]
set_option maxHeartbeats 4000000 in
theorem formOf_any (n : Int) (w : World) :
    Calls Tryz.prog 35 #[.int .i64 n] w fun e w' => e = .returned (.tuple #[formV n, .bool (knB n)]) ∧ w' = w := by
  by_cases h : n ∈ knowns
  · rcases known_in h with rfl | rfl | rfl | rfl | rfl | rfl | rfl | rfl | rfl | rfl | rfl | rfl | rfl | rfl | rfl <;>
    · clear h
      go_enter Tryz.func35, Tryz.ntmps35
      go_wp2
      go_ret2
      exact ⟨rfl, rfl⟩
  · have H1 : Hid (formV n = .nilIface) := by rw [Hid, formV, fK_no h]; rfl
    have H2 : Hid _ := knB_no h
    obtain ⟨h1, h2, h3, h4, h5, h6, h7, h8, h9, h10, h11, h12, h13, h14, h15⟩ := not_known h
    clear h
    go_enter Tryz.func35, Tryz.ntmps35
    go_wp2
    go_ret2
    exact ⟨form_two H1.out.symm H2.out.symm, rfl⟩
end Go.Proofs.YtjnekdihmchlpaaGreatDoor
/- The contracts of the functions that lay a right field's bytes, the program's and the specification's. -/
namespace Go.Proofs.YtjnekdihmchlpaaGreatDoor
open Go.RowKit
theorem formV1 {n : Int} (hk : fK n = 1) : formV n = .iface 106 (.agg #[.int .i64 (fS n)]) := by rw [formV, if_pos hk]
theorem formV2 {n : Int} (hk : fK n = 2) : formV n = .iface 104 (.agg #[.int .i64 (fS n)]) := by rw [formV, if_neg (by rw [hk]; decide), if_pos hk]
theorem formV3 {n : Int} (hk : fK n = 3) : formV n = .iface 109 (.agg #[.int .i64 (fS n)]) := by rw [formV, if_neg (by rw [hk]; decide), if_neg (by rw [hk]; decide), if_pos hk]
theorem formV4 {n : Int} (hk : fK n = 4) : formV n = .iface 108 (.agg #[.int .i64 (fS n), .int .i64 2]) := by rw [formV, if_neg (by rw [hk]; decide), if_neg (by rw [hk]; decide), if_neg (by rw [hk]; decide), if_pos hk]
theorem formV5 {n : Int} (hk : fK n = 5) : formV n = .iface 108 (.agg #[.int .i64 (fS n), .int .i64 3]) := by rw [formV, if_neg (by rw [hk]; decide), if_neg (by rw [hk]; decide), if_neg (by rw [hk]; decide), if_neg (by rw [hk]; decide), if_pos hk]
theorem put1 {n : Int} {d : List UInt8} (hk : fK n = 1) : putFld n d = pkD d := if_pos hk
theorem put2 {n : Int} {d : List UInt8} (hk : fK n = 2) : putFld n d = padT d.length 2 ++ pkD d := by rw [putFld, if_neg (by rw [hk]; decide), if_pos hk]
theorem put3 {n : Int} {d : List UInt8} (hk : fK n = 3) : putFld n d = d := by rw [putFld, if_neg (by rw [hk]; decide), if_neg (by rw [hk]; decide), if_neg (by rw [hk]; decide), if_neg (by rw [hk]; decide)]
theorem put4 {n : Int} {d : List UInt8} (hk : fK n = 4) : putFld n d = padT d.length 2 ++ d := by rw [putFld, if_neg (by rw [hk]; decide), if_neg (by rw [hk]; decide), if_pos hk]
theorem put5 {n : Int} {d : List UInt8} (hk : fK n = 5) : putFld n d = padT d.length 3 ++ d := by rw [putFld, if_neg (by rw [hk]; decide), if_neg (by rw [hk]; decide), if_neg (by rw [hk]; decide), if_pos hk]
theorem ta11 (s : Int) (w : World) : (Instr.typeAssert (.iface 106 (.agg #[.int .i64 s])) 63 106 true).run Tryz.prog w = .ok (.tuple #[.agg #[.int .i64 s], .bool true]) w := by kernel_rfl
theorem ta21 (s : Int) (w : World) : (Instr.typeAssert (.iface 104 (.agg #[.int .i64 s])) 63 106 true).run Tryz.prog w = .ok (.tuple #[.agg #[.int .i64 0], .bool false]) w := by kernel_rfl
theorem ta22 (s : Int) (w : World) : (Instr.typeAssert (.iface 104 (.agg #[.int .i64 s])) 63 104 true).run Tryz.prog w = .ok (.tuple #[.agg #[.int .i64 s], .bool true]) w := by kernel_rfl
theorem ta31 (s : Int) (w : World) : (Instr.typeAssert (.iface 109 (.agg #[.int .i64 s])) 63 106 true).run Tryz.prog w = .ok (.tuple #[.agg #[.int .i64 0], .bool false]) w := by kernel_rfl
theorem ta32 (s : Int) (w : World) : (Instr.typeAssert (.iface 109 (.agg #[.int .i64 s])) 63 104 true).run Tryz.prog w = .ok (.tuple #[.agg #[.int .i64 0], .bool false]) w := by kernel_rfl
theorem ta33 (s : Int) (w : World) : (Instr.typeAssert (.iface 109 (.agg #[.int .i64 s])) 63 109 true).run Tryz.prog w = .ok (.tuple #[.agg #[.int .i64 s], .bool true]) w := by kernel_rfl
theorem ta41 (s q : Int) (w : World) : (Instr.typeAssert (.iface 108 (.agg #[.int .i64 s, .int .i64 q])) 63 106 true).run Tryz.prog w = .ok (.tuple #[.agg #[.int .i64 0], .bool false]) w := by kernel_rfl
theorem ta42 (s q : Int) (w : World) : (Instr.typeAssert (.iface 108 (.agg #[.int .i64 s, .int .i64 q])) 63 104 true).run Tryz.prog w = .ok (.tuple #[.agg #[.int .i64 0], .bool false]) w := by kernel_rfl
theorem ta43 (s q : Int) (w : World) : (Instr.typeAssert (.iface 108 (.agg #[.int .i64 s, .int .i64 q])) 63 109 true).run Tryz.prog w = .ok (.tuple #[.agg #[.int .i64 0], .bool false]) w := by kernel_rfl
theorem ta44 (s q : Int) (w : World) : (Instr.typeAssert (.iface 108 (.agg #[.int .i64 s, .int .i64 q])) 63 108 true).run Tryz.prog w = .ok (.tuple #[.agg #[.int .i64 s, .int .i64 q], .bool true]) w := by kernel_rfl
set_option maxRecDepth 100000 in
set_option maxHeartbeats 1600000 in
theorem putData_any (n : Int) (d : List UInt8) (w : World) (hok : fieldOk n d = true) (ht : Pow10 w) :
    Calls Tryz.prog 36 #[formV n, .string ⟨d.toArray⟩] w fun e w' => e = .returned (.string ⟨(putFld n d).toArray⟩) ∧ Below w.heap.size w w' := by
  rcases fieldOk_K hok with ⟨hk, _, hw, hl⟩ | ⟨hk, _, hw, hl⟩ | ⟨hk, _, hw, hl⟩ | ⟨hk, _, hw, hl⟩ | ⟨hk, _, hw, hl⟩
  · rw [formV1 hk, put1 hk]
    have h1 := ta11 (fS n)
    clear hok hk ht
    go_enter Tryz.func36, Tryz.ntmps36
    go_wp2_with fail
    refine (packDigits_any d _ (by omega) hw).mono ?_
    rintro e w1 ⟨rfl, b1⟩
    go_wp2
    go_ret
    exact ⟨rfl, Below.trans (by go_grown) (b1.mono (by simp))⟩
  · rw [formV2 hk, put2 hk]
    have h1 := ta21 (fS n)
    have h2 := ta22 (fS n)
    have bel : Below w.heap.size w (w.alloc (.cells #[.int .i64 (fS n)] 104)) := by go_grown
    have ht1 := ht.below bel
    have HB : Hid _ := bel
    clear hok hk ht bel
    go_enter Tryz.func36, Tryz.ntmps36
    go_wp2_with fail
    refine (iPadNum_any _ _ _ ht1).mono ?_
    rintro e w1 ⟨rfl, b1⟩
    go_wp2_with fail
    refine (packDigits_any d _ (by omega) hw).mono ?_
    rintro e w2 ⟨rfl, b2⟩
    have hpl := padT_l d.length 2
    have hkl := pkD_len d
    have HQ : Hid (pkL (padE d) ((d.length + 1) / 2) = pkD d) := rfl
    rw [HQ.out]
    have bb := next (HB.out.trans (b1.mono HB.out.size)) b2
    clear b1 b2 ht1
    obtain ⟨p, hp⟩ : ∃ p, padT (↑d.length) 2 = p := ⟨_, rfl⟩
    rw [hp] at hpl ⊢
    have HP : Hid _ := hp
    clear hp
    obtain ⟨q, hq⟩ : ∃ q, pkD d = q := ⟨_, rfl⟩
    rw [hq] at hkl ⊢
    have hql : q.length ≤ 100 := by omega
    have HQ2 : Hid _ := hq
    clear hq hkl HQ
    go_wp2
    go_ret
    exact ⟨one_str (by rw [HP.out, HQ2.out]; exact ba_append p q), bb⟩
  · rw [formV3 hk, put3 hk]
    have h1 := ta31 (fS n)
    have h2 := ta32 (fS n)
    have h3 := ta33 (fS n)
    clear hok hk ht
    go_enter Tryz.func36, Tryz.ntmps36
    go_wp2
    go_ret
    exact ⟨rfl, by go_grown⟩
  · rw [formV4 hk, put4 hk]
    have h1 := ta41 (fS n) 2
    have h2 := ta42 (fS n) 2
    have h3 := ta43 (fS n) 2
    have h4 := ta44 (fS n) 2
    have bel : Below w.heap.size w (w.alloc (.cells #[.int .i64 (fS n), .int .i64 2] 108)) := by go_grown
    have ht1 := ht.below bel
    have HB : Hid _ := bel
    clear hok hk ht bel
    go_enter Tryz.func36, Tryz.ntmps36
    go_wp2_with fail
    refine (iPadNum_any _ _ _ ht1).mono ?_
    rintro e w1 ⟨rfl, b1⟩
    have hpl := padT_l d.length 2
    have bb := HB.out.trans (b1.mono HB.out.size)
    clear b1 ht1
    obtain ⟨p, hp⟩ : ∃ p, padT (↑d.length) 2 = p := ⟨_, rfl⟩
    rw [hp] at hpl ⊢
    have HP : Hid _ := hp
    clear hp
    go_wp2
    go_ret
    exact ⟨one_str (by rw [HP.out]; exact ba_append p d), bb⟩
  · rw [formV5 hk, put5 hk]
    have h1 := ta41 (fS n) 3
    have h2 := ta42 (fS n) 3
    have h3 := ta43 (fS n) 3
    have h4 := ta44 (fS n) 3
    have bel : Below w.heap.size w (w.alloc (.cells #[.int .i64 (fS n), .int .i64 3] 108)) := by go_grown
    have ht1 := ht.below bel
    have HB : Hid _ := bel
    clear hok hk ht bel
    go_enter Tryz.func36, Tryz.ntmps36
    go_wp2_with fail
    refine (iPadNum_any _ _ _ ht1).mono ?_
    rintro e w1 ⟨rfl, b1⟩
    have hpl := padT_l d.length 3
    have bb := HB.out.trans (b1.mono HB.out.size)
    clear b1 ht1
    obtain ⟨p, hp⟩ : ∃ p, padT (↑d.length) 3 = p := ⟨_, rfl⟩
    rw [hp] at hpl ⊢
    have HP : Hid _ := hp
    clear hp
    go_wp2
    go_ret
    exact ⟨one_str (by rw [HP.out]; exact ba_append p d), bb⟩
end Go.Proofs.YtjnekdihmchlpaaGreatDoor
/- Slices of ints: reading them, copying them, holding them against each other. -/
namespace Go.Proofs.YtjnekdihmchlpaaGreatDoor
open Go.RowKit
/-- The slice at 'ao' reads as 'zs' in w. -/
def IntsAt (w : World) (ao : Option Addr) (zs : List Int) : Prop :=
  zs = [] ∨ ∃ b off, ao = some ⟨b, off, none⟩ ∧ b < w.heap.size ∧ ∀ i, i < zs.length → w.cell? ⟨b, off + i, none⟩ = some (.int .i64 (zs.getD i 0))
theorem IntsAt.below {w w' : World} {ao : Option Addr} {zs : List Int} (h : IntsAt w ao zs) (hb : Below w.heap.size w w') : IntsAt w' ao zs := by
  rcases h with h | ⟨b, off, h1, h2, h3⟩
  · exact .inl h
  · exact .inr ⟨b, off, h1, Nat.lt_of_lt_of_le h2 hb.size, fun i hi => (hb.cell (p := ⟨b, off + i, none⟩) h2).trans (h3 i hi)⟩
theorem getD_take {zs : List Int} {len i : Nat} (h : i < len) : (zs.take len).getD i 0 = zs.getD i 0 := by
  simp [List.getD_eq_getElem?_getD, h]
theorem ints_of_row {w : World} {a : Option Addr} {len cap : Nat} {zs : List Int} (h : IsRow .i64 w a len cap zs) : (zs.take len).length = len ∧ IntsAt w a (zs.take len) := by
  rcases h with ⟨rfl, rfl, rfl, rfl⟩ | ⟨x, rfl, hl, hm, hz, hcell, hwz⟩
  · exact ⟨rfl, .inl rfl⟩
  · have hlen : (zs.take len).length = len := by rw [List.length_take]; omega
    refine ⟨hlen, ?_⟩
    by_cases h0 : len = 0
    · subst h0; exact .inl (by simp)
    · obtain ⟨b, off, spot⟩ := x
      have hc := hcell 0 (by omega)
      have hspot : spot = none := by simpa [Addr.add] using World.cell?_spot hc
      subst hspot
      refine .inr ⟨b, off, rfl, ?_, fun i hi => ?_⟩
      · exact World.block_lt_of_cell? w _ hc
      · rw [hlen] at hi
        rw [getD_take hi]
        have := hcell i (by omega)
        by_cases e : i = 0
        · subst e; simpa [Addr.add] using this
        · simpa [Addr.add, e] using this
theorem ints_of_own {w : World} {base g n cap : Nat} {zs : List Int} (h : w.ownsRow base 3 1 (.slice (some ⟨g, 0, none⟩) n cap) n (zs.map (Value.int .i64))) : IntsAt w (some ⟨g, 0, none⟩) zs := by
  by_cases h0 : zs = []
  · exact .inl h0
  · have hl : zs.length = n := by simpa using h.1
    have hp : 0 < zs.length := List.length_pos_iff.2 h0
    have hc : ∀ i, i < zs.length → w.cell? ⟨g, 0 + i, none⟩ = some (.int .i64 (zs.getD i 0)) := by
      intro i hi
      rw [Nat.zero_add, h.cellAt i (by omega)]
      simp [List.getD_eq_getElem?_getD, hi]
    exact .inr ⟨g, 0, rfl, World.block_lt_of_cell? w _ (hc 0 hp), hc⟩
theorem info3 : (Tryz.prog.info? 3).map (fun i => (i.zero, i.size, i.bytes)) = some (some (.int .i64 0), 1, 8) := by kernel_rfl
/-- what toIntS has copied behind k rounds -/
def half (zs : List Int) (k : Nat) : List Value := (zs.take k).map (Value.int .i64) ++ List.replicate (zs.length - k) (.int .i64 0)
theorem half_zero (zs : List Int) : half zs 0 = List.replicate zs.length (.int .i64 0) := by simp [half]
theorem half_all (zs : List Int) : half zs zs.length = zs.map (Value.int .i64) := by simp [half]
theorem half_succ (zs : List Int) (k : Nat) (h : k < zs.length) : half zs (k + 1) = (half zs k).set k (.int .i64 (zs.getD k 0)) := by
  apply List.ext_getElem?
  intro j
  simp only [half, List.getElem?_set, List.getElem?_append, List.length_map, List.length_take, List.getElem?_map, List.getElem?_take, List.getElem?_replicate, List.getD_eq_getElem?_getD, List.length_append, List.length_replicate]
  by_cases h1 : j < k
  · have : j < zs.length := by omega
    have : ¬ k = j := by omega
    simp [*, Nat.min_eq_left (Nat.le_of_lt h), Nat.min_eq_left (show k + 1 ≤ zs.length by omega), show j < k + 1 by omega]
  · by_cases h2 : j = k
    · subst h2
      have : j < j + (zs.length - j) := by omega
      simp [*, Nat.min_eq_left (Nat.le_of_lt h), Nat.min_eq_left (show j + 1 ≤ zs.length by omega)]
    · have : ¬ k = j := by omega
      have a1 : ¬ j < k + 1 := by omega
      simp [*, Nat.min_eq_left (Nat.le_of_lt h), Nat.min_eq_left (show k + 1 ≤ zs.length by omega)]
      by_cases h3 : j < zs.length
      · rw [if_pos (by omega), if_pos (by omega)]
      · rw [if_neg (by omega), if_neg (by omega)]
theorem half_len (zs : List Int) (k : Nat) (h : k ≤ zs.length) : (half zs k).length = zs.length := by simp [half]; omega
theorem half_at (zs : List Int) (k : Nat) (h : k < zs.length) : (half zs k)[k]? = some (.int .i64 0) := by
  simp [half, List.getElem?_append, Nat.min_eq_left (Nat.le_of_lt h), List.getElem?_replicate]
  omega
end Go.Proofs.YtjnekdihmchlpaaGreatDoor
/- The contracts of PutSet, the program's. -/
namespace Go.Proofs.YtjnekdihmchlpaaGreatDoor
open Go.RowKit
theorem and7 : ∀ x : Fin 128, bits .and .i64 (x.val : Int) 7 = ((x.val % 8 : Nat) : Int) := by decide +kernel
theorem int_byte {a b x y : Int} (h : a = b) (g : x = y) : Ending.returned (.tuple #[.int .i64 a, .int .u8 x]) = .returned (.tuple #[.int .i64 b, .int .u8 y]) := by rw [h, g]
theorem bitV_eq (r : Nat) (hr : r < 8) : bitV r = 128 / 2 ^ r := by
  rcases (show r = 0 ∨ r = 1 ∨ r = 2 ∨ r = 3 ∨ r = 4 ∨ r = 5 ∨ r = 6 ∨ r = 7 from by omega) with rfl | rfl | rfl | rfl | rfl | rfl | rfl | rfl <;> rfl
set_option maxRecDepth 100000 in
set_option maxHeartbeats 800000 in
theorem bitPlace_any (q r : Nat) (w : World) (hq : q < 16) (hr : r < 8) :
    Calls Tryz.prog 112 #[.int .i64 (8 * q + r + 1 : Nat)] w fun e w' => e = .returned (.tuple #[.int .i64 q, .int .u8 (bitV r)]) ∧ ∃ d, w' = w.drewN d := by
  obtain ⟨n, hn⟩ : ∃ n, 8 * q + r + 1 = n := ⟨_, rfl⟩
  rw [hn]
  have hn1 : (1 : Int) ≤ (n : Int) := by omega
  have hn2 : (n : Int) ≤ 128 := by omega
  have ha : bits .and .i64 ((n : Int) - 1) 7 = (r : Int) := by
    have := and7 ⟨n - 1, by omega⟩
    simp only at this
    rw [show (n : Int) - 1 = ((n - 1 : Nat) : Int) from by omega, this]
    omega
  go_enter Tryz.func112, Tryz.ntmps112
  go_wp2
  go_quiet (fail)
  go_wp2
  go_ret2
  exact ⟨int_byte (by omega) (bitV_eq r hr).symm, _, rfl⟩
/-- what the cells of a set's bytes hold -/
def cellsS (f : Nat → Bool) (m : Nat) : List Value := (List.range m).map fun k => Value.int .u8 (partB f k 8)
theorem cellsS_text (f : Nat → Bool) (m : Nat) : cellsS f m = (setB f m).map cell := by
  unfold cellsS setB
  rw [List.map_map]
  refine List.map_congr_left fun k _ => ?_
  simp only [Function.comp, cell, byteOf_nat]
theorem cellsS_none (m : Nat) : (List.replicate m (0 : UInt8)).map cell = cellsS (fun _ => false) m := by
  have h : ∀ k b, partB (fun _ => false) k b = 0 := by
    intro k b
    induction b with
    | zero => rfl
    | succ b ih => rw [partB, ih]; rfl
  apply List.ext_getElem?
  intro i
  by_cases hi : i < m
  · simp [hi, cell, cellsS, h]
  · simp [hi, cellsS]
theorem gdN {w w' : World} {row : Option Nat} (h : w.grownBy w' row) (n : Nat) : w.grownBy (w'.drewN n) row := ⟨h.os, h.tape, h.output, h.size, h.block⟩
set_option maxRecDepth 100000 in
set_option maxHeartbeats 800000 in
theorem putBit_any (g m cap base q r : Nat) (f : Nat → Bool) (w : World) (ho : w.ownsRow base 5 1 (.slice (some ⟨g, 0, none⟩) m cap) m (cellsS f m)) (hm : m ≤ 16) (hq : q < m) (hr : r < 8) :
    Calls Tryz.prog 69 #[.slice (some ⟨g, 0, none⟩) m cap, .int .i64 (8 * q + r + 1 : Nat)] w fun e w' => e = .returned (.tuple #[]) ∧ w'.ownsRow base 5 1 (.slice (some ⟨g, 0, none⟩) m cap) m (cellsS (addB f (8 * q + r + 1)) m) ∧ w.grownBy w' (some g) := by
  have c2 : w.cell? ⟨g, q, none⟩ = some (.int .u8 (partB f q 8)) := by rw [ho.cellAt q (by omega)]; simp [cellsS, hq]
  have c3 : w.frozen? ⟨g, q, none⟩ = false := ho.frozenAt q
  have HST : Hid (∀ d, ((w.drewN d).setCell ⟨g, q, none⟩ (.int .u8 (bits .or .u8 (partB f q 8 : Int) (bitV r)))).ownsRow base 5 1 (.slice (some ⟨g, 0, none⟩) m cap) m (cellsS (addB f (8 * q + r + 1)) m) ∧ w.grownBy ((w.drewN d).setCell ⟨g, q, none⟩ (.int .u8 (bits .or .u8 (partB f q 8 : Int) (bitV r)))) (some g)) := by
    intro d
    have hod : (w.drewN d).ownsRow base 5 1 (.slice (some ⟨g, 0, none⟩) m cap) m (cellsS f m) := ho
    have h := hod.stored q (.int .u8 (bits .or .u8 (partB f q 8 : Int) (bitV r)))
    refine ⟨?_, (gdN (World.grownBy.refl w _) d).trans h.2⟩
    have e := map_range_set (fun k => Value.int .u8 (partB f k 8)) (fun k => Value.int .u8 (partB (addB f (8 * q + r + 1)) k 8)) m q (fun i hi => by rw [partB_add f q r i hr hi])
    have h1 := h.1
    rw [partB_or f q r hr] at h1 ⊢
    unfold cellsS at h1 ⊢
    rw [e] at h1
    exact h1
  have hqi : (q : Int) < (m : Int) := by omega
  clear ho
  go_enter Tryz.func69, Tryz.ntmps69
  go_wp2_with fail
  refine (bitPlace_any q r _ (by omega) hr).mono ?_
  rintro e w1 ⟨rfl, d, rfl⟩
  go_wp2
  go_end0
  exact ⟨rfl, HST.out d⟩
set_option maxRecDepth 100000 in
set_option maxHeartbeats 800000 in
theorem hasBit_any (l : List UInt8) (q r : Nat) (w : World) (hq : q < l.length) (hq16 : q < 16) (hr : r < 8) :
    Calls Tryz.prog 149 #[.string ⟨l.toArray⟩, .int .i64 (8 * q + r + 1 : Nat)] w fun e w' => e = .returned (.bool (bitL l (8 * q + r + 1))) ∧ ∃ d, w' = w.drewN d := by
  obtain ⟨c, hc⟩ : ∃ c, (⟨l.toArray⟩ : ByteArray)[q]'(by rw [ba_size]; exact hq) = c := ⟨_, rfl⟩
  have HB : Hid ((bits .and .u8 (c.toNat : Int) (bitV r) != 0) = bitL l (8 * q + r + 1)) := by
    have h := and_bit ⟨c.toNat, c.toNat_lt⟩ ⟨r, hr⟩
    unfold bitL
    rw [show (8 * q + r + 1 - 1) / 8 = q from by omega, show (8 * q + r + 1 - 1) % 8 = r from by omega, (byte_at l q hq).trans hc]
    exact h
  have hqi : (q : Int) < (l.length : Int) := by omega
  go_enter Tryz.func149, Tryz.ntmps149
  go_wp2_with fail
  refine (bitPlace_any q r _ hq16 hr).mono ?_
  rintro e w1 ⟨rfl, d, rfl⟩
  go_wp2
  go_ret
  exact ⟨one_bool HB.out, d, rfl⟩
set_option maxRecDepth 100000 in
set_option maxHeartbeats 800000 in
theorem isSet_any (ao : Option Addr) (cap : Nat) (zs : List Int) (w : World) (hx : IntsAt w ao zs) (hl : zs.length ≤ 1099511627776) :
    Calls Tryz.prog 68 #[.slice ao zs.length cap] w fun e w' => e = .returned (.bool (ascS 1 zs)) ∧ w' = w := by
  rcases hx with rfl | ⟨b, off, rfl, hb, hcx⟩
  · go_enter Tryz.func68, Tryz.ntmps68
    go_wp2
    refine wp_loop_rounds 1 ?_
    rw [rounds_succ]
    go_wp2
    go_ret
    exact ⟨rfl, rfl⟩
  · go_enter Tryz.func68, Tryz.ntmps68
    go_wp2
    go_loop [3, 5, 8] (fun l _ i => ∃ (k : Nat) (p : Int), k ≤ zs.length ∧ i = .int .i64 k ∧ l = .int .i64 p ∧ ascS 1 zs = ascS p (zs.drop k)) (fun _ _ i => zs.length - (intOf i).toNat)
    case atStart => exact ⟨0, 1, Nat.zero_le _, rfl, rfl, rfl⟩
    case round =>
      obtain ⟨k, p, hk, rfl, rfl, ht⟩ := hrel
      by_cases hlt : k < zs.length
      · have e1 := hcx k hlt
        have hs := ascS_step zs k p hlt
        obtain ⟨x, hxk⟩ : ∃ x, zs.getD k 0 = x := ⟨_, rfl⟩
        rw [hxk] at e1 hs
        have HK : Hid _ := ht.trans hs
        have hki : (k : Int) < (zs.length : Int) := by omega
        clear hcx hxk ht hs
        by_cases hp : p < x
        · by_cases h128 : x ≤ 128
          · have HY : Hid (ascS 1 zs = ascS x (zs.drop (k + 1))) := by rw [Hid, HK.out, decide_eq_true ⟨hp, h128⟩]; rfl
            go_wp2
            go_round
            case rel => exact ⟨k + 1, x, by omega, by go_num, rfl, HY.out⟩
            case measure => simp [intOf]; omega
          · have HN : Hid (ascS 1 zs = false) := by rw [Hid, HK.out, decide_eq_false (fun h => h128 h.2)]; rfl
            have h' : 128 < x := by omega
            go_wp2
            go_ret
            exact ⟨one_bool HN.out.symm, rfl⟩
        · have hp' : x ≤ p := by omega
          have HN : Hid (ascS 1 zs = false) := by rw [Hid, HK.out, decide_eq_false (fun h => hp h.1)]; rfl
          go_wp2
          go_ret
          exact ⟨one_bool HN.out.symm, rfl⟩
      · have HE : Hid (ascS 1 zs = true) := by rw [Hid, ht, List.drop_of_length_le (by omega)]; rfl
        have hki : ¬ (k : Int) < (zs.length : Int) := by omega
        clear hcx ht
        go_wp2
        go_ret
        exact ⟨one_bool HE.out.symm, rfl⟩
/-- the bits when the first k numbers are put -/
def bitK (zs : List Int) (k : Nat) (n : Nat) : Bool := (decide (n = 1) && wide zs) || (zs.take k).contains (n : Int)
theorem bitK_all (zs : List Int) (k : Nat) (h : zs.length ≤ k) : bitK zs k = bitS zs := by
  funext n; unfold bitK bitS; rw [List.take_of_length_le h]
theorem bitK_succ (zs : List Int) (k m : Nat) (h : k < zs.length) (hm : zs.getD k 0 = (m : Int)) : bitK zs (k + 1) = addB (bitK zs k) m := by
  funext n
  have e : zs[k] = (m : Int) := by rw [← hm]; simp [List.getD_eq_getElem?_getD, h]
  unfold addB bitK
  rw [List.take_add_one, List.getElem?_eq_getElem h, e, Bool.or_assoc]
  congr 1
  by_cases hn : n = m
  · subst hn; simp
  · have : ¬ (n : Int) = (m : Int) := by omega
    simp [hn, this]
theorem bitK_zero_wide {zs : List Int} (h : wide zs = true) : addB (fun _ => false) (8 * 0 + 0 + 1) = bitK zs 0 := by
  funext n; unfold addB bitK; rw [h]; simp
theorem bitK_zero_small {zs : List Int} (h : wide zs = false) : (fun _ => false) = bitK zs 0 := by
  funext n; unfold bitK; rw [h]; simp
theorem set_bd {zs : List Int} {k : Nat} (h : ascS 1 zs = true) (hk : k < zs.length) : 2 ≤ zs.getD k 0 ∧ zs.getD k 0 ≤ 8 * sizeS zs := by
  have hm : zs.getD k 0 ∈ zs := by simp [List.getD_eq_getElem?_getD, hk]
  have hb := ascS_mem h _ hm
  rcases sizeS_or zs with ⟨h1, _⟩ | ⟨h1, h2⟩
  · rw [h1]; omega
  · have : ¬ 64 < zs.getD k 0 := by
      intro hx
      have : wide zs = true := List.any_eq_true.2 ⟨_, hm, by simpa using hx⟩
      rw [h2] at this; cases this
    rw [h1]; omega
end Go.Proofs.YtjnekdihmchlpaaGreatDoor
/- The contract of PutSet, the program's. -/
namespace Go.Proofs.YtjnekdihmchlpaaGreatDoor
open Go.RowKit
set_option maxRecDepth 100000 in
set_option maxHeartbeats 1000000 in
theorem iPut_none (ao : Option Addr) (cap : Nat) (w : World) :
    Calls Tryz.prog 32 #[.slice ao 0 cap] w fun e w' => e = .returned (.tuple #[.string ⟨((putS []).getD []).toArray⟩, .bool (putS []).isSome]) ∧ Below w.heap.size w w' := by
    obtain ⟨i0, hi, hz0, hz1, hz2⟩ := info_parts info5
    have HS : Hid (ascS 1 [] = true) := rfl
    go_enter Tryz.func32, Tryz.ntmps32
    go_wp2_with fail
    refine (isSet_any ao cap [] _ (.inl rfl) (by simp)).mono ?_
    rintro e w1 ⟨rfl, hw⟩
    subst hw
    rw [HS.out]
    go_wp2_with (refine wpList_make_full _ rfl (.tmp 23) (.tmp 23) 22 rfl w1.heap.size 5 i0 (.int .u8 0) 1 Tryz.underlying22 hi hz0 hz1 .i64 .i64 _ _ 8 rfl rfl rfl rfl (by rw [hz2]; omega) (by unfold maxLen; omega) (Nat.le_refl _) ?_; intro w2 hown hg)
    rw [made5, cellsS_none] at hown
    have hb2 : Below w1.heap.size w1 w2 := (Below.refl _ _).grown hg (Nat.le_refl _) (fun k hk => by cases hk)
    clear hg
    rw [bitK_zero_small (zs := []) rfl, bitK_all [] 0 (by simp), cellsS_text] at hown
    have ht := text_own hown
    have HY : Hid (putS [] = some (setB (bitS []) 8)) := by rw [Hid, putS_yes HS.out]; rfl
    clear hown
    refine wp_loop_rounds 1 ?_
    rw [rounds_succ]
    go_wp2
    go_ret2
    exact ⟨str_ok (by rw [HY.out]; rfl) (by rw [HY.out]; rfl), hb2⟩
set_option maxRecDepth 100000 in
set_option maxHeartbeats 1000000 in
theorem iPut_wide (b off cap : Nat) (zs : List Int) (w : World) (hb : b < w.heap.size) (hcx : ∀ i, i < zs.length → w.cell? ⟨b, off + i, none⟩ = some (.int .i64 (zs.getD i 0))) (h0 : 0 < zs.length) (hl : zs.length ≤ 1048576) (hs : ascS 1 zs = true) (hw : wide zs = true) :
    Calls Tryz.prog 32 #[.slice (some ⟨b, off, none⟩) zs.length cap] w fun e w' => e = .returned (.tuple #[.string ⟨((putS zs).getD []).toArray⟩, .bool (putS zs).isSome]) ∧ Below w.heap.size w w' := by
    obtain ⟨i0, hi, hz0, hz1, hz2⟩ := info_parts info5
    have HS : Hid (ascS 1 zs = true) := hs
    have HZ : Hid (sizeS zs = 16) := by unfold sizeS; rw [Hid, if_pos hw]
    have HW : Hid (wide zs = true) := hw
    have hlast := wide_last hs (List.length_pos_iff.1 h0)
    rw [hw] at hlast
    have hlb : 64 < zs.getD (zs.length - 1) 0 := of_decide_eq_true hlast.symm
    have eL := hcx (zs.length - 1) (by omega)
    obtain ⟨y, hy⟩ : ∃ y, zs.getD (zs.length - 1) 0 = y := ⟨_, rfl⟩
    rw [hy] at hlb eL
    obtain ⟨t, ht⟩ : ∃ t, zs.length - 1 = t := ⟨_, rfl⟩
    rw [ht] at eL
    have hti : (zs.length : Int) - 1 = (t : Int) := by omega
    have hti2 : (t : Int) < (zs.length : Int) := by omega
    have h0i : (0 : Int) < (zs.length : Int) := by omega
    have HX : Hid (IntsAt w (some ⟨b, off, none⟩) zs) := .inr ⟨b, off, rfl, hb, hcx⟩
    clear hlast hy hs hw ht
    go_enter Tryz.func32, Tryz.ntmps32
    go_wp2_with fail
    refine (isSet_any _ _ _ _ HX.out (by omega)).mono ?_
    rintro e w1 ⟨rfl, hw⟩
    subst hw
    rw [HS.out]
    go_wp2_with (refine wpList_make_full _ rfl (.tmp 23) (.tmp 23) 22 rfl w1.heap.size 5 i0 (.int .u8 0) 1 Tryz.underlying22 hi hz0 hz1 .i64 .i64 _ _ 16 rfl rfl rfl rfl (by rw [hz2]; omega) (by unfold maxLen; omega) (Nat.le_refl _) ?_; intro w2 hown hg)
    rw [made5, cellsS_none] at hown
    have hb2 : Below w1.heap.size w1 w2 := (Below.refl _ _).grown hg (Nat.le_refl _) (fun k hk => by cases hk)
    clear hg
    clear eL
    go_wp2_with fail
    refine (putBit_any _ _ _ w1.heap.size 0 0 _ _ hown (by omega) (by omega) (by omega)).mono ?_
    rintro e w3 ⟨rfl, ho3, hg3⟩
    rw [bitK_zero_wide HW.out] at ho3
    have hb3 : Below w1.heap.size w1 w3 := hb2.grown hg3 hb2.size (fun q hq => by cases hq; exact Nat.le_refl _)
    clear hown hg3 hb2
    go_wp2
    go_loopw [7, 31] (fun _ i wr => ∃ k : Nat, k ≤ zs.length ∧ i = .int .i64 k ∧ wr.ownsRow w1.heap.size 5 1 (.slice (some ⟨w1.heap.size, 0, none⟩) 16 16) 16 (cellsS (bitK zs k) 16) ∧ Below w1.heap.size w1 wr) (fun _ i _ => zs.length - (intOf i).toNat)
    case atStart => exact ⟨0, Nat.zero_le _, rfl, ho3, hb3⟩
    case round =>
      obtain ⟨k, hk, rfl, ho, hbr⟩ := hrel
      clear ho3 hb3
      by_cases hlt : k < zs.length
      · have e1 : wr.cell? ⟨b, off + k, none⟩ = some (.int .i64 (zs.getD k 0)) := (hbr.cell (p := ⟨b, off + k, none⟩) hb).trans (hcx k hlt)
        have hbd := set_bd HS.out hlt
        rw [HZ.out] at hbd
        obtain ⟨x, hxn⟩ := Int.eq_ofNat_of_zero_le (show 0 ≤ zs.getD k 0 by omega)
        have HK : Hid _ := bitK_succ zs k x hlt hxn
        rw [hxn] at e1 hbd
        obtain ⟨q, hq⟩ : ∃ q, (x - 1) / 8 = q := ⟨_, rfl⟩
        obtain ⟨r, hr⟩ : ∃ r, (x - 1) % 8 = r := ⟨_, rfl⟩
        have hr8 : r < 8 := by omega
        have hqs : q < 16 := by omega
        have HX : Hid (x = 8 * q + r + 1) := by rw [Hid]; omega
        have hki : (k : Int) < (zs.length : Int) := by omega
        clear hcx hxn hq hr
        go_wp2_with fail
        rw [show (x : Int) = ((8 * q + r + 1 : Nat) : Int) from by rw [← HX.out]]
        refine (putBit_any _ _ _ w1.heap.size q r _ _ ho (by omega) hqs hr8).mono ?_
        rintro e w3 ⟨rfl, ho3, hg3⟩
        rw [← HX.out, ← HK.out] at ho3
        have hb3 : Below w1.heap.size w1 w3 := hbr.grown hg3 hbr.size (fun q hq => by cases hq; exact Nat.le_refl _)
        clear ho hg3 hbr e1
        go_wp2
        go_roundw
        case rel => exact ⟨k + 1, by omega, by go_num, ho3, hb3⟩
        case measure => simp [intOf]; omega
      · rw [bitK_all zs k (by omega), cellsS_text] at ho
        have ht := text_own ho
        have HY : Hid (putS zs = some (setB (bitS zs) 16)) := by rw [Hid, putS_yes HS.out, HZ.out]
        have hki : ¬ (k : Int) < (zs.length : Int) := by omega
        clear ho hcx
        go_wp2
        go_ret2
        exact ⟨str_ok (by rw [HY.out]; rfl) (by rw [HY.out]; rfl), hbr⟩
set_option maxRecDepth 100000 in
set_option maxHeartbeats 1000000 in
theorem iPut_small (b off cap : Nat) (zs : List Int) (w : World) (hb : b < w.heap.size) (hcx : ∀ i, i < zs.length → w.cell? ⟨b, off + i, none⟩ = some (.int .i64 (zs.getD i 0))) (h0 : 0 < zs.length) (hl : zs.length ≤ 1048576) (hs : ascS 1 zs = true) (hw : wide zs = false) :
    Calls Tryz.prog 32 #[.slice (some ⟨b, off, none⟩) zs.length cap] w fun e w' => e = .returned (.tuple #[.string ⟨((putS zs).getD []).toArray⟩, .bool (putS zs).isSome]) ∧ Below w.heap.size w w' := by
    obtain ⟨i0, hi, hz0, hz1, hz2⟩ := info_parts info5
    have HS : Hid (ascS 1 zs = true) := hs
    have HZ : Hid (sizeS zs = 8) := by unfold sizeS; rw [Hid, if_neg (by rw [hw]; decide)]
    have HW : Hid (wide zs = false) := hw
    have hlast := wide_last hs (List.length_pos_iff.1 h0)
    rw [hw] at hlast
    have hlb : zs.getD (zs.length - 1) 0 ≤ 64 := by have := of_decide_eq_false hlast.symm; omega
    have eL := hcx (zs.length - 1) (by omega)
    obtain ⟨y, hy⟩ : ∃ y, zs.getD (zs.length - 1) 0 = y := ⟨_, rfl⟩
    rw [hy] at hlb eL
    obtain ⟨t, ht⟩ : ∃ t, zs.length - 1 = t := ⟨_, rfl⟩
    rw [ht] at eL
    have hti : (zs.length : Int) - 1 = (t : Int) := by omega
    have hti2 : (t : Int) < (zs.length : Int) := by omega
    have h0i : (0 : Int) < (zs.length : Int) := by omega
    have HX : Hid (IntsAt w (some ⟨b, off, none⟩) zs) := .inr ⟨b, off, rfl, hb, hcx⟩
    clear hlast hy hs hw ht
    go_enter Tryz.func32, Tryz.ntmps32
    go_wp2_with fail
    refine (isSet_any _ _ _ _ HX.out (by omega)).mono ?_
    rintro e w1 ⟨rfl, hw⟩
    subst hw
    rw [HS.out]
    go_wp2_with (refine wpList_make_full _ rfl (.tmp 23) (.tmp 23) 22 rfl w1.heap.size 5 i0 (.int .u8 0) 1 Tryz.underlying22 hi hz0 hz1 .i64 .i64 _ _ 8 rfl rfl rfl rfl (by rw [hz2]; omega) (by unfold maxLen; omega) (Nat.le_refl _) ?_; intro w2 hown hg)
    rw [made5, cellsS_none] at hown
    have hb2 : Below w1.heap.size w1 w2 := (Below.refl _ _).grown hg (Nat.le_refl _) (fun k hk => by cases hk)
    clear hg
    rw [bitK_zero_small HW.out] at hown
    clear eL
    go_wp2
    go_loopw [7, 31] (fun _ i wr => ∃ k : Nat, k ≤ zs.length ∧ i = .int .i64 k ∧ wr.ownsRow w1.heap.size 5 1 (.slice (some ⟨w1.heap.size, 0, none⟩) 8 8) 8 (cellsS (bitK zs k) 8) ∧ Below w1.heap.size w1 wr) (fun _ i _ => zs.length - (intOf i).toNat)
    case atStart => exact ⟨0, Nat.zero_le _, rfl, hown, hb2⟩
    case round =>
      obtain ⟨k, hk, rfl, ho, hbr⟩ := hrel
      clear hown
      by_cases hlt : k < zs.length
      · have e1 : wr.cell? ⟨b, off + k, none⟩ = some (.int .i64 (zs.getD k 0)) := (hbr.cell (p := ⟨b, off + k, none⟩) hb).trans (hcx k hlt)
        have hbd := set_bd HS.out hlt
        rw [HZ.out] at hbd
        obtain ⟨x, hxn⟩ := Int.eq_ofNat_of_zero_le (show 0 ≤ zs.getD k 0 by omega)
        have HK : Hid _ := bitK_succ zs k x hlt hxn
        rw [hxn] at e1 hbd
        obtain ⟨q, hq⟩ : ∃ q, (x - 1) / 8 = q := ⟨_, rfl⟩
        obtain ⟨r, hr⟩ : ∃ r, (x - 1) % 8 = r := ⟨_, rfl⟩
        have hr8 : r < 8 := by omega
        have hqs : q < 8 := by omega
        have HX : Hid (x = 8 * q + r + 1) := by rw [Hid]; omega
        have hki : (k : Int) < (zs.length : Int) := by omega
        clear hcx hxn hq hr
        go_wp2_with fail
        rw [show (x : Int) = ((8 * q + r + 1 : Nat) : Int) from by rw [← HX.out]]
        refine (putBit_any _ _ _ w1.heap.size q r _ _ ho (by omega) hqs hr8).mono ?_
        rintro e w3 ⟨rfl, ho3, hg3⟩
        rw [← HX.out, ← HK.out] at ho3
        have hb3 : Below w1.heap.size w1 w3 := hbr.grown hg3 hbr.size (fun q hq => by cases hq; exact Nat.le_refl _)
        clear ho hg3 hbr e1
        go_wp2
        go_roundw
        case rel => exact ⟨k + 1, by omega, by go_num, ho3, hb3⟩
        case measure => simp [intOf]; omega
      · rw [bitK_all zs k (by omega), cellsS_text] at ho
        have ht := text_own ho
        have HY : Hid (putS zs = some (setB (bitS zs) 8)) := by rw [Hid, putS_yes HS.out, HZ.out]
        have hki : ¬ (k : Int) < (zs.length : Int) := by omega
        clear ho hcx
        go_wp2
        go_ret2
        exact ⟨str_ok (by rw [HY.out]; rfl) (by rw [HY.out]; rfl), hbr⟩
set_option maxRecDepth 100000 in
set_option maxHeartbeats 400000 in
theorem iPutSet_any (ao : Option Addr) (cap : Nat) (zs : List Int) (w : World) (hx : IntsAt w ao zs) (hl : zs.length ≤ 1048576) :
    Calls Tryz.prog 32 #[.slice ao zs.length cap] w fun e w' => e = .returned (.tuple #[.string ⟨((putS zs).getD []).toArray⟩, .bool (putS zs).isSome]) ∧ Below w.heap.size w w' := by
  cases hs : ascS 1 zs
  · have HN : Hid _ := putS_no hs
    go_enter Tryz.func32, Tryz.ntmps32
    go_wp2_with fail
    refine (isSet_any _ _ _ _ hx (by omega)).mono ?_
    rintro e w1 ⟨rfl, hw⟩
    subst hw
    rw [hs]
    go_wp2
    go_ret2
    exact ⟨str_ok (by rw [HN.out]; rfl) (by rw [HN.out]; rfl), Below.refl _ _⟩
  · by_cases h0 : 0 < zs.length
    · rcases hx with rfl | ⟨b, off, rfl, hb, hcx⟩
      · simp at h0
      · cases hw : wide zs
        · exact iPut_small b off cap zs w hb hcx h0 hl hs hw
        · exact iPut_wide b off cap zs w hb hcx h0 hl hs hw
    · have : zs = [] := List.eq_nil_of_length_eq_zero (by omega)
      subst this
      exact iPut_none ao cap w
end Go.Proofs.YtjnekdihmchlpaaGreatDoor
/- Slices of ints that are one's own memory. -/
namespace Go.Proofs.YtjnekdihmchlpaaGreatDoor
open Go.RowKit
theorem own_ints {w : World} {base : Nat} {v : Value} {zs : List Int} (h : w.ownsRow base 3 1 v zs.length (zs.map (Value.int .i64))) :
    ∃ ao cap, v = .slice ao zs.length cap ∧ IntsAt w ao zs := by
  rcases h.2 with ⟨rfl, h0⟩ | ⟨g, cap, cur, rfl, hrest⟩
  · have : zs = [] := List.eq_nil_of_length_eq_zero h0
    subst this
    exact ⟨none, 0, rfl, .inl rfl⟩
  · exact ⟨_, cap, rfl, ints_of_own h⟩
theorem own_shape {w : World} {base m : Nat} {v : Value} {xs : List Value} (h : w.ownsRow base 3 1 v m xs) : ∃ ao cap, v = .slice ao m cap := by
  rcases h.2 with ⟨rfl, rfl⟩ | ⟨g, cap, cur, rfl, hrest⟩
  · exact ⟨none, 0, rfl⟩
  · exact ⟨_, cap, rfl⟩
theorem ints_own {w : World} {base n cap : Nat} {ao : Option Addr} {zs : List Int} (h : w.ownsRow base 3 1 (.slice ao n cap) n (zs.map (Value.int .i64))) : IntsAt w ao zs := by
  have hl : zs.length = n := by simpa using h.1
  subst hl
  obtain ⟨ao', c, hv, hz⟩ := own_ints h
  obtain ⟨rfl, _⟩ : ao = ao' ∧ cap = c := by simpa using hv
  exact hz
theorem ho_ne {w : World} {base g n : Nat} {v : Value} {xs : List Value} (h : w.ownsRow base 3 1 v n xs) (hg : g < base) : v.ownBlock = none ∨ v.ownBlock ≠ some g := by
  right; intro e; have := (h.lt g e).1; omega
end Go.Proofs.YtjnekdihmchlpaaGreatDoor
/- The contract of GetSet, the program's. -/
namespace Go.Proofs.YtjnekdihmchlpaaGreatDoor
open Go.RowKit
/-- what GetSet answers: a list of one's own, and a place -/
def Sets (w : World) (zs : List Int) (p : Int) (e : Ending) (w' : World) : Prop :=
  ∃ ao cap, e = .returned (.tuple #[.slice ao zs.length cap, .int .i64 p]) ∧ w'.ownsRow w.heap.size 3 1 (.slice ao zs.length cap) zs.length (zs.map (Value.int .i64)) ∧ Below w.heap.size w w'
theorem sets_nil {w w' : World} {zs : List Int} {p : Int} {e : Ending} (h : zs = [] ∧ p = -1) (he : e = .returned (.tuple #[.slice none 0 0, .int .i64 (-1)])) (hb : Below w.heap.size w w') : Sets w zs p e w' := by
  obtain ⟨rfl, rfl⟩ := h
  exact ⟨none, 0, he, World.ownsRow_nil _ _ _ _, hb⟩
theorem sets_own {w w' : World} {zs ys : List Int} {p q : Int} {e : Ending} {v : Value} (h : zs = ys ∧ p = q) (he : e = .returned (.tuple #[v, .int .i64 q])) (ho : w'.ownsRow w.heap.size 3 1 v ys.length (ys.map (Value.int .i64))) (hb : Below w.heap.size w w') : Sets w zs p e w' := by
  obtain ⟨rfl, rfl⟩ := h
  obtain ⟨ao, cap, rfl⟩ := own_shape ho
  exact ⟨ao, cap, he, ho, hb⟩
theorem own_keep {w w' : World} {base n : Nat} {v : Value} {xs : List Value} (h : w.ownsRow base 3 1 v n xs) (hb : Below w.heap.size w w') : w'.ownsRow base 3 1 v n xs := by
  obtain ⟨h1, h2⟩ := h
  refine ⟨h1, ?_⟩
  rcases h2 with h2 | ⟨g, cap, cur, a, b, c, d⟩
  · exact .inl h2
  · have hlt : g < w.heap.size := by
      by_cases e : g < w.heap.size
      · exact e
      · rw [Array.getElem?_eq_none (by omega)] at c; cases c
    exact .inr ⟨g, cap, cur, a, b, (hb.block g hlt).trans c, d⟩
theorem own_drew {w w' : World} {base n d : Nat} {v : Value} {xs : List Value} (h : w.ownsRow base 3 1 v n xs) (hw : w' = w.drewN d) : w'.ownsRow base 3 1 v n xs := by
  subst hw; exact h
theorem tail_eq (l : List UInt8) (k : Nat) (n : Nat) (hn : l.length ≤ n) : (⟨l.toArray⟩ : ByteArray).extract k n = ⟨(l.drop k).toArray⟩ := by
  rw [ba_extract, List.take_of_length_le (by simp; omega)]
set_option maxRecDepth 100000 in
set_option maxHeartbeats 1000000 in
theorem iGet_16 (l : List UInt8) (k : Nat) (w : World) (hl : l.length ≤ 1048576) (hk : k < l.length) (hc : 128 ≤ (l.getD k 0).toNat) :
    Calls Tryz.prog 119 #[.string ⟨l.toArray⟩, .int .i64 k] w fun e w' => Sets w (getSL l k) (getSI l k) e w' := by
  obtain ⟨i3, hi3, hz30, hz31, hz32⟩ := info_parts info3
  have hm : szB (l.getD k 0) = 16 := by unfold szB; rw [if_pos hc]
  have H1 : Hid (hasB l.length (k : Int) 1 = true) := hasB_pos (by omega) (by omega) (by omega)
  have HBI : Hid (bitL (l.drop k) (8 * 0 + 0 + 1) = true) := by rw [Hid, show 8 * 0 + 0 + 1 = 1 from rfl, bitL_first]; exact decide_eq_true hc
  have HT : Hid _ := tail_eq l k
  have hdl : 0 < (l.drop k).length := by simp; omega
  have hki : (k : Int) < (l.length : Int) := by omega
  have hki2 : (k : Int) ≤ (l.length : Int) := by omega
  have hl2 : l.length ≤ 1099511627776 := by omega
  cases hb : hasB l.length (k : Int) 16
  · have HN : Hid _ := getS_no (getS_out (l := l) (i := k) (by have := hasB_out hb; rw [Int.toNat_natCast, hm]; omega))
    clear hm
    go_enter Tryz.func119, Tryz.ntmps119
    go_wp2_with fail
    refine (hasBytes_any _ _ _ _ hl2).mono ?_
    rintro e w1 ⟨rfl, hw1⟩
    subst hw1
    rw [H1.out]
    go_wp2_with fail
    rw [HT.out _ (by first | exact Nat.le_refl _ | (rw [ba_size]; exact Nat.le_refl _))]
    refine (hasBit_any (l.drop k) 0 0 _ hdl (by omega) (by omega)).mono ?_
    rintro e w2 ⟨rfl, d, hw2⟩
    subst hw2
    rw [HBI.out]
    go_wp2_with fail
    refine (hasBytes_any _ _ _ _ hl2).mono ?_
    rintro e w3 ⟨rfl, hw3⟩
    subst hw3
    rw [hb]
    go_wp2
    go_ret2
    exact sets_nil HN.out rfl (below_drewN (Below.refl _ _) d)
  · have hin := hasB_in hb
    have HG : Hid _ := getS_in (l := l) (k := k) (b := (l.drop k).take 16) hm (by omega) rfl (by omega)
    have HB : Hid _ := hb
    have HP : Hid _ := piece_eq l k 16
    have hbl : ((l.drop k).take 16).length = 16 := piece_len (by omega)
    obtain ⟨b, hbe⟩ : ∃ b, (l.drop k).take 16 = b := ⟨_, rfl⟩
    rw [hbe] at HG HP hbl
    have hk1 : (k : Int) ≤ (k : Int) + 16 := by omega
    have hk2 : (k : Int) + 16 ≤ (l.length : Int) := by omega
    clear hm hb hin hbe
    go_enter Tryz.func119, Tryz.ntmps119
    go_wp2_with fail
    refine (hasBytes_any _ _ _ _ hl2).mono ?_
    rintro e w1 ⟨rfl, hw1⟩
    subst hw1
    rw [H1.out]
    go_wp2_with fail
    rw [HT.out _ (by first | exact Nat.le_refl _ | (rw [ba_size]; exact Nat.le_refl _))]
    refine (hasBit_any (l.drop k) 0 0 _ hdl (by omega) (by omega)).mono ?_
    rintro e w2 ⟨rfl, d, hw2⟩
    have B2 : Below w1.heap.size w1 w2 := by rw [hw2]; exact below_drewN (Below.refl _ _) d
    clear hw2
    rw [HBI.out]
    go_wp2_with fail
    refine (hasBytes_any _ _ _ _ hl2).mono ?_
    rintro e w3 ⟨rfl, hw3⟩
    subst hw3
    rw [HB.out]
    clear H1 HBI HT HB hdl
    go_wp2
    go_loopw [8, 9] (fun v i wr => ∃ t : Nat, 1 ≤ t ∧ t ≤ 128 ∧ i = .int .i64 (t + 1 : Nat) ∧ wr.ownsRow w1.heap.size 3 1 v (numsL b t).length ((numsL b t).map (Value.int .i64)) ∧ Below w1.heap.size w1 wr) (fun _ i _ => 128 + 1 - (intOf i).toNat)
    case atStart => exact ⟨1, Nat.le_refl _, by omega, rfl, by rw [numsL_one]; exact World.ownsRow_nil _ _ _ _, B2⟩
    case round =>
      obtain ⟨t, ht1, ht2, rfl, ho, hbr⟩ := hrel
      by_cases hlt : t < 128
      · have hsu := numsL_succ b t ht1
        have hlen := numsL_len b t
        obtain ⟨n, hn⟩ : ∃ n, t + 1 = n := ⟨_, rfl⟩
        obtain ⟨q, hq⟩ : ∃ q, (n - 1) / 8 = q := ⟨_, rfl⟩
        obtain ⟨r, hr⟩ : ∃ r, (n - 1) % 8 = r := ⟨_, rfl⟩
        have hr8 : r < 8 := by omega
        have hqb : q < b.length := by omega
        have hq16 : q < 16 := by omega
        have HX : Hid (n = 8 * q + r + 1) := by rw [Hid]; omega
        rw [hn] at hsu ⊢
        have hni : (n : Int) ≤ 128 := by omega
        have hp := HP.out
        have HSU : Hid _ := hsu
        have HO : Hid (wr.ownsRow w1.heap.size 3 1 _ (numsL b t).length ((numsL b t).map (Value.int .i64))) := ho
        clear hsu ho hq hr
        cases hbit : bitL b n
        · go_wp2_with fail
          rw [show ((n : Nat) : Int) = ((8 * q + r + 1 : Nat) : Int) from by rw [← HX.out]]
          refine (hasBit_any b q r _ hqb hq16 hr8).mono ?_
          rintro e w3 ⟨rfl, d, hw3⟩
          rw [← HX.out, hbit]
          have hb3 : Below w1.heap.size w1 w3 := by rw [hw3]; exact below_drewN hbr d
          have ho3 := own_drew HO.out hw3
          have HO3 : Hid (w3.ownsRow w1.heap.size 3 1 _ (numsL b t).length ((numsL b t).map (Value.int .i64))) := ho3
          clear ho3
          have HE : Hid (numsL b n = numsL b t) := by rw [Hid, HSU.out, hbit]; simp
          clear hw3 HO hbit
          go_wp2
          go_roundw
          case rel => exact ⟨n, by omega, by omega, by go_num, by rw [HE.out]; exact HO3.out, hb3⟩
          case measure => simp [intOf]; omega
        · go_wp2_with fail
          rw [show ((n : Nat) : Int) = ((8 * q + r + 1 : Nat) : Int) from by rw [← HX.out]]
          refine (hasBit_any b q r _ hqb hq16 hr8).mono ?_
          rintro e w3 ⟨rfl, d, hw3⟩
          rw [← HX.out, hbit]
          have hb3 : Below w1.heap.size w1 w3 := by rw [hw3]; exact below_drewN hbr d
          have ho3 := own_drew HO.out hw3
          have HE : Hid (numsL b n = numsL b t ++ [(n : Int)]) := by rw [Hid, HSU.out, hbit]; simp
          have hsz := hb3.size
          clear hw3 HO hbit
          go_wp2_with (at_builtin; refine wpList_append_own _ rfl (.tmp 41) (.tmp 43) 50 rfl w1.heap.size 3 i3 (.int .i64 0) 1 8 Tryz.underlying50 hi3 hz30 hz31 hz32 rfl (by decide) _ _ _ rfl (ho3.alloc _) ⟨w3.heap.size, 0, none⟩ 1 1 [.int .i64 (n : Int)] rfl rfl (cell_one_new _ _ _) (ints_oneCell .i64 [(n : Int)]) (by unfold maxLen; omega) (by omega) (by simp; omega) ?_; intro v' w4 ho4 hg4 hn4)
          have hb4 : Below w1.heap.size w1 w4 := (hb3.alloc hsz _).grown hg4 (by simp; omega) (fun j hj => (ho3.lt j hj).1)
          clear hg4 hn4 ho3 hb3
          go_wp2
          go_roundw
          case rel => exact ⟨n, by omega, by omega, by go_num, by rw [HE.out]; simpa using ho4, hb4⟩
          case measure => simp [intOf]; omega
      · have hte : t = 128 := by omega
        subst hte
        have hlen := numsL_len b 128
        have HG2 : Hid _ := HG.out
        rw [show 8 * 16 = 128 from rfl] at HG2
        obtain ⟨zs, hzs⟩ : ∃ zs, numsL b 128 = zs := ⟨_, rfl⟩
        rw [hzs] at ho hlen HG2
        clear hzs HG
        obtain ⟨ao, cap, hv, hz⟩ := own_ints ho
        subst hv
        have HO : Hid (wr.ownsRow w1.heap.size 3 1 (.slice ao zs.length cap) zs.length (zs.map (Value.int .i64))) := ho
        clear ho
        have hp := HP.out
        go_wp2_with fail
        refine (iPutSet_any _ _ zs _ hz (by omega)).mono ?_
        rintro e w3 ⟨rfl, b3⟩
        have HO3 : Hid (w3.ownsRow w1.heap.size 3 1 (.slice ao zs.length cap) zs.length (zs.map (Value.int .i64))) := own_keep HO.out b3
        have B3 : Below w1.heap.size w1 w3 := next hbr b3
        clear hz HO b3 hbr
        obtain ⟨r, hr⟩ : ∃ r, putS zs = r := ⟨_, rfl⟩
        rw [hr] at HG2 ⊢
        clear hr
        cases r with
        | none =>
          have HN : Hid _ := HG2.out.2 (by simp)
          clear HG2
          simp only [Option.getD_none, Option.isSome_none]
          go_wp2
          go_ret2
          exact sets_nil HN.out rfl B3
        | some r =>
          simp only [Option.getD_some, Option.isSome_some]
          by_cases hrb : r = b
          · have HN : Hid _ := HG2.out.1 (by rw [hrb])
            subst hrb
            clear HG2
            go_wp2
            go_ret2
            exact sets_own HN.out rfl HO3.out B3
          · have HN : Hid _ := HG2.out.2 (by simpa using hrb)
            clear HG2
            have hrb' : (r == b) = false := by simpa using hrb
            go_wp2
            go_ret2
            exact sets_nil HN.out rfl B3
set_option maxRecDepth 100000 in
set_option maxHeartbeats 1000000 in
theorem iGet_8 (l : List UInt8) (k : Nat) (w : World) (hl : l.length ≤ 1048576) (hk : k < l.length) (hc : (l.getD k 0).toNat < 128) :
    Calls Tryz.prog 119 #[.string ⟨l.toArray⟩, .int .i64 k] w fun e w' => Sets w (getSL l k) (getSI l k) e w' := by
  obtain ⟨i3, hi3, hz30, hz31, hz32⟩ := info_parts info3
  have hm : szB (l.getD k 0) = 8 := by unfold szB; rw [if_neg (by omega)]
  have H1 : Hid (hasB l.length (k : Int) 1 = true) := hasB_pos (by omega) (by omega) (by omega)
  have HBI : Hid (bitL (l.drop k) (8 * 0 + 0 + 1) = false) := by rw [Hid, show 8 * 0 + 0 + 1 = 1 from rfl, bitL_first]; exact decide_eq_false (by omega)
  have HT : Hid _ := tail_eq l k
  have hdl : 0 < (l.drop k).length := by simp; omega
  have hki : (k : Int) < (l.length : Int) := by omega
  have hki2 : (k : Int) ≤ (l.length : Int) := by omega
  have hl2 : l.length ≤ 1099511627776 := by omega
  cases hb : hasB l.length (k : Int) 8
  · have HN : Hid _ := getS_no (getS_out (l := l) (i := k) (by have := hasB_out hb; rw [Int.toNat_natCast, hm]; omega))
    clear hm
    go_enter Tryz.func119, Tryz.ntmps119
    go_wp2_with fail
    refine (hasBytes_any _ _ _ _ hl2).mono ?_
    rintro e w1 ⟨rfl, hw1⟩
    subst hw1
    rw [H1.out]
    go_wp2_with fail
    rw [HT.out _ (by first | exact Nat.le_refl _ | (rw [ba_size]; exact Nat.le_refl _))]
    refine (hasBit_any (l.drop k) 0 0 _ hdl (by omega) (by omega)).mono ?_
    rintro e w2 ⟨rfl, d, hw2⟩
    subst hw2
    rw [HBI.out]
    go_wp2_with fail
    refine (hasBytes_any _ _ _ _ hl2).mono ?_
    rintro e w3 ⟨rfl, hw3⟩
    subst hw3
    rw [hb]
    go_wp2
    go_ret2
    exact sets_nil HN.out rfl (below_drewN (Below.refl _ _) d)
  · have hin := hasB_in hb
    have HG : Hid _ := getS_in (l := l) (k := k) (b := (l.drop k).take 8) hm (by omega) rfl (by omega)
    have HB : Hid _ := hb
    have HP : Hid _ := piece_eq l k 8
    have hbl : ((l.drop k).take 8).length = 8 := piece_len (by omega)
    obtain ⟨b, hbe⟩ : ∃ b, (l.drop k).take 8 = b := ⟨_, rfl⟩
    rw [hbe] at HG HP hbl
    have hk1 : (k : Int) ≤ (k : Int) + 8 := by omega
    have hk2 : (k : Int) + 8 ≤ (l.length : Int) := by omega
    clear hm hb hin hbe
    go_enter Tryz.func119, Tryz.ntmps119
    go_wp2_with fail
    refine (hasBytes_any _ _ _ _ hl2).mono ?_
    rintro e w1 ⟨rfl, hw1⟩
    subst hw1
    rw [H1.out]
    go_wp2_with fail
    rw [HT.out _ (by first | exact Nat.le_refl _ | (rw [ba_size]; exact Nat.le_refl _))]
    refine (hasBit_any (l.drop k) 0 0 _ hdl (by omega) (by omega)).mono ?_
    rintro e w2 ⟨rfl, d, hw2⟩
    have B2 : Below w1.heap.size w1 w2 := by rw [hw2]; exact below_drewN (Below.refl _ _) d
    clear hw2
    rw [HBI.out]
    go_wp2_with fail
    refine (hasBytes_any _ _ _ _ hl2).mono ?_
    rintro e w3 ⟨rfl, hw3⟩
    subst hw3
    rw [HB.out]
    clear H1 HBI HT HB hdl
    go_wp2
    go_loopw [8, 9] (fun v i wr => ∃ t : Nat, 1 ≤ t ∧ t ≤ 64 ∧ i = .int .i64 (t + 1 : Nat) ∧ wr.ownsRow w1.heap.size 3 1 v (numsL b t).length ((numsL b t).map (Value.int .i64)) ∧ Below w1.heap.size w1 wr) (fun _ i _ => 64 + 1 - (intOf i).toNat)
    case atStart => exact ⟨1, Nat.le_refl _, by omega, rfl, by rw [numsL_one]; exact World.ownsRow_nil _ _ _ _, B2⟩
    case round =>
      obtain ⟨t, ht1, ht2, rfl, ho, hbr⟩ := hrel
      by_cases hlt : t < 64
      · have hsu := numsL_succ b t ht1
        have hlen := numsL_len b t
        obtain ⟨n, hn⟩ : ∃ n, t + 1 = n := ⟨_, rfl⟩
        obtain ⟨q, hq⟩ : ∃ q, (n - 1) / 8 = q := ⟨_, rfl⟩
        obtain ⟨r, hr⟩ : ∃ r, (n - 1) % 8 = r := ⟨_, rfl⟩
        have hr8 : r < 8 := by omega
        have hqb : q < b.length := by omega
        have hq16 : q < 16 := by omega
        have HX : Hid (n = 8 * q + r + 1) := by rw [Hid]; omega
        rw [hn] at hsu ⊢
        have hni : (n : Int) ≤ 64 := by omega
        have hp := HP.out
        have HSU : Hid _ := hsu
        have HO : Hid (wr.ownsRow w1.heap.size 3 1 _ (numsL b t).length ((numsL b t).map (Value.int .i64))) := ho
        clear hsu ho hq hr
        cases hbit : bitL b n
        · go_wp2_with fail
          rw [show ((n : Nat) : Int) = ((8 * q + r + 1 : Nat) : Int) from by rw [← HX.out]]
          refine (hasBit_any b q r _ hqb hq16 hr8).mono ?_
          rintro e w3 ⟨rfl, d, hw3⟩
          rw [← HX.out, hbit]
          have hb3 : Below w1.heap.size w1 w3 := by rw [hw3]; exact below_drewN hbr d
          have ho3 := own_drew HO.out hw3
          have HO3 : Hid (w3.ownsRow w1.heap.size 3 1 _ (numsL b t).length ((numsL b t).map (Value.int .i64))) := ho3
          clear ho3
          have HE : Hid (numsL b n = numsL b t) := by rw [Hid, HSU.out, hbit]; simp
          clear hw3 HO hbit
          go_wp2
          go_roundw
          case rel => exact ⟨n, by omega, by omega, by go_num, by rw [HE.out]; exact HO3.out, hb3⟩
          case measure => simp [intOf]; omega
        · go_wp2_with fail
          rw [show ((n : Nat) : Int) = ((8 * q + r + 1 : Nat) : Int) from by rw [← HX.out]]
          refine (hasBit_any b q r _ hqb hq16 hr8).mono ?_
          rintro e w3 ⟨rfl, d, hw3⟩
          rw [← HX.out, hbit]
          have hb3 : Below w1.heap.size w1 w3 := by rw [hw3]; exact below_drewN hbr d
          have ho3 := own_drew HO.out hw3
          have HE : Hid (numsL b n = numsL b t ++ [(n : Int)]) := by rw [Hid, HSU.out, hbit]; simp
          have hsz := hb3.size
          clear hw3 HO hbit
          go_wp2_with (at_builtin; refine wpList_append_own _ rfl (.tmp 41) (.tmp 43) 50 rfl w1.heap.size 3 i3 (.int .i64 0) 1 8 Tryz.underlying50 hi3 hz30 hz31 hz32 rfl (by decide) _ _ _ rfl (ho3.alloc _) ⟨w3.heap.size, 0, none⟩ 1 1 [.int .i64 (n : Int)] rfl rfl (cell_one_new _ _ _) (ints_oneCell .i64 [(n : Int)]) (by unfold maxLen; omega) (by omega) (by simp; omega) ?_; intro v' w4 ho4 hg4 hn4)
          have hb4 : Below w1.heap.size w1 w4 := (hb3.alloc hsz _).grown hg4 (by simp; omega) (fun j hj => (ho3.lt j hj).1)
          clear hg4 hn4 ho3 hb3
          go_wp2
          go_roundw
          case rel => exact ⟨n, by omega, by omega, by go_num, by rw [HE.out]; simpa using ho4, hb4⟩
          case measure => simp [intOf]; omega
      · have hte : t = 64 := by omega
        subst hte
        have hlen := numsL_len b 64
        have HG2 : Hid _ := HG.out
        rw [show 8 * 8 = 64 from rfl] at HG2
        obtain ⟨zs, hzs⟩ : ∃ zs, numsL b 64 = zs := ⟨_, rfl⟩
        rw [hzs] at ho hlen HG2
        clear hzs HG
        obtain ⟨ao, cap, hv, hz⟩ := own_ints ho
        subst hv
        have HO : Hid (wr.ownsRow w1.heap.size 3 1 (.slice ao zs.length cap) zs.length (zs.map (Value.int .i64))) := ho
        clear ho
        have hp := HP.out
        go_wp2_with fail
        refine (iPutSet_any _ _ zs _ hz (by omega)).mono ?_
        rintro e w3 ⟨rfl, b3⟩
        have HO3 : Hid (w3.ownsRow w1.heap.size 3 1 (.slice ao zs.length cap) zs.length (zs.map (Value.int .i64))) := own_keep HO.out b3
        have B3 : Below w1.heap.size w1 w3 := next hbr b3
        clear hz HO b3 hbr
        obtain ⟨r, hr⟩ : ∃ r, putS zs = r := ⟨_, rfl⟩
        rw [hr] at HG2 ⊢
        clear hr
        cases r with
        | none =>
          have HN : Hid _ := HG2.out.2 (by simp)
          clear HG2
          simp only [Option.getD_none, Option.isSome_none]
          go_wp2
          go_ret2
          exact sets_nil HN.out rfl B3
        | some r =>
          simp only [Option.getD_some, Option.isSome_some]
          by_cases hrb : r = b
          · have HN : Hid _ := HG2.out.1 (by rw [hrb])
            subst hrb
            clear HG2
            go_wp2
            go_ret2
            exact sets_own HN.out rfl HO3.out B3
          · have HN : Hid _ := HG2.out.2 (by simpa using hrb)
            clear HG2
            have hrb' : (r == b) = false := by simpa using hrb
            go_wp2
            go_ret2
            exact sets_nil HN.out rfl B3
set_option maxRecDepth 100000 in
set_option maxHeartbeats 400000 in
theorem iGetSet_any (l : List UInt8) (i : Int) (w : World) (hl : l.length ≤ 1048576) :
    Calls Tryz.prog 119 #[.string ⟨l.toArray⟩, .int .i64 i] w fun e w' => Sets w (getSL l i) (getSI l i) e w' := by
  cases h1 : hasB l.length i 1
  · have h1o := hasB_out h1
    have HN : Hid _ := getS_no (getS_out (l := l) (i := i) (by omega))
    have H8 : Hid (hasB l.length i 8 = false) := hasB_neg (by omega)
    go_enter Tryz.func119, Tryz.ntmps119
    go_wp2_with fail
    refine (hasBytes_any _ _ _ _ (by omega)).mono ?_
    rintro e w1 ⟨rfl, hw1⟩
    subst hw1
    rw [h1]
    go_wp2_with fail
    refine (hasBytes_any _ _ _ _ (by omega)).mono ?_
    rintro e w1 ⟨rfl, hw1⟩
    subst hw1
    rw [H8.out]
    go_wp2
    go_ret2
    exact sets_nil HN.out rfl (Below.refl _ _)
  · have hin := hasB_in h1
    obtain ⟨k, rfl⟩ := Int.eq_ofNat_of_zero_le hin.1
    by_cases hc : 128 ≤ (l.getD k 0).toNat
    · exact iGet_16 l k w hl (by omega) hc
    · exact iGet_8 l k w hl (by omega) (by omega)
end Go.Proofs.YtjnekdihmchlpaaGreatDoor
/- Fields and messages that came in: what such a struct reads as. -/
namespace Go.Proofs.YtjnekdihmchlpaaGreatDoor
open Go.ChangeShapes Go.WideShapes Go.ChangeAt Go.RowKit Go.Deep
def FldsBd (fs : List Fld) : Prop := fs.length ≤ maxLen ∧ ∀ f ∈ fs, f.2.length ≤ maxLen
/-- The slice of fields at 'ao' reads as 'fs' in w. -/
def FldsAt (w : World) (ao : Option Addr) (fs : List Fld) : Prop :=
  fs = [] ∨ ∃ b off, ao = some ⟨b, off, none⟩ ∧ b < w.heap.size ∧ ∀ i, i < fs.length →
    w.cell? ⟨b, off + i * 2, none⟩ = some (.int .i64 (at0 fs i).1) ∧ w.cell? ⟨b, off + i * 2 + 1, none⟩ = some (.string ⟨(at0 fs i).2.toArray⟩)
theorem FldsAt.below {w w' : World} {ao : Option Addr} {fs : List Fld} (h : FldsAt w ao fs) (hb : Below w.heap.size w w') : FldsAt w' ao fs := by
  rcases h with h | ⟨b, off, h1, h2, h3⟩
  · exact .inl h
  · exact .inr ⟨b, off, h1, Nat.lt_of_lt_of_le h2 hb.size, fun i hi => ⟨(hb.cell (p := ⟨b, off + i * 2, none⟩) h2).trans (h3 i hi).1, (hb.cell (p := ⟨b, off + i * 2 + 1, none⟩) h2).trans (h3 i hi).2⟩⟩
theorem is_field {P : Program} {H : Type} {enc : TypeId × Value → H} {W : World} {r : Reach} {base : Nat} {t : TypeId} {f0 f1 : Field} {v : Value} {d : DataW H} {p : List MemPlace}
    (ht : P.underlying t = some (.struct #[f0, f1])) (hc : P.cellsOf t = 2) (o0 : f0.offset = 0) (o1 : f1.offset = 1) (c0 : P.cellsOf f0.type = 1) (c1 : P.cellsOf f1.type = 1)
    (t0 : P.underlying f0.type = some (.int .i64)) (t1 : P.underlying f1.type = some .string)
    (hv : Value.okWide P W r base t v) (h : DataW.Trod enc P W 0 (fun _ => true) true t v d p) : ∃ n s, v = .agg #[.int .i64 n, .string s] ∧ s.size ≤ maxLen := by
  obtain ⟨cs, rfl, _⟩ := okWide_struct ht hv
  obtain ⟨fuel, hf⟩ := h
  obtain ⟨y0, y1, m, _, hl, h0, h1⟩ := trod_struct2 ht hf
  simp only [Value.cells] at hl h0 h1
  rw [hc] at hl
  obtain ⟨l⟩ := cs
  match l, hl with
  | [a, b], _ =>
    simp [o0, o1, c0, c1] at h0 h1
    obtain ⟨n, e0, _⟩ := DataW.trod_int t0 h0
    obtain ⟨s, e1, _, hs⟩ := DataW.trod_string t1 h1
    simp at e0 e1
    exact ⟨n, s, by rw [e0, e1], hs⟩
theorem is_message {P : Program} {H : Type} {enc : TypeId × Value → H} {W : World} {r : Reach} {base : Nat} {t e : TypeId} {f0 f1 g0 g1 : Field} {v : Value} {d : DataW H} {p : List MemPlace}
    (ht : P.underlying t = some (.struct #[f0, f1])) (hc : P.cellsOf t = 2) (o0 : f0.offset = 0) (o1 : f1.offset = 1) (c0 : P.cellsOf f0.type = 1) (c1 : P.cellsOf f1.type = 1)
    (t0 : P.underlying f0.type = some (.int .i64)) (t1 : P.underlying f1.type = some (.slice e))
    (he : P.underlying e = some (.struct #[g0, g1])) (ce : P.cellsOf e = 2) (p0 : g0.offset = 0) (p1 : g1.offset = 1) (d0 : P.cellsOf g0.type = 1) (d1 : P.cellsOf g1.type = 1)
    (u0 : P.underlying g0.type = some (.int .i64)) (u1 : P.underlying g1.type = some .string)
    (hv : Value.okWide P W r base t v) (h : DataW.Trod enc P W 0 (fun _ => true) true t v d p) :
    ∃ n a cap fs, v = .agg #[.int .i64 n, .slice a (List.length fs) cap] ∧ FldsAt W a fs ∧ FldsBd fs := by
  obtain ⟨cs, rfl, _⟩ := okWide_struct ht hv
  obtain ⟨fuel, hf⟩ := h
  obtain ⟨y0, y1, m, _, hl, h0, h1⟩ := trod_struct2 ht hf
  simp only [Value.cells] at hl h0 h1
  rw [hc] at hl
  obtain ⟨l⟩ := cs
  match l, hl with
  | [x, y], _ =>
    simp [o0, o1, c0, c1] at h0 h1
    obtain ⟨n, e0, _⟩ := DataW.trod_int t0 h0
    simp at e0
    rcases open_slice_pairs t1 he ce p0 p1 d0 d1 h1 with ⟨e1, _⟩ | ⟨a, len, cap, m, k, V0, V1, D0, D1, P0, P1, e1, hb, hlc, hm, hmm, _, hx⟩
    · simp at e1
      exact ⟨n, none, 0, [], by rw [e0, e1]; rfl, .inl rfl, Nat.zero_le _, fun f hf => by cases hf⟩
    · simp at e1 hmm
      subst hmm
      obtain ⟨F, hF⟩ := choose_lt (α := Fld) (n := m) (p := fun i f => V0 i = .int .i64 f.1 ∧ V1 i = .string ⟨f.2.toArray⟩ ∧ f.2.length ≤ maxLen) (fun i hi => by
        obtain ⟨_, _, g2, g3⟩ := hx i hi
        obtain ⟨z, q0, _⟩ := DataW.trod_int u0 g2
        obtain ⟨s, q1, _, hs⟩ := DataW.trod_string u1 g3
        simp at q0 q1
        exact ⟨(z, s.data.toList), q0, by rw [q1], by show s.data.toList.length ≤ maxLen; rw [Array.length_toList]; exact hs⟩)
      refine ⟨n, some a, m, (List.range len).map F, by rw [e0, e1]; simp, ?_, by rw [List.length_map, List.length_range]; exact Nat.le_trans hlc hm, fun f hf => by
        obtain ⟨i, hi, rfl⟩ := List.mem_map.1 hf
        exact (hF i (by have := List.mem_range.1 hi; omega)).2.2⟩
      by_cases hz : len = 0
      · subst hz; exact .inl rfl
      · obtain ⟨bk, off, spot⟩ := a
        have hc0 := (hx 0 (by omega)).1
        have hspot : spot = none := by simpa [Addr.add] using World.cell?_spot hc0
        subst hspot
        refine .inr ⟨bk, off, rfl, ?_, fun i hi => ?_⟩
        · exact World.block_lt_of_cell? W _ hc0
        · have hi' : i < len := by simpa using hi
          have hat : at0 ((List.range len).map F) i = F i := by simp [at0, List.getD_eq_getElem?_getD, hi']
          obtain ⟨g0, g1, _, _⟩ := hx i (by omega)
          rw [hat, ← (hF i (by omega)).1, ← (hF i (by omega)).2.1]
          rw [add_plain] at g0 g1
          exact ⟨g0, by rw [Nat.add_assoc]; exact g1⟩
/-- a slice of such structs that came in -/
theorem is_flds {P : Program} {H : Type} {enc : TypeId × Value → H} {W : World} {r : Reach} {base : Nat} {t e : TypeId} {g0 g1 : Field} {v : Value} {d : DataW H} {p : List MemPlace}
    (ht : P.underlying t = some (.slice e))
    (he : P.underlying e = some (.struct #[g0, g1])) (ce : P.cellsOf e = 2) (p0 : g0.offset = 0) (p1 : g1.offset = 1) (d0 : P.cellsOf g0.type = 1) (d1 : P.cellsOf g1.type = 1)
    (u0 : P.underlying g0.type = some (.int .i64)) (u1 : P.underlying g1.type = some .string)
    (hv : Value.okWide P W r base t v) (h : DataW.Trod enc P W 0 (fun _ => true) true t v d p) :
    ∃ a cap fs, v = .slice a (List.length fs) cap ∧ FldsAt W a fs ∧ FldsBd fs := by
  obtain ⟨va, vl, vc, rfl⟩ := okWide_slice ht hv
  obtain ⟨fuel, h1⟩ := h
  rcases open_slice_pairs ht he ce p0 p1 d0 d1 h1 with ⟨e1, _⟩ | ⟨a, len, cap, m, k, V0, V1, D0, D1, P0, P1, e1, hb, hlc, hm, hmm, _, hx⟩
  · have e2 : Value.slice va vl vc = .slice none 0 0 := by simpa [Value.cells] using e1
    exact ⟨none, 0, [], e2, .inl rfl, Nat.zero_le _, fun f hf => by cases hf⟩
  · simp at hmm
    subst hmm
    have e2 : Value.slice va vl vc = .slice (some a) len m := by simpa [Value.cells] using e1
    obtain ⟨F, hF⟩ := choose_lt (α := Fld) (n := m) (p := fun i f => V0 i = .int .i64 f.1 ∧ V1 i = .string ⟨f.2.toArray⟩ ∧ f.2.length ≤ maxLen) (fun i hi => by
      obtain ⟨_, _, g2, g3⟩ := hx i hi
      obtain ⟨z, q0, _⟩ := DataW.trod_int u0 g2
      obtain ⟨s, q1, _, hs⟩ := DataW.trod_string u1 g3
      simp at q0 q1
      exact ⟨(z, s.data.toList), q0, by rw [q1], by show s.data.toList.length ≤ maxLen; rw [Array.length_toList]; exact hs⟩)
    refine ⟨some a, m, (List.range len).map F, by rw [e2]; simp, ?_, by rw [List.length_map, List.length_range]; exact Nat.le_trans hlc hm, fun f hf => by
      obtain ⟨i, hi, rfl⟩ := List.mem_map.1 hf
      exact (hF i (by have := List.mem_range.1 hi; omega)).2.2⟩
    by_cases hz : len = 0
    · subst hz; exact .inl rfl
    · obtain ⟨bk, off, spot⟩ := a
      have hc0 := (hx 0 (by omega)).1
      have hspot : spot = none := by simpa [Addr.add] using World.cell?_spot hc0
      subst hspot
      refine .inr ⟨bk, off, rfl, ?_, fun i hi => ?_⟩
      · exact World.block_lt_of_cell? W _ hc0
      · have hi' : i < len := by simpa using hi
        have hat : at0 ((List.range len).map F) i = F i := by simp [at0, List.getD_eq_getElem?_getD, hi']
        obtain ⟨g0, g1, _, _⟩ := hx i (by omega)
        rw [hat, ← (hF i (by omega)).1, ← (hF i (by omega)).2.1]
        rw [add_plain] at g0 g1
        exact ⟨g0, by rw [Nat.add_assoc]; exact g1⟩
end Go.Proofs.YtjnekdihmchlpaaGreatDoor
/- The laws' own functions over messages: how much one takes, its copy. -/
namespace Go.Proofs.YtjnekdihmchlpaaGreatDoor
open Go.RowKit
/-- what is left behind the data of all fields -/
def leftFs : List Fld → Int → Int
  | [], left => left
  | f :: r, left => if left - (f.2.length : Int) < 0 then -1 else leftFs r (left - (f.2.length : Int))
def leftM (fs : List Fld) (left : Int) : Int := if left - (fs.length : Int) < 0 then -1 else leftFs fs (left - (fs.length : Int))
theorem leftFs_step (fs : List Fld) (k : Nat) (left : Int) (h : k < fs.length) : leftFs (fs.drop k) left = if left - ((at0 fs k).2.length : Int) < 0 then -1 else leftFs (fs.drop (k + 1)) (left - ((at0 fs k).2.length : Int)) := by
  have e : at0 fs k = fs[k] := by simp [at0, List.getD_eq_getElem?_getD, h]
  rw [List.drop_eq_getElem_cons h, e]; rfl
def sumF (fs : List Fld) : Nat := (fs.map fun f => f.2.length).sum
theorem leftFs_sum (fs : List Fld) : ∀ left, 0 ≤ leftFs fs left → 0 ≤ left → (sumF fs : Int) ≤ left := by
  induction fs with
  | nil => intro left _ h; simpa [sumF] using h
  | cons f r ih =>
    intro left h hl
    simp only [leftFs] at h
    split at h
    · omega
    · have := ih _ h (by omega)
      simp only [sumF, List.map_cons, List.sum_cons] at this ⊢
      omega
theorem leftM_sum {fs : List Fld} {left : Int} (h : 0 ≤ leftM fs left) : (fs.length : Int) + sumF fs ≤ left := by
  unfold leftM at h
  split at h
  · omega
  · have := leftFs_sum fs _ h (by omega)
    omega
theorem sumF_mem {fs : List Fld} {f : Fld} (h : f ∈ fs) : f.2.length ≤ sumF fs := by
  induction fs with
  | nil => cases h
  | cons g r ih =>
    simp only [sumF, List.map_cons, List.sum_cons] at ih ⊢
    rcases List.mem_cons.1 h with rfl | hr
    · omega
    · have := ih hr; omega
theorem at0_mem {fs : List Fld} {k : Nat} (h : k < fs.length) : at0 fs k ∈ fs := by
  have e : at0 fs k = fs[k] := by simp [at0, List.getD_eq_getElem?_getD, h]
  rw [e]; exact List.getElem_mem h
theorem at0_le {fs : List Fld} {k n : Nat} (h : k < fs.length) (hs : sumF fs ≤ n) : (at0 fs k).2.length ≤ n := Nat.le_trans (sumF_mem (at0_mem h)) hs
end Go.Proofs.YtjnekdihmchlpaaGreatDoor
/- Fields in a row of one's own: the cells of a list of fields; the laws' copy of a message. -/
namespace Go.Proofs.YtjnekdihmchlpaaGreatDoor
open Go.RowKit
theorem keepRow {w w' : World} {base n size : Nat} {t : TypeId} {v : Value} {xs : List Value} (h : w.ownsRow base t size v n xs) (hb : Below w.heap.size w w') : w'.ownsRow base t size v n xs := by
  obtain ⟨h1, h2⟩ := h
  refine ⟨h1, ?_⟩
  rcases h2 with h | ⟨g, cap, cur, hv, hg, hh, a1, a2, a3, a4⟩
  · exact .inl h
  · have hlt : g < w.heap.size := (Array.getElem?_eq_some_iff.1 hh).1
    exact .inr ⟨g, cap, cur, hv, hg, (hb.block g hlt).trans hh, a1, a2, a3, a4⟩
theorem keepSet {w : World} {base n size : Nat} {t : TypeId} {v : Value} {xs : List Value} (h : w.ownsRow base t size v n xs) (p : Addr) (u : Value) (hp : ∀ g, v.ownBlock = some g → g ≠ p.block) : (w.setCell p u).ownsRow base t size v n xs := by
  obtain ⟨h1, h2⟩ := h
  refine ⟨h1, ?_⟩
  rcases h2 with h | ⟨g, cap, cur, hv, hg, hh, a1, a2, a3, a4⟩
  · exact .inl h
  · exact .inr ⟨g, cap, cur, hv, hg, (Below.heap_setCell w p u g (hp g (by rw [hv]; rfl))).trans hh, a1, a2, a3, a4⟩
theorem lowerRow {w : World} {base base' n size : Nat} {t : TypeId} {v : Value} {xs : List Value} (h : w.ownsRow base t size v n xs) (hb : base' ≤ base) : w.ownsRow base' t size v n xs := by
  obtain ⟨h1, h2⟩ := h
  refine ⟨h1, ?_⟩
  rcases h2 with h | ⟨g, cap, cur, hv, hg, r⟩
  · exact .inl h
  · exact .inr ⟨g, cap, cur, hv, Nat.le_trans hb hg, r⟩
def fcell (f : Fld) : List Value := [.int .i64 f.1, .string ⟨f.2.toArray⟩]
def fcells (fs : List Fld) : List Value := fs.flatMap fcell
theorem fcells_cons (f : Fld) (r : List Fld) : fcells (f :: r) = .int .i64 f.1 :: .string ⟨f.2.toArray⟩ :: fcells r := rfl
theorem fcells_append (a b : List Fld) : fcells (a ++ b) = fcells a ++ fcells b := by simp [fcells]
theorem fcells_len (fs : List Fld) : (fcells fs).length = fs.length * 2 := by
  induction fs with
  | nil => rfl
  | cons f r ih => rw [fcells_cons]; simp [ih]; omega
theorem fcells_at (fs : List Fld) : ∀ k, k < fs.length → (fcells fs)[k * 2]? = some (.int .i64 (at0 fs k).1) ∧ (fcells fs)[k * 2 + 1]? = some (.string ⟨(at0 fs k).2.toArray⟩) := by
  induction fs with
  | nil => intro k h; simp at h
  | cons f r ih =>
    intro k h
    rw [fcells_cons]
    cases k with
    | zero => exact ⟨rfl, rfl⟩
    | succ k =>
      have := ih k (by simpa using h)
      rw [show (k + 1) * 2 = k * 2 + 1 + 1 by omega, List.getElem?_cons_succ, List.getElem?_cons_succ, List.getElem?_cons_succ, List.getElem?_cons_succ]
      exact this
theorem fcells_set (fs : List Fld) (f : Fld) : ∀ k, k < fs.length → ((fcells fs).set (k * 2) (.int .i64 f.1)).set (k * 2 + 1) (.string ⟨f.2.toArray⟩) = fcells (fs.set k f) := by
  induction fs with
  | nil => intro k h; simp at h
  | cons g r ih =>
    intro k h
    rw [fcells_cons]
    cases k with
    | zero => rfl
    | succ k =>
      have := ih k (by simpa using h)
      rw [show (k + 1) * 2 = k * 2 + 1 + 1 by omega, List.set_cons_succ, List.set_cons_succ, List.set_cons_succ, List.set_cons_succ, this]
      rfl
theorem fcells_one (fs : List Fld) : ∀ u ∈ fcells fs, u.oneCell' = true := by
  intro u hu
  simp only [fcells, List.mem_flatMap, fcell] at hu
  obtain ⟨f, _, hf⟩ := hu
  simp at hf
  rcases hf with rfl | rfl <;> rfl
theorem flds_of_own {w : World} {base g n cap : Nat} {t : TypeId} {fs : List Fld} (h : w.ownsRow base t 2 (.slice (some ⟨g, 0, none⟩) n cap) n (fcells fs)) : FldsAt w (some ⟨g, 0, none⟩) fs := by
  have hl := h.1
  rw [fcells_len] at hl
  by_cases h0 : fs = []
  · exact .inl h0
  · have hlt := (h.lt g rfl).2
    refine .inr ⟨g, 0, rfl, hlt, fun i hi => ?_⟩
    have := fcells_at fs i hi
    rw [Nat.zero_add, h.cellAt (i * 2) (by omega), h.cellAt (i * 2 + 1) (by omega)]
    exact this
theorem flds_of_own' {w : World} {base n : Nat} {t : TypeId} {v : Value} {fs : List Fld} (h : w.ownsRow base t 2 v n (fcells fs)) : ∃ ao cap, v = .slice ao fs.length cap ∧ FldsAt w ao fs ∧ n = fs.length := by
  have hn : n = fs.length := by have := h.1; rw [fcells_len] at this; omega
  subst hn
  rcases h.2 with ⟨rfl, hn⟩ | ⟨g, cap, cur, rfl, _⟩
  · have : fs = [] := List.eq_nil_of_length_eq_zero hn
    subst this
    exact ⟨none, 0, rfl, .inl rfl, rfl⟩
  · exact ⟨_, cap, rfl, flds_of_own h, rfl⟩
/-- what a copy holds behind k rounds -/
def halfF (fs : List Fld) (k : Nat) : List Fld := fs.take k ++ List.replicate (fs.length - k) (0, [])
theorem halfF_all (fs : List Fld) : halfF fs fs.length = fs := by simp [halfF]
theorem halfF_len (fs : List Fld) (k : Nat) (h : k ≤ fs.length) : (halfF fs k).length = fs.length := by simp [halfF]; omega
theorem halfF_succ (fs : List Fld) (k : Nat) (h : k < fs.length) : (halfF fs k).set k (at0 fs k) = halfF fs (k + 1) := by
  have e : at0 fs k = fs[k] := by simp [at0, List.getD_eq_getElem?_getD, h]
  unfold halfF
  rw [List.set_append, if_neg (by simp; omega), List.length_take, Nat.min_eq_left (Nat.le_of_lt h), Nat.sub_self, show fs.length - k = fs.length - (k + 1) + 1 by omega, List.replicate_succ, List.set_cons_zero, List.take_succ_eq_append_getElem h, e, List.append_assoc]
  rfl
theorem halfF_at (fs : List Fld) (k : Nat) (h : k < fs.length) : at0 (halfF fs k) k = (0, []) := by
  simp [at0, halfF, List.getD_eq_getElem?_getD, List.getElem?_append, Nat.min_eq_left (Nat.le_of_lt h), List.getElem?_replicate]
  split <;> rfl
theorem infoF : (Tryz.prog.info? 57).map (fun i => (i.zero, i.size, i.bytes)) = some (some (.agg #[.int .i64 0, .string ⟨#[]⟩]), 2, 24) := by kernel_rfl
theorem cells_rep (m : Nat) : (madeCells (Value.agg #[.int .i64 0, .string ⟨#[]⟩]).cells (m * 2)).toList = fcells (List.replicate m (0, [])) := by
  apply List.ext_getElem?
  intro j
  by_cases hj : j < m * 2
  · have hq : j / 2 < (List.replicate m ((0 : Int), ([] : List UInt8))).length := by simp; omega
    have ha : at0 (List.replicate m ((0 : Int), ([] : List UInt8))) (j / 2) = (0, []) := by
      simp [at0, List.getD_eq_getElem?_getD, List.getElem?_replicate]; split <;> rfl
    have h := fcells_at _ _ hq
    rw [ha] at h
    have hl : (madeCells (Value.agg #[.int .i64 0, .string ⟨#[]⟩]).cells (m * 2)).toList[j]? = some ((#[Value.int .i64 0, .string ⟨#[]⟩] : Array Value)[j % 2]!) := by
      simp [madeCells, hj, Value.cells]
    rcases Nat.mod_two_eq_zero_or_one j with e | e
    · rw [hl, e, show j = j / 2 * 2 by omega, h.1]; rfl
    · rw [hl, e, show j = j / 2 * 2 + 1 by omega, h.2]; rfl
  · rw [List.getElem?_eq_none (by rw [Array.length_toList, size_madeCells]; omega), List.getElem?_eq_none (by rw [fcells_len]; simp; omega)]
end Go.Proofs.YtjnekdihmchlpaaGreatDoor
/- The cursor over the bytes of a draw: whatever the bytes, what is drawn is within its bounds. -/
namespace Go.Proofs.YtjnekdihmchlpaaGreatDoor
open Go.RowKit
theorem setD_other {w : World} {g k g' k' : Nat} {v u : Value} (h : g = g' → k ≠ k') (hc : w.cell? ⟨g', k', none⟩ = some u) : (w.setCell ⟨g, k, none⟩ v).cell? ⟨g', k', none⟩ = some u := by
  rw [World.cell?_setCell_other w ⟨g, k, none⟩ v (b := ⟨g', k', none⟩) (fun e => by injection e with e1 e2; exact h e1 e2)]; exact hc
theorem set_same {w : World} {g k : Nat} {v u : Value} (hc : w.cell? ⟨g, k, none⟩ = some u) : (w.setCell ⟨g, k, none⟩ v).cell? ⟨g, k, none⟩ = some v := World.cell?_setCell_same w ⟨g, k, none⟩ v hc
theorem set_frozen {w : World} {a b : Addr} {v : Value} (h : w.frozen? b = false) : (w.setCell a v).frozen? b = false := by simp [h]
/-- n bytes lie at 'ao', below block B, none of them in block g -/
def BytesAt (B : Nat) (w : World) (g : Nat) (ao : Option Addr) (n : Nat) : Prop :=
  n = 0 ∨ ∃ b off, ao = some ⟨b, off, none⟩ ∧ b ≠ g ∧ b < B ∧ ∀ j, j < n → ∃ v : Int, 0 ≤ v ∧ v ≤ 255 ∧ w.cell? ⟨b, off + j, none⟩ = some (.int .u8 v)
/-- block g is a cursor over bytes that lie elsewhere, all of it below block B -/
def Cursor (B : Nat) (w : World) (g : Nat) : Prop :=
  ∃ (ao : Option Addr) (n cap : Nat) (i h : Int), 0 ≤ i ∧ i ≤ n ∧ n ≤ 1048576 ∧ (g < B ∧ B ≤ w.heap.size) ∧ w.cell? ⟨g, 0, none⟩ = some (.slice ao n cap) ∧ w.cell? ⟨g, 1, none⟩ = some (.int .i64 i) ∧
    w.cell? ⟨g, 2, none⟩ = some (.int .i64 h) ∧ w.frozen? ⟨g, 1, none⟩ = false ∧ w.frozen? ⟨g, 2, none⟩ = false ∧ BytesAt B w g ao n
theorem wrap_small (n : Nat) (h : n ≤ 1073741823) : IntKind.i64.wrap (n : Int) = n := by
  simp [IntKind.wrap, IntKind.bits, IntKind.signed]; omega
theorem and_mask (a : Int) (m : Nat) (hm : m ≤ 1073741823) : 0 ≤ bits .and .i64 a (m : Int) ∧ bits .and .i64 a (m : Int) ≤ m := by
  have h : (BitVec.ofInt 64 a &&& BitVec.ofInt 64 (m : Int)).toNat ≤ m := by
    rw [BitVec.toNat_and]
    refine Nat.le_trans Nat.and_le_right ?_
    rw [BitVec.toNat_ofInt]
    omega
  have e : bits .and .i64 a (m : Int) = IntKind.i64.wrap (((BitVec.ofInt 64 a &&& BitVec.ofInt 64 (m : Int)).toNat : Nat) : Int) := rfl
  rw [e, wrap_small _ (by omega)]
  omega
theorem and255 (a : Int) : 0 ≤ bits .and .i64 a 255 ∧ bits .and .i64 a 255 ≤ 255 := and_mask a 255 (by omega)
theorem grown_set (w : World) (g k : Nat) (v : Value) : w.grownBy (w.setCell ⟨g, k, none⟩ v) (some g) :=
  ⟨rfl, rfl, rfl, by simp, fun j _ hj => Below.heap_setCell _ _ _ _ (fun e => hj (by rw [e]))⟩
theorem grown_drewN {w w' : World} {row : Option Nat} (h : w.grownBy w' row) (n : Nat) : w.grownBy (w'.drewN n) row := ⟨h.os, h.tape, h.output, h.size, h.block⟩
theorem bytes_set {B : Nat} {w : World} {g k n : Nat} {v : Value} {ao : Option Addr} (h : BytesAt B w g ao n) : BytesAt B (w.setCell ⟨g, k, none⟩ v) g ao n := by
  rcases h with h | ⟨b, off, h1, h2, h3, h4⟩
  · exact .inl h
  · refine .inr ⟨b, off, h1, h2, h3, fun j hj => ?_⟩
    obtain ⟨x, x0, x1, hx⟩ := h4 j hj
    exact ⟨x, x0, x1, setD_other (fun e => absurd e.symm h2) hx⟩
theorem cursor_h {B : Nat} {w : World} {g : Nat} (hc : Cursor B w g) (H : Int) : Cursor B (w.setCell ⟨g, 2, none⟩ (.int .i64 H)) g := by
  obtain ⟨ao, n, cap, i, h, h1, h2, h3, hg, c0, c1, c2, f1, f2, hb⟩ := hc
  exact ⟨ao, n, cap, i, H, h1, h2, h3, by simpa using hg, setD_other (by omega) c0, setD_other (by omega) c1, set_same c2, set_frozen f1, set_frozen f2, bytes_set hb⟩
theorem cursor_i {B : Nat} {w : World} {g n cap : Nat} {ao : Option Addr} (hc : Cursor B w g) (h0 : w.cell? ⟨g, 0, none⟩ = some (.slice ao n cap)) (j : Int) (j0 : 0 ≤ j) (j1 : j ≤ n) : Cursor B (w.setCell ⟨g, 1, none⟩ (.int .i64 j)) g := by
  obtain ⟨ao', n', cap', i, h, h1, h2, h3, hg, c0, c1, c2, f1, f2, hb⟩ := hc
  rw [h0] at c0
  obtain ⟨rfl, rfl, rfl⟩ : ao = ao' ∧ n = n' ∧ cap = cap' := by simpa using c0
  exact ⟨ao, n, cap, j, h, j0, j1, h3, by simpa using hg, setD_other (by omega) h0, set_same c1, setD_other (by omega) c2, set_frozen f1, set_frozen f2, bytes_set hb⟩
theorem cursor_keep {B : Nat} {w w' : World} {g : Nat} (hc : Cursor B w g) (hb : Below B w w') : Cursor B w' g := by
  obtain ⟨ao, n, cap, i, h, h1, h2, h3, hg, c0, c1, c2, f1, f2, hy⟩ := hc
  have hl := hg.1
  refine ⟨ao, n, cap, i, h, h1, h2, h3, ⟨hg.1, Nat.le_trans hg.2 hb.size⟩, (hb.cell hl).trans c0, (hb.cell hl).trans c1, (hb.cell hl).trans c2, (hb.frozen hl).trans f1, (hb.frozen hl).trans f2, ?_⟩
  rcases hy with hy | ⟨b, off, y1, y2, y3, y4⟩
  · exact .inl hy
  · refine .inr ⟨b, off, y1, y2, y3, fun j hj => ?_⟩
    obtain ⟨x, x0, x1, hx⟩ := y4 j hj
    exact ⟨x, x0, x1, (hb.cell (p := ⟨b, off + j, none⟩) y3).trans hx⟩
theorem cursor_bd {B : Nat} {w : World} {g : Nat} (hc : Cursor B w g) : g < B ∧ B ≤ w.heap.size := by
  obtain ⟨_, _, _, _, _, _, _, _, hg, _⟩ := hc; exact hg
theorem cursor_below {B : Nat} {w w' : World} {g : Nat} (hc : Cursor B w g) (hb : Below w.heap.size w w') : Cursor B w' g := cursor_keep hc (hb.mono (cursor_bd hc).2)
set_option maxHeartbeats 800000 in
theorem byte_any {B : Nat} (g : Nat) (w : World) (hc : Cursor B w g) :
    Calls Tryz.prog 88 #[.pointer (some ⟨g, 0, none⟩)] w fun e w' => ∃ x : Int, e = .returned (.int .i64 x) ∧ 0 ≤ x ∧ x ≤ 255 ∧ Cursor B w' g ∧ w.grownBy w' (some g) := by
  have HC : Hid (Cursor B w g) := hc
  obtain ⟨ao, n, cap, i, h, h1, h2, h3, hg, c0, c1, c2, f1, f2, hy⟩ := hc
  by_cases hlt : i < n
  · rcases hy with hy | ⟨b, off, rfl, y2, y3, y4⟩
    · omega
    · obtain ⟨v, v0, v1, cb⟩ := y4 i.toNat (by omega)
      clear y4
      go_enter Tryz.func88, Tryz.ntmps88
      go_wp2
      generalize wrap64 (wrap64 (h * 6364136223846793005) + 1442695040888963407) = H
      obtain ⟨W, hW⟩ : ∃ W, w.setCell ⟨g, 2, none⟩ (.int .i64 H) = W := ⟨_, rfl⟩
      have d0 : W.cell? ⟨g, 0, none⟩ = some (.slice (some ⟨b, off, none⟩) n cap) := hW ▸ setD_other (by omega) c0
      have d1 : W.cell? ⟨g, 1, none⟩ = some (.int .i64 i) := hW ▸ setD_other (by omega) c1
      have d2 : W.cell? ⟨g, 2, none⟩ = some (.int .i64 H) := hW ▸ set_same c2
      have db : W.cell? ⟨b, off + i.toNat, none⟩ = some (.int .u8 v) := hW ▸ setD_other (by omega) cb
      have e1 : W.frozen? ⟨g, 1, none⟩ = false := hW ▸ set_frozen f1
      have HR : Hid (Cursor B W g ∧ w.grownBy W (some g)) := hW ▸ ⟨cursor_h HC.out H, grown_set w g 2 _⟩
      rw [hW]
      clear hW c0 c1 c2 f1 f2 cb
      go_quiet (fail)
      go_wp2
      go_quiet (fail)
      go_wp2
      go_quiet (fail)
      go_wp2
      go_ret
      exact ⟨_, rfl, (and255 _).1, (and255 _).2, cursor_i HR.out.1 d0 _ (by omega) (by omega), grown_drewN (HR.out.2.trans (grown_set _ _ _ _)) _⟩
  · go_enter Tryz.func88, Tryz.ntmps88
    go_wp2
    generalize wrap64 (wrap64 (h * 6364136223846793005) + 1442695040888963407) = H
    obtain ⟨W, hW⟩ : ∃ W, w.setCell ⟨g, 2, none⟩ (.int .i64 H) = W := ⟨_, rfl⟩
    have d0 : W.cell? ⟨g, 0, none⟩ = some (.slice ao n cap) := hW ▸ setD_other (by omega) c0
    have d1 : W.cell? ⟨g, 1, none⟩ = some (.int .i64 i) := hW ▸ setD_other (by omega) c1
    have d2 : W.cell? ⟨g, 2, none⟩ = some (.int .i64 H) := hW ▸ set_same c2
    have HR : Hid (Cursor B W g ∧ w.grownBy W (some g)) := hW ▸ ⟨cursor_h HC.out H, grown_set w g 2 _⟩
    rw [hW]
    clear hW c0 c1 c2 f1 f2 hy
    go_quiet (fail)
    go_wp2
    go_quiet (fail)
    go_wp2
    go_ret
    exact ⟨_, rfl, (and255 _).1, (and255 _).2, HR.out.1, grown_drewN (grown_drewN HR.out.2 _) _⟩
set_option maxHeartbeats 800000 in
theorem below_any {B : Nat} (g : Nat) (n : Int) (w : World) (hc : Cursor B w g) (hn : n ≤ 1099511627776) :
    Calls Tryz.prog 46 #[.pointer (some ⟨g, 0, none⟩), .int .i64 n] w fun e w' => ∃ x : Int, e = .returned (.int .i64 x) ∧ 0 ≤ x ∧ (1 ≤ n → x < n) ∧ Cursor B w' g ∧ w.grownBy w' (some g) := by
  by_cases h1 : n ≤ 0
  · go_enter Tryz.func46, Tryz.ntmps46
    go_wp2
    go_ret
    exact ⟨0, rfl, by omega, by omega, hc, World.grownBy.refl _ _⟩
  · have hne : (n == 0) = false := by simp; omega
    by_cases h2 : n ≤ 256
    · go_enter Tryz.func46, Tryz.ntmps46
      go_wp2_with fail
      refine (byte_any _ _ hc).mono ?_
      rintro e w1 ⟨x, rfl, x0, x1, c1, g1⟩
      go_wp2
      go_ret
      exact ⟨_, rfl, Int.emod_nonneg _ (by omega), fun _ => Int.emod_lt_of_pos _ (by omega), c1, g1⟩
    · go_enter Tryz.func46, Tryz.ntmps46
      go_wp2_with fail
      refine (byte_any _ _ hc).mono ?_
      rintro e w1 ⟨x, rfl, x0, x1, c1, g1⟩
      go_wp2_with fail
      refine (byte_any _ _ c1).mono ?_
      rintro e w2 ⟨y, rfl, y0, y1, c2, g2⟩
      go_wp2_with fail
      refine (byte_any _ _ c2).mono ?_
      rintro e w3 ⟨z, rfl, z0, z1, c3, g3⟩
      go_wp2_with fail
      refine (byte_any _ _ c3).mono ?_
      rintro e w4 ⟨u, rfl, u0, u1, c4, g4⟩
      go_wp2
      go_ret
      exact ⟨_, rfl, Int.emod_nonneg _ (by omega), fun _ => Int.emod_lt_of_pos _ (by omega), c4, ((g1.trans g2).trans g3).trans g4⟩
set_option maxHeartbeats 800000 in
theorem once_any {B : Nat} (g : Nat) (n : Int) (w : World) (hc : Cursor B w g) (hn : n ≤ 1099511627776) :
    Calls Tryz.prog 98 #[.pointer (some ⟨g, 0, none⟩), .int .i64 n] w fun e w' => ∃ x : Bool, e = .returned (.bool x) ∧ Cursor B w' g ∧ w.grownBy w' (some g) := by
  go_enter Tryz.func98, Tryz.ntmps98
  go_wp2_with fail
  refine (below_any _ _ _ hc hn).mono ?_
  rintro e w1 ⟨x, rfl, x0, x1, c1, g1⟩
  go_wp2
  go_ret
  exact ⟨_, rfl, c1, g1⟩
/-- byte slices that came in: a new cursor over them -/
theorem bytes_of_row {w : World} {a : Option Addr} {len cap g : Nat} {zs : List Int} (h : IsRow .u8 w a len cap zs) (hg : w.heap.size ≤ g) : BytesAt g w g a len := by
  rcases h with ⟨rfl, rfl, rfl, rfl⟩ | ⟨x, rfl, hl, hm, hz, hcell, hwz⟩
  · exact .inl rfl
  · by_cases h0 : len = 0
    · exact .inl h0
    · obtain ⟨b, off, spot⟩ := x
      have hc := hcell 0 (by omega)
      have hspot : spot = none := by simpa [Addr.add] using World.cell?_spot hc
      subst hspot
      have hlt := World.block_lt_of_cell? w _ hc
      refine .inr ⟨b, off, rfl, by simp [Addr.add] at hlt; omega, by simp [Addr.add] at hlt; omega, fun j hj => ?_⟩
      have hj' := hcell j (by omega)
      have hwf := hwz (zs.getD j 0) (by
        have : j < zs.length := by omega
        simp [List.getD_eq_getElem?_getD, this])
      have hbd : 0 ≤ zs.getD j 0 ∧ zs.getD j 0 ≤ 255 := by simpa [Lit.wf, IntKind.min, IntKind.max, IntKind.signed, IntKind.bits] using hwf
      refine ⟨zs.getD j 0, hbd.1, hbd.2, ?_⟩
      by_cases e : j = 0
      · subst e; simpa [Addr.add] using hj'
      · simpa [Addr.add, e] using hj'
theorem cursor_new {w : World} {ao : Option Addr} {n cap : Nat} (h : Int) (t : TypeId) (hb : BytesAt w.heap.size w w.heap.size ao n) (hn : n ≤ 1048576) :
    Cursor (w.heap.size + 1) (w.alloc (.cells #[.slice ao n cap, .int .i64 0, .int .i64 h] t)) w.heap.size := by
  refine ⟨ao, n, cap, 0, h, by omega, by omega, hn, ⟨by omega, by simp⟩, by simp, by simp, by simp, by simp, by simp, ?_⟩
  rcases hb with hb | ⟨b, off, y1, y2, y3, y4⟩
  · exact .inl hb
  · refine .inr ⟨b, off, y1, y2, by omega, fun j hj => ?_⟩
    obtain ⟨x, x0, x1, hx⟩ := y4 j hj
    exact ⟨x, x0, x1, by rw [World.cell?_alloc_lt _ _ _ (by exact y3)]; exact hx⟩
set_option maxHeartbeats 800000 in
theorem new_any (a : Option Addr) (len cap : Nat) (zs : List Int) (w : World) (hr : IsRow .u8 w a len cap zs) (hn : len ≤ 1048576) :
    Calls Tryz.prog 17 #[.slice a len cap] w fun e w' => e = .returned (.pointer (some ⟨w.heap.size, 0, none⟩)) ∧ Cursor (w.heap.size + 1) w' w.heap.size ∧ Below w.heap.size w w' := by
  have hb := bytes_of_row (g := w.heap.size) hr (Nat.le_refl _)
  clear hr
  have HB : Hid (BytesAt w.heap.size w w.heap.size a len) := hb
  rcases hb with rfl | ⟨b, off, rfl, hbg, hbl, hbytes⟩
  · go_enter Tryz.func17, Tryz.ntmps17
    go_wp2
    refine wp_loop_rounds 1 ?_
    rw [rounds_succ]
    go_wp2
    go_ret
    exact ⟨rfl, cursor_new _ _ HB.out hn, (Below.refl _ _).alloc (Nat.le_refl _) _⟩
  · go_enter Tryz.func17, Tryz.ntmps17
    go_wp2
    go_loop [3, 4] (fun c i => ∃ (k : Nat) (H : Int), k ≤ len ∧ i = .int .i64 k ∧ c = .int .i64 H) (fun _ i => len - (intOf i).toNat)
    case atStart => exact ⟨0, _, Nat.zero_le _, rfl, rfl⟩
    case round =>
      obtain ⟨k, H, hk, rfl, rfl⟩ := hrel
      by_cases hlt : k < len
      · have hki : (k : Int) < (len : Int) := by omega
        by_cases h4 : (k : Int) < 4000
        · obtain ⟨v, v0, v1, cb⟩ := hbytes k hlt
          clear hbytes
          go_wp2
          go_round
          case rel => exact ⟨k + 1, _, by omega, by go_num, rfl⟩
          case measure => simp [intOf]; omega
        · clear hbytes
          go_wp2
          go_ret
          exact ⟨rfl, cursor_new _ _ HB.out hn, (Below.refl _ _).alloc (Nat.le_refl _) _⟩
      · clear hbytes
        go_wp2
        go_ret
        exact ⟨rfl, cursor_new _ _ HB.out hn, (Below.refl _ _).alloc (Nat.le_refl _) _⟩
end Go.Proofs.YtjnekdihmchlpaaGreatDoor
/- What is drawn from a list of ints, and what fits an int. -/
namespace Go.Proofs.YtjnekdihmchlpaaGreatDoor
open Go.RowKit
theorem lit_cells (w : World) (zs : List Int) (arr : Array Value) (h : arr = (zs.map (Value.int .i64)).toArray) :
    ∀ i, i < zs.length → (w.alloc (.cells arr 3)).cell? ⟨w.heap.size, i, none⟩ = some (.int .i64 (zs.getD i 0)) := by
  intro i hi
  subst h
  simp [List.getD_eq_getElem?_getD, hi]
theorem cursor_ne {B : Nat} {w : World} {g : Nat} (hc : Cursor B w g) : w.heap.size ≠ g := by
  have := cursor_bd hc; omega
theorem cursor_alloc {B : Nat} {w : World} {g : Nat} (hc : Cursor B w g) (o : Obj) : Cursor B (w.alloc o) g := cursor_below hc ((Below.refl _ _).alloc (Nat.le_refl _) _)
theorem grown_alloc (w : World) (o : Obj) (row : Option Nat) : w.grownBy (w.alloc o) row := World.grownBy_alloc w o row
set_option maxHeartbeats 800000 in
theorem pickInt_any {B : Nat} (g b cap : Nat) (zs : List Int) (w : World) (hc : Cursor B w g) (hbg : b ≠ g) (hz : ∀ i, i < zs.length → w.cell? ⟨b, i, none⟩ = some (.int .i64 (zs.getD i 0))) (h1 : 1 ≤ zs.length) (h2 : zs.length ≤ 1000) :
    Calls Tryz.prog 19 #[.pointer (some ⟨g, 0, none⟩), .slice (some ⟨b, 0, none⟩) zs.length cap] w fun e w' => ∃ x : Int, e = .returned (.int .i64 x) ∧ x ∈ zs ∧ Cursor B w' g ∧ w.grownBy w' (some g) := by
  go_enter Tryz.func19, Tryz.ntmps19
  go_wp2_with fail
  refine (below_any _ _ _ hc (by omega)).mono ?_
  rintro e w1 ⟨x, rfl, x0, x1, c1, g1⟩
  have hx := x1 (by omega)
  obtain ⟨k, rfl⟩ := Int.eq_ofNat_of_zero_le x0
  have hk : k < zs.length := by omega
  have cb : w1.cell? ⟨b, k, none⟩ = some (.int .i64 (zs.getD k 0)) := g1.cell (a := ⟨b, k, none⟩) (hz k hk) (by simpa using hbg)
  have hm : zs.getD k 0 ∈ zs := by simp [List.getD_eq_getElem?_getD, hk]
  generalize zs.getD k 0 = z at cb hm
  clear hz x1
  go_wp2
  go_ret
  exact ⟨z, rfl, hm, c1, g1⟩
/-- what is drawn as an int fits 64 bits -/
def Fits (x : Int) : Prop := -9223372036854775808 ≤ x ∧ x ≤ 9223372036854775807
theorem fits_wf {x : Int} (h : Fits x) : (Lit.int .i64 x).wf = true := by
  simp [Lit.wf, IntKind.min, IntKind.max, IntKind.signed, IntKind.bits]; exact h
theorem fits_small {x : Int} (h1 : -1000000000000 ≤ x) (h2 : x ≤ 1000000000000) : Fits x := ⟨by omega, by omega⟩
end Go.Proofs.YtjnekdihmchlpaaGreatDoor
/- What every law over drawn bytes begins with. -/
namespace Go.Proofs.YtjnekdihmchlpaaGreatDoor
open Go.RowKit
theorem bel_grown {w w1 w2 : World} {g : Nat} (h : Below w.heap.size w w1) (hg : w1.grownBy w2 (some g)) (h0 : w.heap.size ≤ g) : Below w.heap.size w w2 :=
  h.grown hg h.size (fun k hk => by cases hk; exact h0)
theorem row_below {k : IntKind} {w w' : World} {a : Option Addr} {len cap : Nat} {zs : List Int} (h : IsRow k w a len cap zs) (hb : Below w.heap.size w w') : IsRow k w' a len cap zs := by
  rcases h with h | ⟨x, h1, h2, h3, h4, h5, h6⟩
  · exact .inl h
  · exact .inr ⟨x, h1, h2, h3, h4, fun i hi => (hb.cell (World.block_lt_of_cell? w _ (h5 i hi))).trans (h5 i hi), h6⟩
set_option maxHeartbeats 400000 in
theorem big_any (a : Option Addr) (len cap : Nat) (w : World) :
    Calls Tryz.prog 4 #[.slice a len cap] w fun e w' => e = .returned (.bool (decide ((1048576 : Int) < (len : Int)))) ∧ w' = w := by
  go_enter Tryz.func4, Tryz.ntmps4
  go_wp2
  go_ret
  exact ⟨rfl, rfl⟩
end Go.Proofs.YtjnekdihmchlpaaGreatDoor
/- What is drawn for chapter 2: days and dates, whatever the bytes. -/
namespace Go.Proofs.YtjnekdihmchlpaaGreatDoor
open Go.RowKit
theorem bel_g {w w' : World} {g : Nat} (hg : w.grownBy w' (some g)) (h : g ≤ w.heap.size) : Below g w w' := (Below.refl g w).grown hg h (fun k hk => by cases hk; exact Nat.le_refl _)
end Go.Proofs.YtjnekdihmchlpaaGreatDoor
/- What is drawn for AddWork: a day, a number and a list, whatever the bytes. -/
namespace Go.Proofs.YtjnekdihmchlpaaGreatDoor
open Go.RowKit
end Go.Proofs.YtjnekdihmchlpaaGreatDoor
/- A drawn list of days that one goes on drawing behind: the cursor stands, the list is its own row. -/
namespace Go.Proofs.YtjnekdihmchlpaaGreatDoor
open Go.RowKit
/-- a row of ints of one's own, kept while the cursor moves -/
theorem own_cur {b g : Nat} {u u' : World} {ao : Option Addr} {c : Nat} {xs : List Int} (o : u.ownsRow b 3 1 (.slice ao xs.length c) xs.length (xs.map (Value.int .i64))) (gr : u.grownBy u' (some g)) (h : g < b) : u'.ownsRow b 3 1 (.slice ao xs.length c) xs.length (xs.map (Value.int .i64)) :=
  o.kept gr (ho_ne o h)
end Go.Proofs.YtjnekdihmchlpaaGreatDoor
/- The books, plainly: lines, when they are so, a line more, an entry posted. No Go in sight. -/
namespace Go.Proofs.YtjnekdihmchlpaaGreatDoor
/-- a line: account, currency, amount -/
abbrev Ln := Int × Int × Int
/-- an entry: from, to, currency, amount -/
abbrev En := Int × Int × Int × Int
def lnAt (ls : List Ln) (k : Nat) : Ln := ls.getD k (0, 0, 0)
theorem lnAt_is {ls : List Ln} {k : Nat} (h : k < ls.length) : lnAt ls k = ls[k] := by simp [lnAt, List.getD_eq_getElem?_getD, h]
theorem lnAt_mem {ls : List Ln} {k : Nat} (h : k < ls.length) : lnAt ls k ∈ ls := by rw [lnAt_is h]; exact List.getElem_mem h
theorem take_lnAt (ls : List Ln) (k : Nat) (h : k < ls.length) : ls.take (k + 1) = ls.take k ++ [lnAt ls k] := by rw [List.take_succ_eq_append_getElem h, lnAt_is h]
theorem drop_lnAt (ls : List Ln) (k : Nat) (h : k < ls.length) : ls.drop k = lnAt ls k :: ls.drop (k + 1) := by rw [List.drop_eq_getElem_cons h, lnAt_is h]
def acctOk (a : Int) : Bool := decide (1 ≤ a ∧ a ≤ 9999)
def lnOk (x : Ln) : Bool := acctOk x.1 && (decide (0 ≤ digs x.2.1) && (mOk x.2.2 && decide (x.2.2 ≠ 0)))
/-- one line stands behind another -/
def lnLt (x y : Ln) : Bool := decide (x.1 < y.1 ∨ x.1 = y.1 ∧ x.2.1 < y.2.1)
/-- all lines so, and each behind the one ahead of it -/
def linesOk : Option Ln → List Ln → Bool
  | _, [] => true
  | none, x :: r => lnOk x && linesOk (some x) r
  | some y, x :: r => (lnOk x && lnLt y x) && linesOk (some x) r
def sumC (cur : Int) (ls : List Ln) : Int := (ls.map fun x => if x.2.1 = cur then x.2.2 else 0).sum
theorem sumC_step (cur : Int) (ls : List Ln) (k : Nat) (h : k < ls.length) : sumC cur (ls.take (k + 1)) = sumC cur (ls.take k) + if (lnAt ls k).2.1 = cur then (lnAt ls k).2.2 else 0 := by
  rw [take_lnAt ls k h]; simp [sumC]
def evenL (ls : List Ln) : Bool := curL.all fun c => decide (sumC c ls = 0)
def ledgerOk (ls : List Ln) : Bool := linesOk none ls && (decide (ls.length ≤ 400) && evenL ls)
def entryOk (e : En) : Bool := acctOk e.1 && (acctOk e.2.1 && (decide (e.1 ≠ e.2.1) && (decide (0 ≤ digs e.2.2.1) && decide (1 ≤ e.2.2.2 ∧ e.2.2.2 ≤ 1000000000000))))
def balL : List Ln → Int → Int → Int
  | [], _, _ => 0
  | x :: r, a, c => if x.1 = a ∧ x.2.1 = c then x.2.2 else balL r a c
theorem balL_step (ls : List Ln) (k : Nat) (a c : Int) (h : k < ls.length) : balL (ls.drop k) a c = if (lnAt ls k).1 = a ∧ (lnAt ls k).2.1 = c then (lnAt ls k).2.2 else balL (ls.drop (k + 1)) a c := by
  rw [drop_lnAt ls k h]; rfl
/-- a line is at or behind a place -/
def reach (x : Ln) (a c : Int) : Bool := decide (a < x.1 ∨ x.1 = a ∧ c ≤ x.2.1)
/-- lines with more on one of them -/
def addL : List Ln → Int → Int → Int → List Ln
  | [], a, c, m => [(a, c, m)]
  | x :: r, a, c, m => if reach x a c = true then (if x.1 = a ∧ x.2.1 = c then (if x.2.2 + m ≠ 0 then (a, c, x.2.2 + m) :: r else r) else (a, c, m) :: x :: r) else x :: addL r a c m
def postTry (ls : List Ln) (e : En) : List Ln := addL (addL ls e.1 e.2.2.1 (-e.2.2.2)) e.2.1 e.2.2.1 e.2.2.2
def postOk (ls : List Ln) (e : En) : Bool := (ledgerOk ls && entryOk e) && ledgerOk (postTry ls e)
def postL (ls : List Ln) (e : En) : List Ln := if postOk ls e = true then postTry ls e else ls
/-- entries posted in a row: what comes of them, nothing when one is refused -/
def postsL : List Ln → List En → Option (List Ln)
  | ls, [] => some ls
  | ls, e :: r => if postOk ls e = true then postsL (postTry ls e) r else none
/-- the sum of all amounts above 0 in a currency (as ints of 64 bits add up) -/
def worthS (cur : Int) (s : Int) (x : Ln) : Int := if x.2.1 = cur ∧ 0 < x.2.2 then IntKind.i64.wrap (s + x.2.2) else s
def worthL (ls : List Ln) (cur : Int) : Int := ls.foldl (worthS cur) 0
theorem worthL_step (ls : List Ln) (cur : Int) (k : Nat) (h : k < ls.length) : worthL (ls.take (k + 1)) cur = worthS cur (worthL (ls.take k) cur) (lnAt ls k) := by
  rw [take_lnAt ls k h, worthL, List.foldl_append]; rfl
def backE (e : En) : En := (e.2.1, e.1, e.2.2.1, e.2.2.2)
/-- the accounts that have a line, ascending -/
def acctsL (ls : List Ln) : List Int := ((List.range 9999).map fun i : Nat => ((i : Int) + 1)).filter fun a => ls.any fun x => decide (x.1 = a)
theorem linesOk_mem {ls : List Ln} : ∀ {p : Option Ln}, linesOk p ls = true → ∀ x ∈ ls, lnOk x = true := by
  induction ls with
  | nil => intro p _ x hx; cases hx
  | cons y r ih =>
    intro p h x hx
    cases p with
    | none =>
      simp only [linesOk, Bool.and_eq_true] at h
      rcases List.mem_cons.1 hx with rfl | hr
      · exact h.1
      · exact ih h.2 x hr
    | some q =>
      simp only [linesOk, Bool.and_eq_true] at h
      rcases List.mem_cons.1 hx with rfl | hr
      · exact h.1.1
      · exact ih h.2 x hr
theorem lnOk_is {x : Ln} (h : lnOk x = true) : (1 ≤ x.1 ∧ x.1 ≤ 9999) ∧ 0 ≤ digs x.2.1 ∧ (-1000000000000 ≤ x.2.2 ∧ x.2.2 ≤ 1000000000000) ∧ x.2.2 ≠ 0 := by
  simp only [lnOk, acctOk, Bool.and_eq_true, decide_eq_true_eq] at h
  exact ⟨h.1, h.2.1, mOk_bd h.2.2.1, h.2.2.2⟩
theorem addL_len (ls : List Ln) (a c m : Int) : (addL ls a c m).length ≤ ls.length + 1 := by
  induction ls with
  | nil => simp [addL]
  | cons x r ih =>
    simp only [addL]
    split
    · split
      · split <;> simp <;> omega
      · simp
    · simp; omega
theorem mem_accts {ls : List Ln} {a : Int} : a ∈ acctsL ls ↔ (1 ≤ a ∧ a ≤ 9999) ∧ ∃ x ∈ ls, x.1 = a := by
  simp only [acctsL, List.mem_filter, List.mem_map, List.mem_range, List.any_eq_true, decide_eq_true_eq]
  constructor
  · rintro ⟨⟨i, hi, rfl⟩, h⟩
    exact ⟨by omega, h⟩
  · rintro ⟨h, hx⟩
    exact ⟨⟨(a - 1).toNat, by omega, by omega⟩, hx⟩
theorem accts_up (ls : List Ln) : (acctsL ls).Pairwise (· < ·) := by
  refine List.Pairwise.filter _ (List.pairwise_map.2 ?_)
  exact List.pairwise_lt_range.imp fun {i j} h => by omega
theorem accts_apart (ls : List Ln) : (acctsL ls).Pairwise (· ≠ ·) := (accts_up ls).imp fun h => by omega
theorem accts_len (ls : List Ln) : (acctsL ls).length ≤ 9999 := by
  refine Nat.le_trans (List.length_filter_le _ _) ?_
  simp
theorem accts_bd {ls : List Ln} {a : Int} (h : a ∈ acctsL ls) : 1 ≤ a ∧ a ≤ 9999 := (mem_accts.1 h).1
end Go.Proofs.YtjnekdihmchlpaaGreatDoor
/- Slices of lines and of entries: those that came in, those in a row of one's own. -/
namespace Go.Proofs.YtjnekdihmchlpaaGreatDoor
open Go.ChangeShapes Go.WideShapes Go.ChangeAt Go.RowKit Go.Deep
def wf64 (n : Int) : Prop := (Lit.int .i64 n).wf = true
def lnBd (x : Ln) : Prop := wf64 x.1 ∧ wf64 x.2.1 ∧ wf64 x.2.2
def enBd (e : En) : Prop := wf64 e.1 ∧ wf64 e.2.1 ∧ wf64 e.2.2.1 ∧ wf64 e.2.2.2
/-- The slice of lines at 'ao' reads as 'ls' in w. -/
def LinesAt (w : World) (ao : Option Addr) (ls : List Ln) : Prop :=
  ls = [] ∨ ∃ b off, ao = some ⟨b, off, none⟩ ∧ b < w.heap.size ∧ ∀ i, i < ls.length →
    w.cell? ⟨b, off + i * 3, none⟩ = some (.int .i64 (lnAt ls i).1) ∧ w.cell? ⟨b, off + i * 3 + 1, none⟩ = some (.int .i64 (lnAt ls i).2.1) ∧ w.cell? ⟨b, off + i * 3 + 2, none⟩ = some (.int .i64 (lnAt ls i).2.2)
def LinesBd (ls : List Ln) : Prop := ls.length ≤ maxLen ∧ ∀ x ∈ ls, lnBd x
theorem LinesAt.below {w w' : World} {ao : Option Addr} {ls : List Ln} (h : LinesAt w ao ls) (hb : Below w.heap.size w w') : LinesAt w' ao ls := by
  rcases h with h | ⟨b, off, h1, h2, h3⟩
  · exact .inl h
  · exact .inr ⟨b, off, h1, Nat.lt_of_lt_of_le h2 hb.size, fun i hi => ⟨(hb.cell (p := ⟨b, off + i * 3, none⟩) h2).trans (h3 i hi).1, (hb.cell (p := ⟨b, off + i * 3 + 1, none⟩) h2).trans (h3 i hi).2.1, (hb.cell (p := ⟨b, off + i * 3 + 2, none⟩) h2).trans (h3 i hi).2.2⟩⟩
theorem LinesAt.at {w : World} {ao : Option Addr} {ls : List Ln} (h : LinesAt w ao ls) {k : Nat} (hk : k < ls.length) :
    ∃ b off, ao = some ⟨b, off, none⟩ ∧ b < w.heap.size ∧ w.cell? ⟨b, off + k * 3, none⟩ = some (.int .i64 (lnAt ls k).1) ∧ w.cell? ⟨b, off + k * 3 + 1, none⟩ = some (.int .i64 (lnAt ls k).2.1) ∧ w.cell? ⟨b, off + k * 3 + 2, none⟩ = some (.int .i64 (lnAt ls k).2.2) := by
  rcases h with rfl | ⟨b, off, h1, h2, h3⟩
  · simp at hk
  · exact ⟨b, off, h1, h2, h3 k hk⟩
def enAt (es : List En) (k : Nat) : En := es.getD k (0, 0, 0, 0)
theorem enAt_is {es : List En} {k : Nat} (h : k < es.length) : enAt es k = es[k] := by simp [enAt, List.getD_eq_getElem?_getD, h]
theorem enAt_mem {es : List En} {k : Nat} (h : k < es.length) : enAt es k ∈ es := by rw [enAt_is h]; exact List.getElem_mem h
/-- The slice of entries at 'ao' reads as 'es' in w. -/
def EntsAt (w : World) (ao : Option Addr) (es : List En) : Prop :=
  es = [] ∨ ∃ b off, ao = some ⟨b, off, none⟩ ∧ b < w.heap.size ∧ ∀ i, i < es.length →
    w.cell? ⟨b, off + i * 4, none⟩ = some (.int .i64 (enAt es i).1) ∧ w.cell? ⟨b, off + i * 4 + 1, none⟩ = some (.int .i64 (enAt es i).2.1) ∧ w.cell? ⟨b, off + i * 4 + 2, none⟩ = some (.int .i64 (enAt es i).2.2.1) ∧ w.cell? ⟨b, off + i * 4 + 3, none⟩ = some (.int .i64 (enAt es i).2.2.2)
def EntsBd (es : List En) : Prop := es.length ≤ maxLen ∧ ∀ x ∈ es, enBd x
theorem EntsAt.below {w w' : World} {ao : Option Addr} {es : List En} (h : EntsAt w ao es) (hb : Below w.heap.size w w') : EntsAt w' ao es := by
  rcases h with h | ⟨b, off, h1, h2, h3⟩
  · exact .inl h
  · exact .inr ⟨b, off, h1, Nat.lt_of_lt_of_le h2 hb.size, fun i hi => ⟨(hb.cell (p := ⟨b, off + i * 4, none⟩) h2).trans (h3 i hi).1, (hb.cell (p := ⟨b, off + i * 4 + 1, none⟩) h2).trans (h3 i hi).2.1, (hb.cell (p := ⟨b, off + i * 4 + 2, none⟩) h2).trans (h3 i hi).2.2.1, (hb.cell (p := ⟨b, off + i * 4 + 3, none⟩) h2).trans (h3 i hi).2.2.2⟩⟩
theorem EntsAt.at {w : World} {ao : Option Addr} {es : List En} (h : EntsAt w ao es) {k : Nat} (hk : k < es.length) :
    ∃ b off, ao = some ⟨b, off, none⟩ ∧ b < w.heap.size ∧ w.cell? ⟨b, off + k * 4, none⟩ = some (.int .i64 (enAt es k).1) ∧ w.cell? ⟨b, off + k * 4 + 1, none⟩ = some (.int .i64 (enAt es k).2.1) ∧ w.cell? ⟨b, off + k * 4 + 2, none⟩ = some (.int .i64 (enAt es k).2.2.1) ∧ w.cell? ⟨b, off + k * 4 + 3, none⟩ = some (.int .i64 (enAt es k).2.2.2) := by
  rcases h with rfl | ⟨b, off, h1, h2, h3⟩
  · simp at hk
  · exact ⟨b, off, h1, h2, h3 k hk⟩
section
variable {P : Program} {H : Type} {enc : TypeId × Value → H} {W : World}
/-- a struct of three ints, cell by cell -/
theorem ints3 {e : TypeId} {f0 f1 f2 : Field} {fuel : Nat} {cs : List Value} {x : DataW H × List MemPlace} (he : P.underlying e = some (.struct #[f0, f1, f2])) (ce : P.cellsOf e = 3) (o0 : f0.offset = 0) (o1 : f1.offset = 1) (o2 : f2.offset = 2)
    (c0 : P.cellsOf f0.type = 1) (c1 : P.cellsOf f1.type = 1) (c2 : P.cellsOf f2.type = 1) (u0 : P.underlying f0.type = some (.int .i64)) (u1 : P.underlying f1.type = some (.int .i64)) (u2 : P.underlying f2.type = some (.int .i64))
    (h : DataW.trod enc P W 0 (fun _ => true) true fuel e cs = some x) : ∃ l : Ln, cs = [.int .i64 l.1, .int .i64 l.2.1, .int .i64 l.2.2] ∧ lnBd l := by
  obtain ⟨y0, y1, y2, n, _, hl, h0, h1, h2⟩ := trod_struct3 he h
  rw [ce] at hl
  match cs, hl with
  | [a, b, c], _ =>
    simp [o0, o1, o2, c0, c1, c2] at h0 h1 h2
    obtain ⟨z0, q0, _, r0⟩ := DataW.trod_int u0 h0
    obtain ⟨z1, q1, _, r1⟩ := DataW.trod_int u1 h1
    obtain ⟨z2, q2, _, r2⟩ := DataW.trod_int u2 h2
    simp at q0 q1 q2
    exact ⟨(z0, z1, z2), by rw [q0, q1, q2], r0, r1, r2⟩
/-- a struct of four ints, cell by cell -/
theorem ints4 {e : TypeId} {f0 f1 f2 f3 : Field} {fuel : Nat} {cs : List Value} {x : DataW H × List MemPlace} (he : P.underlying e = some (.struct #[f0, f1, f2, f3])) (ce : P.cellsOf e = 4) (o0 : f0.offset = 0) (o1 : f1.offset = 1) (o2 : f2.offset = 2) (o3 : f3.offset = 3)
    (c0 : P.cellsOf f0.type = 1) (c1 : P.cellsOf f1.type = 1) (c2 : P.cellsOf f2.type = 1) (c3 : P.cellsOf f3.type = 1) (u0 : P.underlying f0.type = some (.int .i64)) (u1 : P.underlying f1.type = some (.int .i64)) (u2 : P.underlying f2.type = some (.int .i64)) (u3 : P.underlying f3.type = some (.int .i64))
    (h : DataW.trod enc P W 0 (fun _ => true) true fuel e cs = some x) : ∃ l : En, cs = [.int .i64 l.1, .int .i64 l.2.1, .int .i64 l.2.2.1, .int .i64 l.2.2.2] ∧ enBd l := by
  obtain ⟨xs, n, _, _, hl, hxl, hf⟩ := DataW.trod_struct he h
  rw [ce] at hl
  match xs, hxl, cs, hl with
  | [y0, y1, y2, y3], _, [a, b, c, d], _ =>
    have h0 := hf 0 f0 rfl
    have h1 := hf 1 f1 rfl
    have h2 := hf 2 f2 rfl
    have h3 := hf 3 f3 rfl
    simp [o0, o1, o2, o3, c0, c1, c2, c3] at h0 h1 h2 h3
    obtain ⟨z0, q0, _, r0⟩ := DataW.trod_int u0 h0
    obtain ⟨z1, q1, _, r1⟩ := DataW.trod_int u1 h1
    obtain ⟨z2, q2, _, r2⟩ := DataW.trod_int u2 h2
    obtain ⟨z3, q3, _, r3⟩ := DataW.trod_int u3 h3
    simp at q0 q1 q2 q3
    exact ⟨(z0, z1, z2, z3), by rw [q0, q1, q2, q3], r0, r1, r2, r3⟩
theorem add_at3 (b off i j : Nat) : ((⟨b, off, none⟩ : Addr).add i).add j = ⟨b, off + i + j, none⟩ := by
  have e : ∀ o k, ((⟨b, o, none⟩ : Addr).add k) = ⟨b, o + k, none⟩ := fun o k => by unfold Addr.add; split <;> simp_all
  rw [e, e]
/-- a slice of structs of three ints -/
theorem lines_open {t e : TypeId} {f0 f1 f2 : Field} {fuel : Nat} {y : Value} {x : DataW H × List MemPlace} (ht : P.underlying t = some (.slice e)) (he : P.underlying e = some (.struct #[f0, f1, f2])) (ce : P.cellsOf e = 3) (o0 : f0.offset = 0) (o1 : f1.offset = 1) (o2 : f2.offset = 2)
    (c0 : P.cellsOf f0.type = 1) (c1 : P.cellsOf f1.type = 1) (c2 : P.cellsOf f2.type = 1) (u0 : P.underlying f0.type = some (.int .i64)) (u1 : P.underlying f1.type = some (.int .i64)) (u2 : P.underlying f2.type = some (.int .i64))
    (h : DataW.trod enc P W 0 (fun _ => true) true fuel t [y] = some x) : ∃ a cap ls, y = .slice a (List.length ls) cap ∧ LinesAt W a ls ∧ LinesBd ls := by
  rcases open_slice ht h with ⟨e1, _⟩ | ⟨a, len, cap, m, n, D, Pl, e1, hb, hlc, hm, hmm, _, hx⟩
  · simp at e1
    exact ⟨none, 0, [], by rw [e1]; rfl, .inl rfl, Nat.zero_le _, fun f hf => by cases hf⟩
  · simp at e1 hmm
    subst hmm
    obtain ⟨F, hF⟩ := choose_lt (α := Ln) (n := m) (p := fun i l => W.cells? 0 (a.add (i * P.cellsOf e)) (P.cellsOf e) = some [.int .i64 l.1, .int .i64 l.2.1, .int .i64 l.2.2] ∧ lnBd l) (fun i hi => by
      obtain ⟨cs', g1, g2⟩ := hx i hi
      obtain ⟨l, rfl, hl⟩ := ints3 he ce o0 o1 o2 c0 c1 c2 u0 u1 u2 g2
      exact ⟨l, g1, hl⟩)
    refine ⟨some a, m, (List.range len).map F, by rw [e1]; simp, ?_, by rw [List.length_map, List.length_range]; exact Nat.le_trans hlc hm, fun f hf => by
      obtain ⟨i, hi, rfl⟩ := List.mem_map.1 hf
      exact (hF i (by have := List.mem_range.1 hi; omega)).2⟩
    by_cases hz : len = 0
    · subst hz; exact .inl rfl
    · have each : ∀ i, i < len → ∀ j v, [Value.int .i64 (F i).1, .int .i64 (F i).2.1, .int .i64 (F i).2.2][j]? = some v → W.cell? ((a.add (i * 3)).add j) = some v := fun i hi j v hv => by
        have g := (hF i (by omega)).1
        rw [ce] at g
        obtain ⟨_, _, hcell⟩ := World.cells?_some g
        have := hcell j (by have := (List.getElem?_eq_some_iff.1 hv).1; simpa using this)
        rw [this]; simpa using hv
      obtain ⟨bk, off, spot⟩ := a
      have hc0 := each 0 (by omega) 0 _ rfl
      have hspot : spot = none := by simpa [Addr.add] using World.cell?_spot hc0
      subst hspot
      refine .inr ⟨bk, off, rfl, ?_, fun i hi => ?_⟩
      · have := World.block_lt_of_cell? W _ hc0
        simpa [add_at3] using this
      · have hi' : i < len := by simpa using hi
        have hat : lnAt ((List.range len).map F) i = F i := by simp [lnAt, List.getD_eq_getElem?_getD, hi']
        rw [hat]
        have g0 := each i hi' 0 _ rfl
        have g1 := each i hi' 1 _ rfl
        have g2 := each i hi' 2 _ rfl
        rw [add_at3] at g0 g1 g2
        exact ⟨g0, g1, g2⟩
/-- a slice of structs of four ints -/
theorem ents_open {t e : TypeId} {f0 f1 f2 f3 : Field} {fuel : Nat} {y : Value} {x : DataW H × List MemPlace} (ht : P.underlying t = some (.slice e)) (he : P.underlying e = some (.struct #[f0, f1, f2, f3])) (ce : P.cellsOf e = 4) (o0 : f0.offset = 0) (o1 : f1.offset = 1) (o2 : f2.offset = 2) (o3 : f3.offset = 3)
    (c0 : P.cellsOf f0.type = 1) (c1 : P.cellsOf f1.type = 1) (c2 : P.cellsOf f2.type = 1) (c3 : P.cellsOf f3.type = 1) (u0 : P.underlying f0.type = some (.int .i64)) (u1 : P.underlying f1.type = some (.int .i64)) (u2 : P.underlying f2.type = some (.int .i64)) (u3 : P.underlying f3.type = some (.int .i64))
    (h : DataW.trod enc P W 0 (fun _ => true) true fuel t [y] = some x) : ∃ a cap ls, y = .slice a (List.length ls) cap ∧ EntsAt W a ls ∧ EntsBd ls := by
  rcases open_slice ht h with ⟨e1, _⟩ | ⟨a, len, cap, m, n, D, Pl, e1, hb, hlc, hm, hmm, _, hx⟩
  · simp at e1
    exact ⟨none, 0, [], by rw [e1]; rfl, .inl rfl, Nat.zero_le _, fun f hf => by cases hf⟩
  · simp at e1 hmm
    subst hmm
    obtain ⟨F, hF⟩ := choose_lt (α := En) (n := m) (p := fun i l => W.cells? 0 (a.add (i * P.cellsOf e)) (P.cellsOf e) = some [.int .i64 l.1, .int .i64 l.2.1, .int .i64 l.2.2.1, .int .i64 l.2.2.2] ∧ enBd l) (fun i hi => by
      obtain ⟨cs', g1, g2⟩ := hx i hi
      obtain ⟨l, rfl, hl⟩ := ints4 he ce o0 o1 o2 o3 c0 c1 c2 c3 u0 u1 u2 u3 g2
      exact ⟨l, g1, hl⟩)
    refine ⟨some a, m, (List.range len).map F, by rw [e1]; simp, ?_, by rw [List.length_map, List.length_range]; exact Nat.le_trans hlc hm, fun f hf => by
      obtain ⟨i, hi, rfl⟩ := List.mem_map.1 hf
      exact (hF i (by have := List.mem_range.1 hi; omega)).2⟩
    by_cases hz : len = 0
    · subst hz; exact .inl rfl
    · have each : ∀ i, i < len → ∀ j v, [Value.int .i64 (F i).1, .int .i64 (F i).2.1, .int .i64 (F i).2.2.1, .int .i64 (F i).2.2.2][j]? = some v → W.cell? ((a.add (i * 4)).add j) = some v := fun i hi j v hv => by
        have g := (hF i (by omega)).1
        rw [ce] at g
        obtain ⟨_, _, hcell⟩ := World.cells?_some g
        have := hcell j (by have := (List.getElem?_eq_some_iff.1 hv).1; simpa using this)
        rw [this]; simpa using hv
      obtain ⟨bk, off, spot⟩ := a
      have hc0 := each 0 (by omega) 0 _ rfl
      have hspot : spot = none := by simpa [Addr.add] using World.cell?_spot hc0
      subst hspot
      refine .inr ⟨bk, off, rfl, ?_, fun i hi => ?_⟩
      · have := World.block_lt_of_cell? W _ hc0
        simpa [add_at3] using this
      · have hi' : i < len := by simpa using hi
        have hat : enAt ((List.range len).map F) i = F i := by simp [enAt, List.getD_eq_getElem?_getD, hi']
        rw [hat]
        have g0 := each i hi' 0 _ rfl
        have g1 := each i hi' 1 _ rfl
        have g2 := each i hi' 2 _ rfl
        have g3 := each i hi' 3 _ rfl
        rw [add_at3] at g0 g1 g2 g3
        exact ⟨g0, g1, g2, g3⟩
/-- a struct whose one field is a slice of structs of three ints -/
theorem is_ledger {r : Reach} {base : Nat} {t e : TypeId} {g0 f0 f1 f2 : Field} {v : Value} {d : DataW H} {p : List MemPlace} (hg : P.underlying t = some (.struct #[g0])) (cg : P.cellsOf t = 1) (og : g0.offset = 0) (cg0 : P.cellsOf g0.type = 1) (ht : P.underlying g0.type = some (.slice e))
    (he : P.underlying e = some (.struct #[f0, f1, f2])) (ce : P.cellsOf e = 3) (o0 : f0.offset = 0) (o1 : f1.offset = 1) (o2 : f2.offset = 2)
    (c0 : P.cellsOf f0.type = 1) (c1 : P.cellsOf f1.type = 1) (c2 : P.cellsOf f2.type = 1) (u0 : P.underlying f0.type = some (.int .i64)) (u1 : P.underlying f1.type = some (.int .i64)) (u2 : P.underlying f2.type = some (.int .i64))
    (hv : Value.okWide P W r base t v) (h : DataW.Trod enc P W 0 (fun _ => true) true t v d p) : ∃ a cap ls, v = .agg #[.slice a (List.length ls) cap] ∧ LinesAt W a ls ∧ LinesBd ls := by
  obtain ⟨cs, rfl, _⟩ := okWide_struct hg hv
  obtain ⟨fuel, hf⟩ := h
  obtain ⟨y0, m, _, hl, h0⟩ := trod_struct1 hg hf
  simp only [Value.cells] at hl h0
  rw [cg] at hl
  obtain ⟨l⟩ := cs
  match l, hl with
  | [y], _ =>
    simp [og, cg0] at h0
    obtain ⟨a, cap, ls, e1, e2, e3⟩ := lines_open ht he ce o0 o1 o2 c0 c1 c2 u0 u1 u2 h0
    exact ⟨a, cap, ls, by rw [e1], e2, e3⟩
theorem is_entry {r : Reach} {base : Nat} {t : TypeId} {f0 f1 f2 f3 : Field} {v : Value} {d : DataW H} {p : List MemPlace} (he : P.underlying t = some (.struct #[f0, f1, f2, f3])) (ce : P.cellsOf t = 4) (o0 : f0.offset = 0) (o1 : f1.offset = 1) (o2 : f2.offset = 2) (o3 : f3.offset = 3)
    (c0 : P.cellsOf f0.type = 1) (c1 : P.cellsOf f1.type = 1) (c2 : P.cellsOf f2.type = 1) (c3 : P.cellsOf f3.type = 1) (u0 : P.underlying f0.type = some (.int .i64)) (u1 : P.underlying f1.type = some (.int .i64)) (u2 : P.underlying f2.type = some (.int .i64)) (u3 : P.underlying f3.type = some (.int .i64))
    (hv : Value.okWide P W r base t v) (h : DataW.Trod enc P W 0 (fun _ => true) true t v d p) : ∃ a b c m, v = .agg #[.int .i64 a, .int .i64 b, .int .i64 c, .int .i64 m] ∧ enBd (a, b, c, m) := by
  obtain ⟨cs, rfl, _⟩ := okWide_struct he hv
  obtain ⟨fuel, hf⟩ := h
  obtain ⟨l, e1, e2⟩ := ints4 he ce o0 o1 o2 o3 c0 c1 c2 c3 u0 u1 u2 u3 hf
  simp only [Value.cells] at e1
  obtain ⟨cl⟩ := cs
  simp only at e1
  subst e1
  exact ⟨l.1, l.2.1, l.2.2.1, l.2.2.2, rfl, e2⟩
theorem is_ents {r : Reach} {base : Nat} {t e : TypeId} {f0 f1 f2 f3 : Field} {v : Value} {d : DataW H} {p : List MemPlace} (ht : P.underlying t = some (.slice e)) (he : P.underlying e = some (.struct #[f0, f1, f2, f3])) (ce : P.cellsOf e = 4) (o0 : f0.offset = 0) (o1 : f1.offset = 1) (o2 : f2.offset = 2) (o3 : f3.offset = 3)
    (c0 : P.cellsOf f0.type = 1) (c1 : P.cellsOf f1.type = 1) (c2 : P.cellsOf f2.type = 1) (c3 : P.cellsOf f3.type = 1) (u0 : P.underlying f0.type = some (.int .i64)) (u1 : P.underlying f1.type = some (.int .i64)) (u2 : P.underlying f2.type = some (.int .i64)) (u3 : P.underlying f3.type = some (.int .i64))
    (hv : Value.okWide P W r base t v) (h : DataW.Trod enc P W 0 (fun _ => true) true t v d p) : ∃ a cap es, v = .slice a (List.length es) cap ∧ EntsAt W a es ∧ EntsBd es := by
  obtain ⟨va, vl, vc, rfl⟩ := okWide_slice ht hv
  obtain ⟨fuel, h1⟩ := h
  exact ents_open ht he ce o0 o1 o2 o3 c0 c1 c2 c3 u0 u1 u2 u3 h1
end
def lcell (x : Ln) : List Value := [.int .i64 x.1, .int .i64 x.2.1, .int .i64 x.2.2]
def lcells (ls : List Ln) : List Value := ls.flatMap lcell
theorem lcells_cons (x : Ln) (r : List Ln) : lcells (x :: r) = .int .i64 x.1 :: .int .i64 x.2.1 :: .int .i64 x.2.2 :: lcells r := rfl
theorem lcells_append (a b : List Ln) : lcells (a ++ b) = lcells a ++ lcells b := by simp [lcells]
theorem lcells_len (ls : List Ln) : (lcells ls).length = ls.length * 3 := by
  induction ls with
  | nil => rfl
  | cons f r ih => rw [lcells_cons]; simp [ih]; omega
theorem lcells_at (ls : List Ln) : ∀ k, k < ls.length → (lcells ls)[k * 3]? = some (.int .i64 (lnAt ls k).1) ∧ (lcells ls)[k * 3 + 1]? = some (.int .i64 (lnAt ls k).2.1) ∧ (lcells ls)[k * 3 + 2]? = some (.int .i64 (lnAt ls k).2.2) := by
  induction ls with
  | nil => intro k h; simp at h
  | cons f r ih =>
    intro k h
    rw [lcells_cons]
    cases k with
    | zero => exact ⟨rfl, rfl, rfl⟩
    | succ k =>
      have := ih k (by simpa using h)
      rw [show (k + 1) * 3 = k * 3 + 1 + 1 + 1 by omega]
      simp only [List.getElem?_cons_succ]
      exact this
theorem lcells_set (ls : List Ln) (x : Ln) : ∀ k, k < ls.length → (((lcells ls).set (k * 3) (.int .i64 x.1)).set (k * 3 + 1) (.int .i64 x.2.1)).set (k * 3 + 2) (.int .i64 x.2.2) = lcells (ls.set k x) := by
  induction ls with
  | nil => intro k h; simp at h
  | cons g r ih =>
    intro k h
    rw [lcells_cons]
    cases k with
    | zero => rfl
    | succ k =>
      have := ih k (by simpa using h)
      rw [show (k + 1) * 3 = k * 3 + 1 + 1 + 1 by omega]
      simp only [List.set_cons_succ]
      rw [this]
      rfl
theorem lcells_one (ls : List Ln) : ∀ u ∈ lcells ls, u.oneCell' = true := by
  intro u hu
  simp only [lcells, List.mem_flatMap, lcell] at hu
  obtain ⟨f, _, hf⟩ := hu
  simp at hf
  rcases hf with rfl | rfl | rfl <;> rfl
theorem lines_of_own {w : World} {base n : Nat} {t : TypeId} {v : Value} {ls : List Ln} (h : w.ownsRow base t 3 v n (lcells ls)) : ∃ ao cap, v = .slice ao ls.length cap ∧ LinesAt w ao ls ∧ n = ls.length := by
  have hn : n = ls.length := by have := h.1; rw [lcells_len] at this; omega
  subst hn
  rcases h.2 with ⟨rfl, hn⟩ | ⟨g, cap, cur, rfl, _⟩
  · have : ls = [] := List.eq_nil_of_length_eq_zero hn
    subst this
    exact ⟨none, 0, rfl, .inl rfl, rfl⟩
  · refine ⟨_, cap, rfl, ?_, rfl⟩
    by_cases h0 : ls = []
    · exact .inl h0
    · refine .inr ⟨g, 0, rfl, (h.lt g rfl).2, fun i hi => ?_⟩
      have := lcells_at ls i hi
      rw [Nat.zero_add, h.cellAt (i * 3) (by omega), h.cellAt (i * 3 + 1) (by omega), h.cellAt (i * 3 + 2) (by omega)]
      exact this
end Go.Proofs.YtjnekdihmchlpaaGreatDoor
/- Cases, plainly: reasons, when a case is so, what a start answers. No Go in sight. -/
namespace Go.Proofs.YtjnekdihmchlpaaGreatDoor
/-- a case -/
structure Cs where
  iss : Int
  acq : Int
  cur : Int
  am : Int
  st : Int
  rsn : Int
  cl : Int
  bk : Int
  fee : Int
  cop : Bool
  sta : Int
  due : Int
/-- an act -/
structure Ac where
  kind : Int
  am : Int
  rsn : Int
def rOk (x : Int) : Bool := x == 4837 || x == 4855 || x == 4834 || x == 4831 || x == 4853 || x == 4841
def rDays (x : Int) : Int := if x = 4837 then 85 else if x = 4855 then 65 else if x = 4834 then 45 else if x = 4831 then 45 else if x = 4853 then 65 else if x = 4841 then 45 else -1
def rPart (x : Int) : Bool := x == 4831 || x == 4853
def rProof (x : Int) : Bool := x == 4837 || x == 4834
theorem r_cases (x : Int) : x = 4837 ∨ x = 4855 ∨ x = 4834 ∨ x = 4831 ∨ x = 4853 ∨ x = 4841 ∨ (x ≠ 4837 ∧ x ≠ 4855 ∧ x ≠ 4834 ∧ x ≠ 4831 ∧ x ≠ 4853 ∧ x ≠ 4841) := by omega
theorem rOk_no {x : Int} (h : x ≠ 4837 ∧ x ≠ 4855 ∧ x ≠ 4834 ∧ x ≠ 4831 ∧ x ≠ 4853 ∧ x ≠ 4841) : rOk x = false := by simp [rOk, h]
theorem rDays_no {x : Int} (h : x ≠ 4837 ∧ x ≠ 4855 ∧ x ≠ 4834 ∧ x ≠ 4831 ∧ x ≠ 4853 ∧ x ≠ 4841) : rDays x = -1 := by simp [rDays, h]
theorem rPart_no {x : Int} (h : x ≠ 4837 ∧ x ≠ 4855 ∧ x ≠ 4834 ∧ x ≠ 4831 ∧ x ≠ 4853 ∧ x ≠ 4841) : rPart x = false := by simp [rPart, h]
theorem rProof_no {x : Int} (h : x ≠ 4837 ∧ x ≠ 4855 ∧ x ≠ 4834 ∧ x ≠ 4831 ∧ x ≠ 4853 ∧ x ≠ 4841) : rProof x = false := by simp [rProof, h]
def early (st : Int) : Bool := decide (0 ≤ st ∧ st ≤ 2) || decide (st = 7)
def party (a : Int) : Bool := acctOk a && decide (a ≠ 9999)
def reasonOkAt (r st : Int) : Bool := rOk r || (decide (r = 0) && early st)
/-- when a case is so -/
def caseOk (c : Cs) : Bool :=
  party c.iss && (party c.acq && (decide (c.iss ≠ c.acq) && (decide (0 ≤ digs c.cur) && (decide (1 ≤ c.am ∧ c.am ≤ 100000000000) && (decide (0 ≤ c.st ∧ c.st ≤ 7) && (reasonOkAt c.rsn c.st &&
    (decide (0 ≤ c.cl ∧ c.cl ≤ c.am) && (decide (0 ≤ c.bk ∧ c.bk ≤ c.am) && (decide (0 ≤ c.fee ∧ c.fee ≤ 500000) && (dOk c.sta && (dOk c.due || decide (c.due = -1))))))))))))
theorem caseOk_parts {c : Cs} (h : caseOk c = true) : party c.iss = true ∧ party c.acq = true ∧ c.iss ≠ c.acq ∧ 0 ≤ digs c.cur ∧ (1 ≤ c.am ∧ c.am ≤ 100000000000) ∧ (0 ≤ c.st ∧ c.st ≤ 7) ∧ reasonOkAt c.rsn c.st = true ∧
    (0 ≤ c.cl ∧ c.cl ≤ c.am) ∧ (0 ≤ c.bk ∧ c.bk ≤ c.am) ∧ (0 ≤ c.fee ∧ c.fee ≤ 500000) ∧ dOk c.sta = true ∧ (dOk c.due = true ∨ c.due = -1) := by
  simpa [caseOk] using h
/-- what a start answers -/
def startC (iss acq cur am day : Int) : Cs := ⟨iss, acq, cur, am, 0, 0, 0, 0, 0, false, day, -1⟩
end Go.Proofs.YtjnekdihmchlpaaGreatDoor
/- A case as it lies: its value, its box, what stays of it. -/
namespace Go.Proofs.YtjnekdihmchlpaaGreatDoor
open Go.RowKit
set_option maxRecDepth 100000
/-- a case as a value, and as cells -/
def cv (c : Cs) : Value := .agg #[.int .i64 c.iss, .int .i64 c.acq, .int .i64 c.cur, .int .i64 c.am, .int .i64 c.st, .int .i64 c.rsn, .int .i64 c.cl, .int .i64 c.bk, .int .i64 c.fee, .bool c.cop, .int .i64 c.sta, .int .i64 c.due]
def ccs (c : Cs) : Array Value := #[.int .i64 c.iss, .int .i64 c.acq, .int .i64 c.cur, .int .i64 c.am, .int .i64 c.st, .int .i64 c.rsn, .int .i64 c.cl, .int .i64 c.bk, .int .i64 c.fee, .bool c.cop, .int .i64 c.sta, .int .i64 c.due]
/-- a case lies in a block, from a place on -/
structure CB (s o : Nat) (c : Cs) (u : World) : Prop where
  f0 : u.cell? ⟨s, o, none⟩ = some (.int .i64 c.iss)
  f1 : u.cell? ⟨s, o + 1, none⟩ = some (.int .i64 c.acq)
  f2 : u.cell? ⟨s, o + 2, none⟩ = some (.int .i64 c.cur)
  f3 : u.cell? ⟨s, o + 3, none⟩ = some (.int .i64 c.am)
  f4 : u.cell? ⟨s, o + 4, none⟩ = some (.int .i64 c.st)
  f5 : u.cell? ⟨s, o + 5, none⟩ = some (.int .i64 c.rsn)
  f6 : u.cell? ⟨s, o + 6, none⟩ = some (.int .i64 c.cl)
  f7 : u.cell? ⟨s, o + 7, none⟩ = some (.int .i64 c.bk)
  f8 : u.cell? ⟨s, o + 8, none⟩ = some (.int .i64 c.fee)
  f9 : u.cell? ⟨s, o + 9, none⟩ = some (.bool c.cop)
  f10 : u.cell? ⟨s, o + 10, none⟩ = some (.int .i64 c.sta)
  f11 : u.cell? ⟨s, o + 11, none⟩ = some (.int .i64 c.due)
theorem CB.lt {s o : Nat} {c : Cs} {u : World} (h : CB s o c u) : s < u.heap.size := World.block_lt_of_cell? u _ h.f0
theorem CB.below {s o : Nat} {c : Cs} {u u' : World} (h : CB s o c u) (b : Below u.heap.size u u') : CB s o c u' := by
  have l := h.lt
  exact ⟨(b.cell (p := ⟨s, o, none⟩) l).trans h.f0, (b.cell (p := ⟨s, o + 1, none⟩) l).trans h.f1, (b.cell (p := ⟨s, o + 2, none⟩) l).trans h.f2, (b.cell (p := ⟨s, o + 3, none⟩) l).trans h.f3, (b.cell (p := ⟨s, o + 4, none⟩) l).trans h.f4, (b.cell (p := ⟨s, o + 5, none⟩) l).trans h.f5,
    (b.cell (p := ⟨s, o + 6, none⟩) l).trans h.f6, (b.cell (p := ⟨s, o + 7, none⟩) l).trans h.f7, (b.cell (p := ⟨s, o + 8, none⟩) l).trans h.f8, (b.cell (p := ⟨s, o + 9, none⟩) l).trans h.f9, (b.cell (p := ⟨s, o + 10, none⟩) l).trans h.f10, (b.cell (p := ⟨s, o + 11, none⟩) l).trans h.f11⟩
theorem CB.grown {s o : Nat} {c : Cs} {u u' : World} {row : Option Nat} (h : CB s o c u) (g : u.grownBy u' row) (hr : some s ≠ row) : CB s o c u' := by
  have l := h.lt
  exact ⟨(g.cell_far ⟨s, o, none⟩ l hr).trans h.f0, (g.cell_far ⟨s, o + 1, none⟩ l hr).trans h.f1, (g.cell_far ⟨s, o + 2, none⟩ l hr).trans h.f2, (g.cell_far ⟨s, o + 3, none⟩ l hr).trans h.f3, (g.cell_far ⟨s, o + 4, none⟩ l hr).trans h.f4, (g.cell_far ⟨s, o + 5, none⟩ l hr).trans h.f5,
    (g.cell_far ⟨s, o + 6, none⟩ l hr).trans h.f6, (g.cell_far ⟨s, o + 7, none⟩ l hr).trans h.f7, (g.cell_far ⟨s, o + 8, none⟩ l hr).trans h.f8, (g.cell_far ⟨s, o + 9, none⟩ l hr).trans h.f9, (g.cell_far ⟨s, o + 10, none⟩ l hr).trans h.f10, (g.cell_far ⟨s, o + 11, none⟩ l hr).trans h.f11⟩
theorem CB.new (w : World) (c : Cs) (t : TypeId) : CB w.heap.size 0 c (w.alloc (.cells #[.int .i64 c.iss, .int .i64 c.acq, .int .i64 c.cur, .int .i64 c.am, .int .i64 c.st, .int .i64 c.rsn, .int .i64 c.cl, .int .i64 c.bk, .int .i64 c.fee, .bool c.cop, .int .i64 c.sta, .int .i64 c.due] t)) := by
  exact ⟨by simp, by simp, by simp, by simp, by simp, by simp, by simp, by simp, by simp, by simp, by simp, by simp⟩
/-- the cells of a case may be written -/
structure FZ (s o : Nat) (u : World) : Prop where
  z0 : u.frozen? ⟨s, o, none⟩ = false
  z1 : u.frozen? ⟨s, o + 1, none⟩ = false
  z2 : u.frozen? ⟨s, o + 2, none⟩ = false
  z3 : u.frozen? ⟨s, o + 3, none⟩ = false
  z4 : u.frozen? ⟨s, o + 4, none⟩ = false
  z5 : u.frozen? ⟨s, o + 5, none⟩ = false
  z6 : u.frozen? ⟨s, o + 6, none⟩ = false
  z7 : u.frozen? ⟨s, o + 7, none⟩ = false
  z8 : u.frozen? ⟨s, o + 8, none⟩ = false
  z9 : u.frozen? ⟨s, o + 9, none⟩ = false
  z10 : u.frozen? ⟨s, o + 10, none⟩ = false
  z11 : u.frozen? ⟨s, o + 11, none⟩ = false
theorem FZ.below {s o : Nat} {u u' : World} (h : FZ s o u) (l : s < u.heap.size) (b : Below u.heap.size u u') : FZ s o u' :=
  ⟨(b.frozen (p := ⟨s, o, none⟩) l).trans h.z0, (b.frozen (p := ⟨s, o + 1, none⟩) l).trans h.z1, (b.frozen (p := ⟨s, o + 2, none⟩) l).trans h.z2, (b.frozen (p := ⟨s, o + 3, none⟩) l).trans h.z3, (b.frozen (p := ⟨s, o + 4, none⟩) l).trans h.z4, (b.frozen (p := ⟨s, o + 5, none⟩) l).trans h.z5, (b.frozen (p := ⟨s, o + 6, none⟩) l).trans h.z6, (b.frozen (p := ⟨s, o + 7, none⟩) l).trans h.z7, (b.frozen (p := ⟨s, o + 8, none⟩) l).trans h.z8, (b.frozen (p := ⟨s, o + 9, none⟩) l).trans h.z9, (b.frozen (p := ⟨s, o + 10, none⟩) l).trans h.z10, (b.frozen (p := ⟨s, o + 11, none⟩) l).trans h.z11⟩
theorem FZ.grown {s o : Nat} {u u' : World} {row : Option Nat} (h : FZ s o u) (l : s < u.heap.size) (g : u.grownBy u' row) (hr : some s ≠ row) : FZ s o u' :=
  ⟨(g.frozen_far ⟨s, o, none⟩ l hr).trans h.z0, (g.frozen_far ⟨s, o + 1, none⟩ l hr).trans h.z1, (g.frozen_far ⟨s, o + 2, none⟩ l hr).trans h.z2, (g.frozen_far ⟨s, o + 3, none⟩ l hr).trans h.z3, (g.frozen_far ⟨s, o + 4, none⟩ l hr).trans h.z4, (g.frozen_far ⟨s, o + 5, none⟩ l hr).trans h.z5, (g.frozen_far ⟨s, o + 6, none⟩ l hr).trans h.z6, (g.frozen_far ⟨s, o + 7, none⟩ l hr).trans h.z7, (g.frozen_far ⟨s, o + 8, none⟩ l hr).trans h.z8, (g.frozen_far ⟨s, o + 9, none⟩ l hr).trans h.z9, (g.frozen_far ⟨s, o + 10, none⟩ l hr).trans h.z10, (g.frozen_far ⟨s, o + 11, none⟩ l hr).trans h.z11⟩
theorem FZ.new (w : World) (cs : Array Value) (t : TypeId) : FZ w.heap.size 0 (w.alloc (.cells cs t)) :=
  ⟨by simp [go_sem], by simp [go_sem], by simp [go_sem], by simp [go_sem], by simp [go_sem], by simp [go_sem], by simp [go_sem], by simp [go_sem], by simp [go_sem], by simp [go_sem], by simp [go_sem], by simp [go_sem]⟩
/-- a case put into a block -/
def put12 (u : World) (h : Nat) (c : Cs) : World :=
  (((((((((((u.setCell ⟨h, 0, none⟩ (.int .i64 c.iss)).setCell ⟨h, 1, none⟩ (.int .i64 c.acq)).setCell ⟨h, 2, none⟩ (.int .i64 c.cur)).setCell ⟨h, 3, none⟩ (.int .i64 c.am)).setCell ⟨h, 4, none⟩ (.int .i64 c.st)).setCell ⟨h, 5, none⟩ (.int .i64 c.rsn)).setCell ⟨h, 6, none⟩ (.int .i64 c.cl)).setCell ⟨h, 7, none⟩ (.int .i64 c.bk)).setCell ⟨h, 8, none⟩ (.int .i64 c.fee)).setCell ⟨h, 9, none⟩ (.bool c.cop)).setCell ⟨h, 10, none⟩ (.int .i64 c.sta)).setCell ⟨h, 11, none⟩ (.int .i64 c.due)
theorem put12_below {w u : World} {h n : Nat} (c : Cs) (b : Below n w u) (hn : n ≤ h) : Below n w (put12 u h c) :=
  (((((((((((b.setCell hn _).setCell hn _).setCell hn _).setCell hn _).setCell hn _).setCell hn _).setCell hn _).setCell hn _).setCell hn _).setCell hn _).setCell hn _).setCell hn _
theorem put12_size (u : World) (h : Nat) (c : Cs) : (put12 u h c).heap.size = u.heap.size := by simp [put12]
theorem put12_cb {u : World} {h : Nat} {c d : Cs} (b : CB h 0 d u) : CB h 0 c (put12 u h c) := by
  obtain ⟨f0, f1, f2, f3, f4, f5, f6, f7, f8, f9, f10, f11⟩ := b
  simp only [Nat.zero_add] at f0 f1 f2 f3 f4 f5 f6 f7 f8 f9 f10 f11
  exact ⟨by simp [put12, go_sem, f0], by simp [put12, go_sem, f1], by simp [put12, go_sem, f2], by simp [put12, go_sem, f3], by simp [put12, go_sem, f4], by simp [put12, go_sem, f5], by simp [put12, go_sem, f6], by simp [put12, go_sem, f7], by simp [put12, go_sem, f8], by simp [put12, go_sem, f9], by simp [put12, go_sem, f10], by simp [put12, go_sem, f11]⟩
end Go.Proofs.YtjnekdihmchlpaaGreatDoor
/- The contracts of the program's accountOk, EntryOk, Back, keyOf, BalanceOf, Worth, lineOk. -/
namespace Go.Proofs.YtjnekdihmchlpaaGreatDoor
open Go.RowKit
set_option maxRecDepth 100000
set_option maxHeartbeats 400000 in
theorem iAcct_any (a : Int) (w : World) :
    Calls Tryz.prog 99 #[.int .i64 a] w fun e w' => e = .returned (.bool (acctOk a)) ∧ w' = w := by
  by_cases h1 : 1 ≤ a
  · by_cases h2 : a ≤ 9999
    · have HE : Hid (acctOk a = true) := by simp [Hid, acctOk, h1, h2]
      go_enter Tryz.func99, Tryz.ntmps99
      go_wp2
      go_ret
      exact ⟨one_bool HE.out.symm, rfl⟩
    · have HE : Hid (acctOk a = false) := by simp [Hid, acctOk, h1, h2]
      go_enter Tryz.func99, Tryz.ntmps99
      go_wp2
      go_ret
      exact ⟨one_bool HE.out.symm, rfl⟩
  · have HE : Hid (acctOk a = false) := by simp [Hid, acctOk]; omega
    go_enter Tryz.func99, Tryz.ntmps99
    go_wp2
    go_ret
    exact ⟨one_bool HE.out.symm, rfl⟩
theorem iAcct_is {a : Int} {q : Bool} (h : acctOk a = q) (w : World) : Calls Tryz.prog 99 #[.int .i64 a] w fun e w' => e = .returned (.bool q) ∧ w' = w := by rw [← h]; exact iAcct_any a w
theorem iDigs_is {c : Int} (w : World) (d : Int) (h : digs c = d) (hc : (Lit.int .i64 c).wf = true) : Calls Tryz.prog 51 #[.int .i64 c] w fun e w' => e = .returned (.int .i64 d) ∧ Below w.heap.size w w' := by rw [← h]; exact iDigits_any c w hc
end Go.Proofs.YtjnekdihmchlpaaGreatDoor
/- Plain lists of days: holiday lists, and the working days behind a day. No Go in sight. -/
namespace Go.Proofs.YtjnekdihmchlpaaGreatDoor
/-- days, ascending, the first of them above l -/
def ascB : Int → List Int → Bool
  | _, [] => true
  | l, z :: r => decide (l < z ∧ 0 ≤ z ∧ z ≤ 80000) && ascB z r
def offOk (zs : List Int) : Bool := decide (zs.length ≤ 400) && ascB (-1) zs
theorem asc_step (zs : List Int) (k : Nat) (l : Int) (h : k < zs.length) : ascB l (zs.drop k) = (decide (l < zs.getD k 0 ∧ 0 ≤ zs.getD k 0 ∧ zs.getD k 0 ≤ 80000) && ascB (zs.getD k 0) (zs.drop (k + 1))) := by
  rw [List.drop_eq_getElem_cons h, ascB]
  simp [List.getD_eq_getElem?_getD, h]
theorem asc_mem : ∀ (zs : List Int) (l : Int), ascB l zs = true → ∀ z ∈ zs, l < z := by
  intro zs
  induction zs with
  | nil => intro l _ z hz; cases hz
  | cons a r ih =>
    intro l h z hz
    simp [ascB] at h
    rcases List.mem_cons.1 hz with rfl | hz
    · exact h.1.1
    · have := ih a h.2 z hz; omega
theorem asc_lt : ∀ (zs : List Int) (l : Int), ascB l zs = true → ∀ i j, i < j → j < zs.length → zs.getD i 0 < zs.getD j 0 := by
  intro zs
  induction zs with
  | nil => intro l _ i j _ h; simp at h
  | cons a r ih =>
    intro l h i j hij hj
    simp [ascB] at h
    cases j with
    | zero => omega
    | succ j =>
      have hj' : j < r.length := by simpa using hj
      cases i with
      | zero =>
        have := asc_mem r a h.2 (r.getD j 0) (by simp [List.getD_eq_getElem?_getD, hj'])
        simpa [List.getD_eq_getElem?_getD] using this
      | succ i =>
        have := ih a h.2 i j (by omega) hj'
        simpa [List.getD_eq_getElem?_getD] using this
theorem off_asc {zs : List Int} (h : offOk zs = true) : ascB (-1) zs = true := by simp [offOk] at h; exact h.2
theorem off_len {zs : List Int} (h : offOk zs = true) : zs.length ≤ 400 := by simp [offOk] at h; exact h.1
theorem off_no1 {zs : List Int} (h : 400 < zs.length) : offOk zs = false := by simp [offOk]; omega
theorem off_no2 {zs : List Int} (h : ascB (-1) zs = false) : offOk zs = false := by simp [offOk, h]
theorem off_yes {zs : List Int} (h : zs.length ≤ 400) (g : ascB (-1) zs = true) : offOk zs = true := by simp [offOk, h, g]
/-- what a search by halves ends with -/
theorem search_end {zs : List Int} {t : Int} {i : Nat} (ha : ascB (-1) zs = true) (h1 : ∀ k, k < i → zs.getD k 0 < t) (h2 : ∀ k, i ≤ k → k < zs.length → t ≤ zs.getD k 0) :
    (t ∈ zs) ↔ (i < zs.length ∧ zs.getD i 0 = t) := by
  constructor
  · intro hm
    obtain ⟨k, hk, rfl⟩ := List.mem_iff_getElem.1 hm
    have e : zs.getD k 0 = zs[k] := by simp [List.getD_eq_getElem?_getD, hk]
    have hik : i ≤ k := by
      rcases Nat.lt_or_ge k i with h | h
      · have := h1 k h; omega
      · exact h
    by_cases h : i = k
    · subst h; exact ⟨hk, e⟩
    · have a := asc_lt zs _ ha i k (by omega) hk
      have b := h2 i (Nat.le_refl _) (by omega)
      omega
  · rintro ⟨hi, rfl⟩
    simp [List.getD_eq_getElem?_getD, hi]
/-- whether a day is a working day -/
def wk (zs : List Int) (d : Int) : Bool := decide ((d + 5) % 7 < 5) && !decide (d ∈ zs)
def worksV (d : Int) (zs : List Int) : Bool := dOk d && offOk zs && wk zs d
/-- the working days behind the day 80000 - f -/
def wd (zs : List Int) : Nat → List Int
  | 0 => []
  | f + 1 => if wk zs (80000 - f) = true then (80000 - (f : Int)) :: wd zs f else wd zs f
/-- how many of them there are up to b -/
def upto (zs : List Int) (f : Nat) (b : Int) : Nat := (wd zs f).countP (fun x => decide (x ≤ b))
/-- the n-th working day behind the day 80000 - f -/
def adv (zs : List Int) (f : Nat) : Nat → Option Int
  | 0 => some (80000 - (f : Int))
  | n + 1 => (wd zs f)[n]?
def addV (d n : Int) (zs : List Int) : Option Int := if dOk d = true ∧ 0 ≤ n ∧ n ≤ 400 ∧ offOk zs = true then adv zs (80000 - d).toNat n.toNat else none
def betV (a b : Int) (zs : List Int) : Int := if dOk a = true ∧ dOk b = true ∧ offOk zs = true then (upto zs (80000 - a).toNat b : Int) else -1
theorem wd_yes {zs : List Int} {f : Nat} (h : wk zs (80000 - f) = true) : wd zs (f + 1) = (80000 - (f : Int)) :: wd zs f := by rw [wd, if_pos h]
theorem wd_no {zs : List Int} {f : Nat} (h : wk zs (80000 - f) = false) : wd zs (f + 1) = wd zs f := by rw [wd, if_neg (by rw [h]; decide)]
theorem wd_len (zs : List Int) (f : Nat) : (wd zs f).length ≤ f := by
  induction f with
  | zero => exact Nat.le_refl _
  | succ f ih =>
    cases h : wk zs (80000 - f)
    · rw [wd_no h]; omega
    · rw [wd_yes h]; simp; omega
theorem wd_mem {zs : List Int} {f : Nat} {e : Int} (h : e ∈ wd zs f) : 80000 - (f : Int) < e ∧ e ≤ 80000 ∧ wk zs e = true := by
  induction f with
  | zero => cases h
  | succ f ih =>
    cases hw : wk zs (80000 - f)
    · rw [wd_no hw] at h; have := ih h; exact ⟨by omega, this.2.1, this.2.2⟩
    · rw [wd_yes hw] at h
      rcases List.mem_cons.1 h with rfl | h
      · exact ⟨by omega, by omega, hw⟩
      · have := ih h; exact ⟨by omega, by omega, this.2.2⟩
theorem upto_none {zs : List Int} {f : Nat} {b : Int} (h : b ≤ 80000 - (f : Int)) : upto zs f b = 0 := by
  unfold upto
  rw [List.countP_eq_zero]
  intro x hx
  have := wd_mem hx
  simp; omega
theorem upto_yes {zs : List Int} {f : Nat} {b : Int} (h : wk zs (80000 - f) = true) (hb : 80000 - (f : Int) ≤ b) : upto zs (f + 1) b = upto zs f b + 1 := by
  unfold upto
  rw [wd_yes h, List.countP_cons_of_pos (by simpa using hb)]
theorem upto_no {zs : List Int} {f : Nat} {b : Int} (h : wk zs (80000 - f) = false) : upto zs (f + 1) b = upto zs f b := by
  unfold upto; rw [wd_no h]
theorem upto_at {zs : List Int} : ∀ {f k : Nat} {e : Int}, (wd zs f)[k]? = some e → upto zs f e = k + 1 := by
  intro f
  induction f with
  | zero => intro k e h; simp [wd] at h
  | succ f ih =>
    intro k e h
    cases hw : wk zs (80000 - f)
    · rw [wd_no hw] at h; rw [upto_no hw]; exact ih h
    · rw [wd_yes hw] at h
      cases k with
      | zero =>
        obtain rfl : 80000 - (f : Int) = e := by simpa using h
        rw [upto_yes hw (Int.le_refl _), upto_none (Int.le_refl _)]
      | succ k =>
        have h' : (wd zs f)[k]? = some e := by simpa using h
        have hm := wd_mem (List.mem_of_getElem? h')
        rw [upto_yes hw (by omega), ih h']
theorem wd_drop {zs : List Int} : ∀ {f k : Nat} {e : Int}, (wd zs f)[k]? = some e → wd zs (80000 - e).toNat = (wd zs f).drop (k + 1) := by
  intro f
  induction f with
  | zero => intro k e h; simp [wd] at h
  | succ f ih =>
    intro k e h
    cases hw : wk zs (80000 - f)
    · rw [wd_no hw] at h ⊢; exact ih h
    · rw [wd_yes hw] at h ⊢
      cases k with
      | zero =>
        obtain rfl : 80000 - (f : Int) = e := by simpa using h
        rw [show (80000 - (80000 - (f : Int))).toNat = f from by omega]; simp
      | succ k =>
        have h' : (wd zs f)[k]? = some e := by simpa using h
        rw [ih h']; simp
theorem adv_zero (zs : List Int) (f : Nat) : adv zs f 0 = some (80000 - (f : Int)) := rfl
theorem adv_end (zs : List Int) (n : Nat) : adv zs 0 (n + 1) = none := by simp [adv, wd]
theorem adv_yes {zs : List Int} {f n : Nat} (h : wk zs (80000 - f) = true) : adv zs (f + 1) (n + 1) = adv zs f n := by
  rw [adv, wd_yes h]
  cases n with
  | zero => simp [adv]
  | succ n => simp [adv]
theorem adv_no {zs : List Int} {f n : Nat} (h : wk zs (80000 - f) = false) : adv zs (f + 1) (n + 1) = adv zs f (n + 1) := by
  rw [adv, wd_no h]; rfl
theorem adv_bd {zs : List Int} {f n : Nat} {e : Int} (hf : f ≤ 80000) (h : adv zs f n = some e) : 80000 - (f : Int) ≤ e ∧ e ≤ 80000 ∧ (n = 0 ∨ wk zs e = true) := by
  cases n with
  | zero => obtain rfl : 80000 - (f : Int) = e := by simpa [adv] using h
            exact ⟨by omega, by omega, .inl rfl⟩
  | succ n =>
    have := wd_mem (List.mem_of_getElem? h)
    exact ⟨by omega, by omega, .inr this.2.2⟩
theorem adv_upto {zs : List Int} {f n : Nat} {e : Int} (h : adv zs f n = some e) : upto zs f e = n := by
  cases n with
  | zero => obtain rfl : 80000 - (f : Int) = e := by simpa [adv] using h
            exact upto_none (Int.le_refl _)
  | succ n => exact upto_at h
/-- days in two parts are days at once -/
theorem adv_split {zs : List Int} {f k m : Nat} {e : Int} (hf : f ≤ 80000) (h : adv zs f (k + m) = some e) : ∃ g, adv zs f k = some g ∧ adv zs (80000 - g).toNat m = some e := by
  cases k with
  | zero =>
    refine ⟨80000 - f, rfl, ?_⟩
    rw [show (80000 - (80000 - (f : Int))).toNat = f from by omega]
    simpa using h
  | succ k =>
    rw [show k + 1 + m = (k + m) + 1 from by omega, adv] at h
    have hlt := (List.getElem?_eq_some_iff.1 h).1
    obtain ⟨g, hg⟩ : ∃ g, (wd zs f)[k]? = some g := ⟨_, List.getElem?_eq_getElem (by omega)⟩
    refine ⟨g, hg, ?_⟩
    have hb := wd_mem (List.mem_of_getElem? hg)
    cases m with
    | zero =>
      rw [adv_zero]
      have : g = e := by simpa [hg] using h
      subst this
      congr 1; omega
    | succ m =>
      rw [adv, wd_drop hg, List.getElem?_drop]
      rw [show k + 1 + m = k + (m + 1) from by omega]; exact h
end Go.Proofs.YtjnekdihmchlpaaGreatDoor
/- Chapter 8, what hangs on days alone: Late, the program's and the specification's. -/
namespace Go.Proofs.YtjnekdihmchlpaaGreatDoor
open Go.RowKit
/-- whether today is behind due, both days -/
def lateV (t d : Int) : Bool := dOk t && dOk d && decide (d < t)
theorem lateV_no1 {t d : Int} (h : dOk t = false) : lateV t d = false := by simp [lateV, h]
theorem lateV_no2 {t d : Int} (h : dOk d = false) : lateV t d = false := by simp [lateV, h]
theorem lateV_yes {t d : Int} (h : dOk t = true) (g : dOk d = true) : lateV t d = decide (d < t) := by simp [lateV, h, g]
set_option maxHeartbeats 400000 in
theorem sLate_any (t d : Int) (w : World) :
    Calls Tryz.prog 133 #[.int .i64 t, .int .i64 d] w fun e w' => e = .returned (.bool (lateV t d)) ∧ w' = w := by
  cases h1 : dOk t
  · have HV : Hid _ := lateV_no1 (d := d) h1
    go_enter Tryz.func133, Tryz.ntmps133
    go_wp2_with (go_at_call 64; refine (sDayOk_any _ _).mono ?_; rintro e w' ⟨rfl, rfl⟩)
    go_ret
    exact ⟨one_bool HV.out.symm, rfl⟩
  · cases h2 : dOk d
    · have HV : Hid _ := lateV_no2 (t := t) h2
      go_enter Tryz.func133, Tryz.ntmps133
      go_wp2_with (go_at_call 64; refine (sDayOk_any _ _).mono ?_; rintro e w' ⟨rfl, rfl⟩)
      go_ret
      exact ⟨one_bool HV.out.symm, rfl⟩
    · have HV : Hid _ := lateV_yes h1 h2
      go_enter Tryz.func133, Tryz.ntmps133
      go_wp2_with (go_at_call 64; refine (sDayOk_any _ _).mono ?_; rintro e w' ⟨rfl, rfl⟩)
      go_ret
      exact ⟨one_bool HV.out.symm, rfl⟩
end Go.Proofs.YtjnekdihmchlpaaGreatDoor
/- Chapter 8, the days of the steps: the program's table, the specification's list. -/
namespace Go.Proofs.YtjnekdihmchlpaaGreatDoor
open Go.RowKit
def stepL : List Int := [30, 30, 15, 60, 20]
/-- the days of a step, -1 for another -/
def stepV (x : Int) : Int := if 0 ≤ x ∧ x ≤ 4 then stepL.getD x.toNat 0 else -1
theorem stepV_no {x : Int} (h : x < 0 ∨ 4 < x) : stepV x = -1 := if_neg (by omega)
theorem stepV_yes {k : Nat} (h : k < 5) : stepV (k : Int) = stepL.getD k 0 := by rw [stepV, if_pos (by omega)]; rfl
theorem step_cases (x : Int) : (x < 0 ∨ 4 < x) ∨ ∃ k : Nat, k < 5 ∧ x = (k : Int) := by
  by_cases h : x < 0 ∨ 4 < x
  · exact .inl h
  · exact .inr ⟨x.toNat, by omega, by omega⟩
set_option maxHeartbeats 400000 in
theorem sStep_any (x : Int) (w : World) :
    Calls Tryz.prog 93 #[.int .i64 x] w fun e w' => e = .returned (.int .i64 (stepV x)) ∧ Below w.heap.size w w' := by
  rcases step_cases x with h | ⟨k, hk, rfl⟩
  · have HV : Hid _ := stepV_no h
    have hi : inB x 0 4 = false := inB_neg h
    go_enter Tryz.func93, Tryz.ntmps93
    go_wp2_with (go_at_call 26; refine (in_any _ _ _ _).mono ?_; rintro e w' ⟨rfl, rfl⟩)
    go_ret
    exact ⟨one_int HV.out.symm, Below.refl _ _⟩
  · have hi : inB (k : Int) 0 4 = true := inB_pos (by omega) (by omega)
    have HB : Hid (Below w.heap.size w (w.alloc (.cells #[.int .i64 30, .int .i64 30, .int .i64 15, .int .i64 60, .int .i64 20] 3))) := (Below.refl _ _).alloc (Nat.le_refl _) _
    have hc : (w.alloc (.cells #[.int .i64 30, .int .i64 30, .int .i64 15, .int .i64 60, .int .i64 20] 3)).cell? ⟨w.heap.size, k, none⟩ = some (.int .i64 (stepL.getD k 0)) := by
      rcases (show k = 0 ∨ k = 1 ∨ k = 2 ∨ k = 3 ∨ k = 4 by omega) with rfl | rfl | rfl | rfl | rfl <;> simp [stepL]
    have HL : Hid _ := stepV_yes hk
    obtain ⟨v, hv⟩ : ∃ v, stepL.getD k 0 = v := ⟨_, rfl⟩
    rw [hv] at hc
    have HV : Hid _ := hv
    clear hv
    go_enter Tryz.func93, Tryz.ntmps93
    go_wp2_with (go_at_call 26; refine (in_any _ _ _ _).mono ?_; rintro e w' ⟨rfl, rfl⟩)
    go_ret
    exact ⟨one_int (by rw [HL.out, HV.out]), HB.out⟩
end Go.Proofs.YtjnekdihmchlpaaGreatDoor
/- The contracts of MoneyText. -/
namespace Go.Proofs.YtjnekdihmchlpaaGreatDoor.Mo
open Go.RowKit
theorem ba_extract (l : List UInt8) (a b : Nat) : (⟨l.toArray⟩ : ByteArray).extract a b = ⟨((l.drop a).take (b - a)).toArray⟩ := by
  have h := Lib.extract_data ⟨l.toArray⟩ a b
  rw [ba_list (ByteArray.extract ⟨l.toArray⟩ a b), h]
theorem ba_size (l : List UInt8) : (⟨l.toArray⟩ : ByteArray).size = l.length := by simp [ByteArray.size]
/-- noughts ahead, so that one digit stands ahead of the last d -/
def pad (d : Nat) (s : List UInt8) : List UInt8 := List.replicate (d + 1 - s.length) 48 ++ s
theorem pad_len (d : Nat) (s : List UInt8) : (pad d s).length = max (d + 1) s.length := by simp [pad]; omega
theorem pad_id {d : Nat} {s : List UInt8} (h : d < s.length) : pad d s = s := by
  simp [pad, show d + 1 - s.length = 0 from by omega]
/-- an amount's text: a point ahead of the last d digits -/
def pointed (d : Nat) (s : List UInt8) : List UInt8 := if d = 0 then s else (pad d s).take ((pad d s).length - d) ++ (46 :: (pad d s).drop ((pad d s).length - d))
def mtxt (x : Int) (d : Nat) : List UInt8 := (if x < 0 then [45] else []) ++ pointed d (Lib.decDigits x.natAbs)
theorem repeat_one (n : Nat) : Lib.repeatL [48] n = List.replicate n 48 := by
  induction n with
  | zero => rfl
  | succ n ih => simp [Lib.repeatL, ih, List.replicate_succ]
theorem fin1 (sg p : List UInt8) (n m : Nat) (hm : p.length ≤ m) : (⟨sg.toArray⟩ ++ (⟨p.toArray⟩ : ByteArray).extract 0 n ++ ⟨#[46]⟩ ++ (⟨p.toArray⟩ : ByteArray).extract n m) = ⟨(sg ++ (p.take n ++ (46 :: p.drop n))).toArray⟩ := by
  rw [ba_extract, ba_extract, ba_append, show (⟨#[46]⟩ : ByteArray) = ⟨[46].toArray⟩ from rfl, ba_append, ba_append]
  simp only [List.drop_zero, Nat.sub_zero, List.append_assoc, List.singleton_append]
  rw [List.take_of_length_le (i := m - n) (l := List.drop n p) (by simp; omega)]
theorem fin2 (p : List UInt8) (n m : Nat) (hm : p.length ≤ m) : ((⟨p.toArray⟩ : ByteArray).extract 0 n ++ ⟨#[46]⟩ ++ (⟨p.toArray⟩ : ByteArray).extract n m) = ⟨(p.take n ++ (46 :: p.drop n)).toArray⟩ := by
  rw [ba_extract, ba_extract, show (⟨#[46]⟩ : ByteArray) = ⟨[46].toArray⟩ from rfl, ba_append, ba_append]
  simp only [List.drop_zero, Nat.sub_zero, List.append_assoc, List.singleton_append]
  rw [List.take_of_length_le (i := m - n) (l := List.drop n p) (by simp; omega)]
theorem pointed_pos {d : Nat} {s : List UInt8} (h : ¬ d = 0) : pointed d s = (pad d s).take ((pad d s).length - d) ++ (46 :: (pad d s).drop ((pad d s).length - d)) := by rw [pointed, if_neg h]
set_option maxHeartbeats 2000000 in
theorem text_any (x : Int) (d : Nat) (w : World) (x1 : -1000000000000 ≤ x) (x2 : x ≤ 1000000000000) (hd : d ≤ 3) (htab : Lib.TabIs Tryz.prog w "internal/strconv.uint64pow10" .u64 Lib.pow10Tab) :
    Calls Tryz.prog 58 #[.int .i64 x, .int .i64 d] w fun e w' => e = .returned (.string ⟨(mtxt x d).toArray⟩) ∧ Below w.heap.size w w' := by
  have hs : (Lib.decDigits x.natAbs).length ≤ 21 := dec_len _ (by omega)
  obtain ⟨s, hsd⟩ : ∃ s, Lib.decDigits x.natAbs = s := ⟨_, rfl⟩
  rw [hsd] at hs
  by_cases hx : x < 0
  · have HI : Hid (Lib.itoa (-x) = s) := by rw [Hid, ← hsd, Lib.itoa, if_neg (by omega), show (-x).toNat = x.natAbs from by omega]
    have HM : Hid (mtxt x d = [45] ++ pointed d s) := by rw [Hid, mtxt, if_pos hx, hsd]
    clear hsd
    by_cases h0 : d = 0
    · subst h0
      go_enter Tryz.func58, Tryz.ntmps58
      go_wp2_with fail
      refine (Tryz.strconv_FormatInt_10 _ (by omega) (by omega) _ htab).mono ?_
      rintro e w1 ⟨rfl, k, os, rfl⟩
      rw [HI.out]
      go_wp2
      go_ret
      refine ⟨one_str ?_, Lib.below_grow _ _ (Nat.le_refl _) _ _⟩
      rw [HM.out]
      exact ba_append [45] s
    · have h0' : ((d : Int) == 0) = false := by simp; omega
      rw [pointed_pos h0] at HM
      by_cases hl : s.length ≤ d
      · have hr : (List.replicate (d + 1 - s.length) (48 : UInt8)).length = d + 1 - s.length := by simp
        have hp : List.replicate (d + 1 - s.length) (48 : UInt8) ++ s = pad d s := rfl
        go_enter Tryz.func58, Tryz.ntmps58
        go_wp2_with fail
        refine (Tryz.strconv_FormatInt_10 _ (by omega) (by omega) _ htab).mono ?_
        rintro e w1 ⟨rfl, k, os, rfl⟩
        rw [HI.out]
        go_wp2_with fail
        rw [show ((d : Int) + 1 - (s.length : Int)) = ((d + 1 - s.length : Nat) : Int) from by omega]
        refine (Tryz.strings_Repeat ⟨#[48]⟩ (d + 1 - s.length) _ (by omega) (by simp [ByteArray.size]; omega)).mono ?_
        rintro e w2 ⟨rfl, b2⟩
        rw [show Lib.repeatL (⟨#[48]⟩ : ByteArray).data.toList (d + 1 - s.length) = List.replicate (d + 1 - s.length) 48 from repeat_one _]
        generalize List.replicate (d + 1 - s.length) (48 : UInt8) = r at hr hp
        have HP : Hid _ := hp
        clear hp
        go_wp2
        go_quiet (fail)
        go_wp2
        go_ret
        refine ⟨one_str ?_, below_drewN (next (Lib.below_grow _ _ (Nat.le_refl _) _ _) b2) _⟩
        have hlen : (r ++ s).length = d + 1 - s.length + s.length := by simp [hr]
        rw [HM.out, ← HP.out, hlen, ba_append r s]
        exact fin1 [45] (r ++ s) _ _ (by rw [hlen]; exact Nat.le_refl _)
      · rw [pad_id (by omega)] at HM
        go_enter Tryz.func58, Tryz.ntmps58
        go_wp2_with fail
        refine (Tryz.strconv_FormatInt_10 _ (by omega) (by omega) _ htab).mono ?_
        rintro e w1 ⟨rfl, k, os, rfl⟩
        rw [HI.out]
        go_wp2
        go_quiet (fail)
        go_wp2
        go_ret
        refine ⟨one_str ?_, below_drewN (Lib.below_grow _ _ (Nat.le_refl _) _ _) _⟩
        rw [HM.out]
        exact fin1 [45] s _ _ (Nat.le_refl _)
  · have HI : Hid (Lib.itoa x = s) := by rw [Hid, ← hsd, Lib.itoa, if_neg hx, show x.toNat = x.natAbs from by omega]
    have HM : Hid (mtxt x d = pointed d s) := by rw [Hid, mtxt, if_neg hx, hsd]; rfl
    clear hsd
    by_cases h0 : d = 0
    · subst h0
      go_enter Tryz.func58, Tryz.ntmps58
      go_wp2_with fail
      refine (Tryz.strconv_FormatInt_10 _ (by omega) (by omega) _ htab).mono ?_
      rintro e w1 ⟨rfl, k, os, rfl⟩
      rw [HI.out]
      go_wp2
      go_ret
      refine ⟨one_str ?_, Lib.below_grow _ _ (Nat.le_refl _) _ _⟩
      rw [HM.out]
      rfl
    · have h0' : ((d : Int) == 0) = false := by simp; omega
      rw [pointed_pos h0] at HM
      by_cases hl : s.length ≤ d
      · have hr : (List.replicate (d + 1 - s.length) (48 : UInt8)).length = d + 1 - s.length := by simp
        have hp : List.replicate (d + 1 - s.length) (48 : UInt8) ++ s = pad d s := rfl
        go_enter Tryz.func58, Tryz.ntmps58
        go_wp2_with fail
        refine (Tryz.strconv_FormatInt_10 _ (by omega) (by omega) _ htab).mono ?_
        rintro e w1 ⟨rfl, k, os, rfl⟩
        rw [HI.out]
        go_wp2_with fail
        rw [show ((d : Int) + 1 - (s.length : Int)) = ((d + 1 - s.length : Nat) : Int) from by omega]
        refine (Tryz.strings_Repeat ⟨#[48]⟩ (d + 1 - s.length) _ (by omega) (by simp [ByteArray.size]; omega)).mono ?_
        rintro e w2 ⟨rfl, b2⟩
        rw [show Lib.repeatL (⟨#[48]⟩ : ByteArray).data.toList (d + 1 - s.length) = List.replicate (d + 1 - s.length) 48 from repeat_one _]
        generalize List.replicate (d + 1 - s.length) (48 : UInt8) = r at hr hp
        have HP : Hid _ := hp
        clear hp
        go_wp2
        go_quiet (fail)
        go_wp2
        go_ret
        refine ⟨one_str ?_, below_drewN (next (Lib.below_grow _ _ (Nat.le_refl _) _ _) b2) _⟩
        have hlen : (r ++ s).length = d + 1 - s.length + s.length := by simp [hr]
        rw [HM.out, ← HP.out, hlen, ba_append r s]
        exact fin1 [] (r ++ s) _ _ (by rw [hlen]; exact Nat.le_refl _)
      · rw [pad_id (by omega)] at HM
        go_enter Tryz.func58, Tryz.ntmps58
        go_wp2_with fail
        refine (Tryz.strconv_FormatInt_10 _ (by omega) (by omega) _ htab).mono ?_
        rintro e w1 ⟨rfl, k, os, rfl⟩
        rw [HI.out]
        go_wp2
        go_quiet (fail)
        go_wp2
        go_ret
        refine ⟨one_str ?_, below_drewN (Lib.below_grow _ _ (Nat.le_refl _) _ _) _⟩
        rw [HM.out]
        first | exact fin2 s _ _ (Nat.le_refl _) | exact fin1 [] s _ _ (Nat.le_refl _)
end Go.Proofs.YtjnekdihmchlpaaGreatDoor.Mo
/- The contracts of MoneyText, the program's and the specification's. -/
namespace Go.Proofs.YtjnekdihmchlpaaGreatDoor.Mo
open Go.RowKit
def Pow10 (w : World) : Prop := Lib.TabIs Tryz.prog w "internal/strconv.uint64pow10" .u64 Lib.pow10Tab
theorem Pow10.below {w w' : World} (h : Pow10 w) (hb : Below w.heap.size w w') : Pow10 w' := Lib.tabBelow_of_tabIs h w' hb
def textOk (x cur : Int) : Bool := mOk x && decide (0 ≤ digs cur)
def moneyT (x cur : Int) : List UInt8 := if textOk x cur then mtxt x (digs cur).toNat else []
theorem moneyT_no1 {x cur : Int} (h : mOk x = false) : moneyT x cur = [] := by simp [moneyT, textOk, h]
theorem moneyT_no2 {x cur : Int} (h : digs cur < 0) : moneyT x cur = [] := by simp [moneyT, textOk]; omega
theorem moneyT_yes {x cur : Int} {d : Nat} (h : mOk x = true) (hd : digs cur = d) : moneyT x cur = mtxt x d := by simp [moneyT, textOk, h, hd]
theorem dec_pos (a : Nat) : 1 ≤ (Lib.decDigits a).length := by
  rw [Lib.decDigits]
  split <;> simp
def strLen : Value → Nat
  | .string b => b.size
  | _ => 0
theorem strLen_list (l : List UInt8) : strLen (.string ⟨l.toArray⟩) = l.length := by simp [strLen, ByteArray.size]
set_option maxHeartbeats 800000 in
theorem iMoneyText_any (x cur : Int) (w : World) (hw : (Lit.int .i64 cur).wf = true) (ht : Pow10 w) :
    Calls Tryz.prog 23 #[.int .i64 x, .int .i64 cur] w fun e w' => e = .returned (.string ⟨(moneyT x cur).toArray⟩) ∧ Below w.heap.size w w' := by
  have HT : Hid _ := ht
  clear ht
  have hb := digs_bd cur
  by_cases h1 : digs cur < 0
  · have HM : Hid _ := moneyT_no2 (x := x) h1
    go_enter Tryz.func23, Tryz.ntmps23
    go_wp2_with (first | (go_at_call 51; refine (iDigits_any _ _ hw).mono ?_; rintro e w1 ⟨rfl, b1⟩) | (go_at_call 57; refine (iMoneyOk_any _ _).mono ?_; rintro e w2 ⟨rfl, hw2⟩; subst hw2))
    all_goals go_ret
    all_goals exact ⟨one_str (by rw [HM.out]), b1⟩
  · obtain ⟨d, hd⟩ := Int.eq_ofNat_of_zero_le (show 0 ≤ digs cur by omega)
    cases h2 : mOk x
    · have HM : Hid _ := moneyT_no1 (cur := cur) h2
      clear hd
      go_enter Tryz.func23, Tryz.ntmps23
      go_wp2_with (first | (go_at_call 51; refine (iDigits_any _ _ hw).mono ?_; rintro e w1 ⟨rfl, b1⟩) | (go_at_call 57; refine (iMoneyOk_any _ _).mono ?_; rintro e w2 ⟨rfl, hw2⟩; subst hw2))
      go_ret
      exact ⟨one_str (by rw [HM.out]), b1⟩
    · have HM : Hid _ := moneyT_yes h2 hd
      have d1 := mOk_bd h2
      have hd3 : d ≤ 3 := by omega
      clear h1 hb
      go_enter Tryz.func23, Tryz.ntmps23
      go_wp2_with fail
      refine (iDigits_any _ _ hw).mono ?_
      rintro e w1 ⟨rfl, b1⟩
      rw [hd]
      clear hd
      have ht1 := Pow10.below HT.out b1
      go_wp2_with fail
      refine (iMoneyOk_any _ _).mono ?_
      rintro e w2 ⟨rfl, hw2⟩
      subst hw2
      go_wp2_with fail
      refine (text_any _ _ _ d1.1 d1.2 hd3 ht1).mono ?_
      rintro e w3 ⟨rfl, b3⟩
      go_wp2
      go_ret
      exact ⟨one_str (by rw [HM.out]), next b1 b3⟩
set_option maxHeartbeats 1000000 in
theorem sMoneyText_any (x cur : Int) (w : World) :
    Calls Tryz.prog 30 #[.int .i64 x, .int .i64 cur] w fun e w' => e = .returned (.string ⟨(moneyT x cur).toArray⟩) ∧ Below w.heap.size w w' := by
  have hb := digs_bd cur
  by_cases h1 : digs cur < 0
  · have HM : Hid _ := moneyT_no2 (x := x) h1
    go_enter Tryz.func30, Tryz.ntmps30
    go_wp2_with (first | (go_at_call 62; refine (sDigits_any _ _).mono ?_; rintro e w1 ⟨rfl, b1⟩) | (go_at_call 66; refine (sMoneyOk_any _ _).mono ?_; rintro e w2 ⟨rfl, hw2⟩; subst hw2))
    all_goals go_ret
    all_goals exact ⟨one_str (by rw [HM.out]), b1⟩
  · obtain ⟨d, hd⟩ := Int.eq_ofNat_of_zero_le (show 0 ≤ digs cur by omega)
    cases h2 : mOk x
    · have HM : Hid _ := moneyT_no1 (cur := cur) h2
      clear hd
      go_enter Tryz.func30, Tryz.ntmps30
      go_wp2_with (first | (go_at_call 62; refine (sDigits_any _ _).mono ?_; rintro e w1 ⟨rfl, b1⟩) | (go_at_call 66; refine (sMoneyOk_any _ _).mono ?_; rintro e w2 ⟨rfl, hw2⟩; subst hw2))
      go_ret
      exact ⟨one_str (by rw [HM.out]), b1⟩
    · have HM : Hid _ := moneyT_yes h2 hd
      have d1 := mOk_bd h2
      have hd3 : d ≤ 3 := by omega
      clear h1 hb
      by_cases hx : x < 0
      · go_enter Tryz.func30, Tryz.ntmps30
        go_wp2_with fail
        refine (sDigits_any _ _).mono ?_
        rintro e w1 ⟨rfl, b1⟩
        rw [hd]
        clear hd
        go_wp2_with fail
        refine (sMoneyOk_any _ _).mono ?_
        rintro e w2 ⟨rfl, hw2⟩
        subst hw2
        go_wp2_with fail
        rw [show -x = ((x.natAbs : Nat) : Int) from by omega]
        refine (dec_up _ _ (by omega)).mono ?_
        rintro e w2 ⟨rfl, hw2⟩
        subst hw2
        have hl := dec_len x.natAbs (by omega)
        have hl1 := dec_pos x.natAbs
        have HS : Hid (mtxt x d = [45] ++ pointed d (Lib.decDigits x.natAbs)) := by rw [Hid, mtxt, if_pos hx]
        generalize Lib.decDigits x.natAbs = s at hl hl1 HS
        go_wp2
        go_loop [7] (fun v => ∃ k : Nat, k ≤ d + 1 - s.length ∧ v = .string ⟨(List.replicate k 48 ++ s).toArray⟩) (fun v => d + 1 - strLen v)
        case atStart => exact ⟨0, Nat.zero_le _, rfl⟩
        case round =>
          obtain ⟨k, hk, rfl⟩ := hrel
          have hsz : (List.replicate k (48 : UInt8) ++ s).length = k + s.length := by simp
          have HS2 : Hid ((⟨#[48]⟩ : ByteArray) ++ ⟨(List.replicate k 48 ++ s).toArray⟩ = ⟨(List.replicate (k + 1) 48 ++ s).toArray⟩) := ba_append [48] (List.replicate k 48 ++ s)
          have HS3 : Hid (strLen (.string ((⟨#[48]⟩ : ByteArray) ++ ⟨(List.replicate k 48 ++ s).toArray⟩)) = k + 1 + s.length) := by rw [Hid, HS2.out, strLen_list]; simp
          have HS4 : Hid (strLen (.string ⟨(List.replicate k 48 ++ s).toArray⟩) = k + s.length) := by rw [Hid, strLen_list, hsz]
          have HK : Hid (k = d + 1 - s.length → List.replicate k 48 ++ s = pad d s) := fun e => by rw [e]; rfl
          generalize List.replicate k (48 : UInt8) ++ s = p at hsz HS2 HS3 HS4 HK
          have hpl : p.length ≤ 25 := by omega
          have HSZ : Hid (p.length = k + s.length) := hsz
          by_cases hlt : p.length ≤ d
          · have hlt' : (p.length : Int) ≤ (d : Int) := by omega
            have hkd : k + 1 ≤ d + 1 - s.length := by omega
            have hme : d + 1 - (k + 1 + s.length) < d + 1 - (k + s.length) := by omega
            clear hsz
            go_wp2
            go_round
            case rel => exact ⟨k + 1, hkd, by rw [HS2.out]⟩
            case measure => rw [HS3.out, HS4.out]; exact hme
          · have hlt' : (d : Int) < (p.length : Int) := by omega
            have hp : p = pad d s := HK.out (by omega)
            have hdp : d < p.length := by omega
            clear hsz HK HS2 HS3 HS4 hk
            by_cases h0 : d = 0
            · subst h0
              have HP : Hid (p = s) := by rw [Hid, hp, pad_id (by omega)]
              clear hp
              have hpne : (p == []) = false := by cases p with | nil => simp at hdp | cons a l => rfl
              have hpne' : ¬ p = [] := by simpa using hpne
              go_wp2
              go_ret
              refine ⟨one_str ?_, b1⟩
              rw [HM.out, HS.out, HP.out]
              exact ba_append [45] s
            · have h0' : ((d : Int) == 0) = false := by simp; omega
              rw [pointed_pos h0, ← hp] at HS
              clear hp
              go_wp2
              go_quiet (fail)
              go_wp2
              go_ret
              refine ⟨one_str ?_, below_drewN b1 _⟩
              rw [HM.out, HS.out]
              exact fin1 [45] p _ _ (Nat.le_refl _)
      · go_enter Tryz.func30, Tryz.ntmps30
        go_wp2_with fail
        refine (sDigits_any _ _).mono ?_
        rintro e w1 ⟨rfl, b1⟩
        rw [hd]
        clear hd
        go_wp2_with fail
        refine (sMoneyOk_any _ _).mono ?_
        rintro e w2 ⟨rfl, hw2⟩
        subst hw2
        go_wp2_with fail
        rw [show x = ((x.natAbs : Nat) : Int) from by omega]
        refine (dec_up _ _ (by omega)).mono ?_
        rintro e w2 ⟨rfl, hw2⟩
        subst hw2
        have hl := dec_len x.natAbs (by omega)
        have hl1 := dec_pos x.natAbs
        have HS : Hid (mtxt x d = [] ++ pointed d (Lib.decDigits x.natAbs)) := by rw [Hid, mtxt, if_neg (by omega)]
        generalize Lib.decDigits x.natAbs = s at hl hl1 HS
        go_wp2
        go_loop [7] (fun v => ∃ k : Nat, k ≤ d + 1 - s.length ∧ v = .string ⟨(List.replicate k 48 ++ s).toArray⟩) (fun v => d + 1 - strLen v)
        case atStart => exact ⟨0, Nat.zero_le _, rfl⟩
        case round =>
          obtain ⟨k, hk, rfl⟩ := hrel
          have hsz : (List.replicate k (48 : UInt8) ++ s).length = k + s.length := by simp
          have HS2 : Hid ((⟨#[48]⟩ : ByteArray) ++ ⟨(List.replicate k 48 ++ s).toArray⟩ = ⟨(List.replicate (k + 1) 48 ++ s).toArray⟩) := ba_append [48] (List.replicate k 48 ++ s)
          have HS3 : Hid (strLen (.string ((⟨#[48]⟩ : ByteArray) ++ ⟨(List.replicate k 48 ++ s).toArray⟩)) = k + 1 + s.length) := by rw [Hid, HS2.out, strLen_list]; simp
          have HS4 : Hid (strLen (.string ⟨(List.replicate k 48 ++ s).toArray⟩) = k + s.length) := by rw [Hid, strLen_list, hsz]
          have HK : Hid (k = d + 1 - s.length → List.replicate k 48 ++ s = pad d s) := fun e => by rw [e]; rfl
          generalize List.replicate k (48 : UInt8) ++ s = p at hsz HS2 HS3 HS4 HK
          have hpl : p.length ≤ 25 := by omega
          have HSZ : Hid (p.length = k + s.length) := hsz
          by_cases hlt : p.length ≤ d
          · have hlt' : (p.length : Int) ≤ (d : Int) := by omega
            have hkd : k + 1 ≤ d + 1 - s.length := by omega
            have hme : d + 1 - (k + 1 + s.length) < d + 1 - (k + s.length) := by omega
            clear hsz
            go_wp2
            go_round
            case rel => exact ⟨k + 1, hkd, by rw [HS2.out]⟩
            case measure => rw [HS3.out, HS4.out]; exact hme
          · have hlt' : (d : Int) < (p.length : Int) := by omega
            have hp : p = pad d s := HK.out (by omega)
            have hdp : d < p.length := by omega
            clear hsz HK HS2 HS3 HS4 hk
            by_cases h0 : d = 0
            · subst h0
              have HP : Hid (p = s) := by rw [Hid, hp, pad_id (by omega)]
              clear hp
              have hpne : (p == []) = false := by cases p with | nil => simp at hdp | cons a l => rfl
              have hpne' : ¬ p = [] := by simpa using hpne
              go_wp2
              go_ret
              refine ⟨one_str ?_, b1⟩
              rw [HM.out, HS.out, HP.out]
              exact ba_append [] s
            · have h0' : ((d : Int) == 0) = false := by simp; omega
              rw [pointed_pos h0, ← hp] at HS
              clear hp
              go_wp2
              go_quiet (fail)
              go_wp2
              go_ret
              refine ⟨one_str ?_, below_drewN b1 _⟩
              rw [HM.out, HS.out]
              exact fin1 [] p _ _ (Nat.le_refl _)
end Go.Proofs.YtjnekdihmchlpaaGreatDoor.Mo
/- How long the text of an amount is. -/
namespace Go.Proofs.YtjnekdihmchlpaaGreatDoor.Mo
open Go.RowKit
theorem mtxt_le (x : Int) (d : Nat) (h1 : -1000000000000 ≤ x) (h2 : x ≤ 1000000000000) (hd : d ≤ 3) : (mtxt x d).length ≤ 30 := by
  have hs : (Lib.decDigits x.natAbs).length ≤ 21 := dec_len _ (by omega)
  have hp := pad_len d (Lib.decDigits x.natAbs)
  have hq : (pointed d (Lib.decDigits x.natAbs)).length ≤ 23 := by
    by_cases h0 : d = 0
    · rw [pointed, if_pos h0]; omega
    · rw [pointed_pos h0]
      simp only [List.length_append, List.length_cons, List.length_take, List.length_drop]
      omega
  unfold mtxt
  split
  · simp only [List.length_append, List.length_cons, List.length_nil]; omega
  · rw [List.nil_append]; omega
theorem moneyT_le {x cur : Int} : (moneyT x cur).length ≤ 30 := by
  unfold moneyT
  split
  · rename_i h
    simp only [textOk, Bool.and_eq_true, decide_eq_true_eq] at h
    have hb := mOk_bd h.1
    have := digs_bd cur
    exact mtxt_le _ _ hb.1 hb.2 (by omega)
  · simp
end Go.Proofs.YtjnekdihmchlpaaGreatDoor.Mo
/- The contracts of TagsOk, the program's and the specification's. -/
namespace Go.Proofs.YtjnekdihmchlpaaGreatDoor.Tg
open Go.RowKit
theorem tagOne_no1 {n : Int} {d : List UInt8} (h : ¬ (1 ≤ n ∧ n ≤ 9999)) : tagOne n d = false := by unfold tagOne; rw [decide_eq_false h, Bool.false_and]
theorem tagOne_no2 {n : Int} {d : List UInt8} (h : ¬ d.length ≤ 200) : tagOne n d = false := by unfold tagOne; rw [decide_eq_false h, Bool.false_and, Bool.and_false]
theorem tagOne_at {n : Int} {d : List UInt8} (h : 1 ≤ n ∧ n ≤ 9999) (g : d.length ≤ 200) : tagOne n d = within 32 126 d := by unfold tagOne; rw [decide_eq_true h, decide_eq_true g, Bool.true_and, Bool.true_and]
theorem iPlain_is {l : List UInt8} {q : Bool} (hq : within 32 126 l = q) (w : World) (hl : l.length ≤ 1099511627776) :
    Calls Tryz.prog 138 #[.string ⟨l.toArray⟩] w fun e w' => e = .returned (.bool q) ∧ w' = w := by
  rw [← hq]; exact iPlain_any l w hl
theorem sPlain_is {l : List UInt8} {q : Bool} (hq : within 32 126 l = q) (w : World) (hl : l.length ≤ 1099511627776) :
    Calls Tryz.prog 111 #[.string ⟨l.toArray⟩] w fun e w' => e = .returned (.bool q) ∧ w' = w := by
  rw [← hq]; exact sPlain_any l w hl
theorem in_is {x a b : Int} {q : Bool} (hq : inB x a b = q) (w : World) :
    Calls Tryz.prog 26 #[.int .i64 x, .int .i64 a, .int .i64 b] w fun e w' => e = .returned (.bool q) ∧ w' = w := by
  rw [← hq]; exact in_any x a b w
set_option maxHeartbeats 1600000 in
theorem tagOk_any (n : Int) (d : List UInt8) (w : World) (hl : d.length ≤ 1099511627776) :
    Calls Tryz.prog 102 #[.agg #[.int .i64 n, .string ⟨d.toArray⟩]] w fun e w' => e = .returned (.bool (tagOne n d)) ∧ Below w.heap.size w w' := by
  by_cases h1 : 0 < n
  · have g1 : decide (0 < n) = true := decide_eq_true h1
    by_cases h2 : n < 10000
    · have g2 : decide (n < 10000) = true := decide_eq_true h2
      by_cases h3 : d.length ≤ 200
      · have g3 : decide (d.length ≤ 200) = true := decide_eq_true h3
        have g4 : decide ((d.length : Int) ≤ 200) = true := decide_eq_true (by omega)
        have HE : Hid (tagOne n d = within 32 126 d) := tagOne_at (by omega) h3
        obtain ⟨q, hq⟩ : ∃ q, within 32 126 d = q := ⟨_, rfl⟩
        rw [hq] at HE
        have HQ : Hid _ := hq
        clear hq
        go_enter Tryz.func102, Tryz.ntmps102
        go_wp2
        go_quiet (first | exact Calls.quiet_of_same (tenTo_any 4 _ (by omega)) | exact Calls.quiet_of_same (iPlain_is HQ.out _ hl))
        go_wp2
        go_ret
        exact ⟨one_bool HE.out.symm, below_drewN (by go_grown) _⟩
      · have g3 : decide (d.length ≤ 200) = false := decide_eq_false h3
        have g4 : decide ((d.length : Int) ≤ 200) = false := decide_eq_false (by omega)
        have HE : Hid (tagOne n d = false) := tagOne_no2 h3
        go_enter Tryz.func102, Tryz.ntmps102
        go_wp2
        go_quiet (first | exact Calls.quiet_of_same (tenTo_any 4 _ (by omega)) | exact Calls.quiet_of_same (iPlain_any d _ hl))
        go_wp2
        go_ret
        exact ⟨one_bool HE.out.symm, below_drewN (by go_grown) _⟩
    · have g2 : decide (n < 10000) = false := decide_eq_false h2
      have HE : Hid (tagOne n d = false) := tagOne_no1 (by omega)
      go_enter Tryz.func102, Tryz.ntmps102
      go_wp2
      go_quiet (first | exact Calls.quiet_of_same (tenTo_any 4 _ (by omega)) | exact Calls.quiet_of_same (iPlain_any d _ hl))
      go_wp2
      go_ret
      exact ⟨one_bool HE.out.symm, below_drewN (by go_grown) _⟩
  · have g1 : decide (0 < n) = false := decide_eq_false h1
    have HE : Hid (tagOne n d = false) := tagOne_no1 (by omega)
    go_enter Tryz.func102, Tryz.ntmps102
    go_wp2
    go_quiet (first | exact Calls.quiet_of_same (tenTo_any 4 _ (by omega)) | exact Calls.quiet_of_same (iPlain_any d _ hl))
    go_wp2
    go_ret
    exact ⟨one_bool HE.out.symm, below_drewN (by go_grown) _⟩
theorem tagOk_is {n : Int} {d : List UInt8} {q : Bool} (hq : tagOne n d = q) (w : World) (hl : d.length ≤ 1099511627776) :
    Calls Tryz.prog 102 #[.agg #[.int .i64 n, .string ⟨d.toArray⟩]] w fun e w' => e = .returned (.bool q) ∧ Below w.heap.size w w' := by
  rw [← hq]; exact tagOk_any n d w hl
set_option maxHeartbeats 1600000 in
theorem iTagsOk_any (ao : Option Addr) (cap : Nat) (fs : List Fld) (w : World) (hz : FldsAt w ao fs) (hn : fs.length ≤ 4194304) (hd : ∀ f ∈ fs, f.2.length ≤ 1099511627776) :
    Calls Tryz.prog 54 #[.slice ao fs.length cap] w fun e w' => e = .returned (.bool (tagsOk fs)) ∧ Below w.heap.size w w' := by
  by_cases hbig : 60 < fs.length
  · have hb1 : (60 : Int) < (fs.length : Int) := by omega
    have HE : Hid (tagsOk fs = false) := tagsOk_big (by omega)
    go_enter Tryz.func54, Tryz.ntmps54
    go_wp2
    go_ret
    exact ⟨one_bool HE.out.symm, Below.refl _ _⟩
  · have hb1 : ¬ (60 : Int) < (fs.length : Int) := by omega
    have HM : Hid (tagsOk fs = okT 0 fs) := tagsOk_fs (by omega)
    rcases hz with rfl | ⟨b, off, rfl, hb, hcell⟩
    · go_enter Tryz.func54, Tryz.ntmps54
      go_wp2
      refine wp_loop_rounds 1 ?_
      rw [rounds_succ]
      go_wp2
      go_ret
      exact ⟨one_bool HM.out.symm, Below.refl _ _⟩
    · have HC : Hid (∀ i, i < fs.length → w.cell? ⟨b, off + i * 2, none⟩ = some (.int .i64 (at0 fs i).1) ∧ w.cell? ⟨b, off + i * 2 + 1, none⟩ = some (.string ⟨(at0 fs i).2.toArray⟩)) := hcell
      clear hcell
      go_enter Tryz.func54, Tryz.ntmps54
      go_wp2
      go_loopw [10] (fun i wr => ∃ k : Nat, k ≤ fs.length ∧ i = .int .i64 k ∧ okT 0 fs = okT (prevT fs k) (fs.drop k) ∧ Below w.heap.size w wr) (fun i _ => fs.length - (intOf i).toNat)
      case atStart => exact ⟨0, Nat.zero_le _, rfl, rfl, Below.refl _ _⟩
      case round =>
        obtain ⟨k, hk, rfl, hok, hbr⟩ := hrel
        have hsz := hbr.size
        by_cases hlt : k < fs.length
        · have c1 : wr.cell? ⟨b, off + k * 2, none⟩ = some (.int .i64 (at0 fs k).1) := (hbr.cell (p := ⟨b, off + k * 2, none⟩) hb).trans (HC.out k hlt).1
          have c2 : wr.cell? ⟨b, off + k * 2 + 1, none⟩ = some (.string ⟨(at0 fs k).2.toArray⟩) := (hbr.cell (p := ⟨b, off + k * 2 + 1, none⟩) hb).trans (HC.out k hlt).2
          have hki : (k : Int) < (fs.length : Int) := by omega
          have hst := okT_step fs k (prevT fs k) hlt
          have hl := hd _ (at0_mem hlt)
          have HPV : Hid (prevT fs (k + 1) = (at0 fs k).1) := rfl
          obtain ⟨⟨n, s⟩, hf⟩ : ∃ f, at0 fs k = f := ⟨_, rfl⟩
          rw [hf] at c1 c2 hst hl HPV
          simp only at c1 c2 hst hl HPV
          clear hf
          have hne := over_ne (wr.alloc (.cells #[.int .i64 n, .string ⟨s.toArray⟩] 55))
          have g1 := over_cell (W := wr.alloc (.cells #[.int .i64 n, .string ⟨s.toArray⟩] 55)) (a := ⟨wr.heap.size, 0, none⟩) (v := .int .i64 n) (by simp)
          have g2 := over_cell (W := wr.alloc (.cells #[.int .i64 n, .string ⟨s.toArray⟩] 55)) (a := ⟨wr.heap.size, 1, none⟩) (v := .string ⟨s.toArray⟩) (by simp)
          cases hq : tagOne n s
          · have HN : Hid (tagsOk fs = false) := by rw [Hid, HM.out, hok, hst, hq]; rfl
            have HQ : Hid _ := hq
            clear hq hst hok
            go_wp2
            refine wp_region_over (by kernel_rfl) (by kernel_rfl) ?_
            repeat (go_big_quiet_step (exact over_of (tagOk_is HQ.out _ hl)))
            refine wpQuiet_nil ?_
            rintro _ ⟨⟨w2, b2⟩, hw2⟩
            subst hw2
            go_wp2
            go_ret
            exact ⟨one_bool HN.out.symm, (hbr.alloc hsz _).trans (b2.mono (by simp; omega))⟩
          · have HQ : Hid _ := hq
            rw [hq, Bool.true_and] at hst
            clear hq
            by_cases hk0' : k = 0
            · have hkz : decide (0 < k) = false := by simp [hk0']
              have hn1 : 0 < n := by have := (tagOne_parts HQ.out).1; omega
              have HN : Hid (okT 0 fs = okT (prevT fs (k + 1)) (fs.drop (k + 1))) := by
                rw [Hid, hok, hst, HPV.out, show prevT fs k = 0 from by rw [hk0']; rfl, decide_eq_true hn1, Bool.true_and]
              clear hst hok hk0' hn1
              go_wp2
              refine wp_region_over (by kernel_rfl) (by kernel_rfl) ?_
              repeat (go_big_quiet_step (exact over_of (tagOk_is HQ.out _ hl)))
              refine wpQuiet_nil ?_
              rintro _ ⟨⟨w2, b2⟩, hw2⟩
              subst hw2
              go_wp2
              go_roundw
              case rel => exact ⟨k + 1, by omega, by go_num, HN.out, (hbr.alloc hsz _).trans (b2.mono (by simp; omega))⟩
              case measure => simp [intOf]; omega
            · obtain ⟨j, rfl⟩ : ∃ j, k = j + 1 := ⟨k - 1, by omega⟩
              have hkz : decide (0 < j + 1) = true := by simp
              have c3 : wr.cell? ⟨b, off + j * 2, none⟩ = some (.int .i64 (at0 fs j).1) := (hbr.cell (p := ⟨b, off + j * 2, none⟩) hb).trans (HC.out j (by omega)).1
              have hjn : (j : Int) < (fs.length : Int) := by omega
              have hpv : prevT fs (j + 1) = (at0 fs j).1 := rfl
              obtain ⟨p, hp⟩ : ∃ p, (at0 fs j).1 = p := ⟨_, rfl⟩
              rw [hp] at c3 hpv
              have g4 := over_cell (W := wr.alloc (.cells #[.int .i64 n, .string ⟨s.toArray⟩] 55)) (a := ⟨b, off + j * 2, none⟩) (v := .int .i64 p) (by rw [World.cell?_alloc_lt _ _ _ (Nat.lt_of_lt_of_le hb hbr.size)]; exact c3)
              by_cases hpn : n ≤ p
              · have hdn : decide (n ≤ p) = true := by simpa using hpn
                have HN : Hid (tagsOk fs = false) := by rw [Hid, HM.out, hok, hst, hpv, decide_eq_false (by omega)]; rfl
                clear hst hok hp hpv hpn
                go_wp2
                refine wp_region_over (by kernel_rfl) (by kernel_rfl) ?_
                repeat (go_big_quiet_step (exact over_of (tagOk_is HQ.out _ hl)))
                refine wpQuiet_nil ?_
                rintro _ ⟨⟨w2, b2⟩, hw2⟩
                subst hw2
                go_wp2
                go_ret
                exact ⟨one_bool HN.out.symm, (hbr.alloc hsz _).trans (b2.mono (by simp; omega))⟩
              · have hdn : decide (n ≤ p) = false := by simpa using hpn
                have HN : Hid (okT 0 fs = okT (prevT fs (j + 1 + 1)) (fs.drop (j + 1 + 1))) := by
                  rw [Hid, hok, hst, HPV.out, hpv, decide_eq_true (by omega), Bool.true_and]
                clear hst hok hp hpv hpn
                go_wp2
                refine wp_region_over (by kernel_rfl) (by kernel_rfl) ?_
                repeat (go_big_quiet_step (exact over_of (tagOk_is HQ.out _ hl)))
                refine wpQuiet_nil ?_
                rintro _ ⟨⟨w2, b2⟩, hw2⟩
                subst hw2
                go_wp2
                go_roundw
                case rel => exact ⟨j + 1 + 1, by omega, by go_num, HN.out, (hbr.alloc hsz _).trans (b2.mono (by simp; omega))⟩
                case measure => simp [intOf]; omega
        · have hke : k = fs.length := by omega
          subst hke
          have HN : Hid (tagsOk fs = true) := by rw [Hid, HM.out, hok, okT_end]
          clear hok
          go_wp2
          go_ret
          exact ⟨one_bool HN.out.symm, hbr⟩
end Go.Proofs.YtjnekdihmchlpaaGreatDoor.Tg
/- The laws' own functions over messages: a message's copy; whether two are the same. -/
namespace Go.Proofs.YtjnekdihmchlpaaGreatDoor
open Go.RowKit
def fldEq (f g : Fld) : Bool := decide (f = g)
theorem fldEq_yes {f g : Fld} (h : fldEq f g = true) : f = g := of_decide_eq_true h
theorem fldEq_no {f g : Fld} (h : fldEq f g = false) : f ≠ g := of_decide_eq_false h
def msgEq (k1 : Int) (xs : List Fld) (k2 : Int) (ys : List Fld) : Bool := decide (k1 = k2 ∧ xs = ys)
theorem msgEq_self (k : Int) (xs : List Fld) : msgEq k xs k xs = true := decide_eq_true ⟨rfl, rfl⟩
end Go.Proofs.YtjnekdihmchlpaaGreatDoor
/- The marks that the exact laws lay into an answer's own memory, and find again: slices of fields, messages. -/
namespace Go.Proofs.YtjnekdihmchlpaaGreatDoor
open Go.RowKit
def mkF (k n : Nat) : List Fld := (List.range n).map fun i => (((k + 2 * i : Nat) : Int), mtx (k + 2 * i + 1))
theorem mkF_len (k n : Nat) : (mkF k n).length = n := by simp [mkF]
theorem mkF_at (k n i : Nat) (h : i < n) : at0 (mkF k n) i = (((k + 2 * i : Nat) : Int), mtx (k + 2 * i + 1)) := by simp [at0, mkF, List.getD_eq_getElem?_getD, h]
def fillF (fs : List Fld) (k j : Nat) : List Fld := mkF k j ++ fs.drop j
theorem fillF_len (fs : List Fld) (k j : Nat) (h : j ≤ fs.length) : (fillF fs k j).length = fs.length := by simp [fillF, mkF_len]; omega
theorem fillF_zero (fs : List Fld) (k : Nat) : fillF fs k 0 = fs := by simp [fillF, mkF]
theorem fillF_all (fs : List Fld) (k : Nat) : fillF fs k fs.length = mkF k fs.length := by simp [fillF]
theorem fillF_succ (fs : List Fld) (k j : Nat) (h : j < fs.length) : (fillF fs k j).set j (((k + 2 * j : Nat) : Int), mtx (k + 2 * j + 1)) = fillF fs k (j + 1) := by
  unfold fillF
  rw [List.set_append, if_neg (by rw [mkF_len]; omega), mkF_len, Nat.sub_self, List.drop_eq_getElem_cons h, List.set_cons_zero]
  simp [mkF, List.range_succ]
theorem grown_of {w w' : World} (h : Below w.heap.size w w') (r : Option Nat) : w.grownBy w' r := ⟨h.os, h.tape, h.output, h.size, fun k hk _ => h.block k hk⟩
end Go.Proofs.YtjnekdihmchlpaaGreatDoor
/- A packed message comes back, plainly. No Go in sight. -/
namespace Go.Proofs.YtjnekdihmchlpaaGreatDoor
theorem mid_drop (a b c : List UInt8) : ((a ++ b ++ c).drop a.length).take b.length = b := by simp
theorem dig_at (pre d post : List UInt8) (hw : within 48 57 d = true) (hl : d.length ≤ 100) :
    getL (pre ++ pkD d ++ post) pre.length d.length = d ∧ getI (pre ++ pkD d ++ post) pre.length d.length = pre.length + ((pkD d).length : Int) := by
  have hlen := pkD_len d
  have hbk : unL (pkD d) d.length = d := back d hw
  have hpd : putD d = some (pkD d) := putD_yes hw hl
  obtain ⟨s, hs⟩ : ∃ s, pkD d = s := ⟨_, rfl⟩
  rw [hs] at hpd hlen hbk ⊢
  have hp : ((pre ++ s ++ post).drop pre.length).take ((d.length + 1) / 2) = s := by
    rw [← hlen]; exact mid_drop pre s post
  have hok : getOk (pre ++ s ++ post) ((pre.length : Nat) : Int) ((d.length : Nat) : Int) = true := by
    rw [getOk_in (by simp; omega), hp]
    exact (again s d.length hlen hl).1 (by rw [hbk]; exact hpd)
  have hg := get_yes hok
  rw [Int.toNat_natCast, Int.toNat_natCast, hp, hbk] at hg
  refine ⟨hg.1, ?_⟩
  rw [hg.2, hlen]
  omega
theorem pad_at {m wd : Nat} (h1 : 1 ≤ wd) (h2 : wd ≤ 18) (h3 : m < 10 ^ wd) : (padT m wd).length = wd ∧ numOf (padT m wd) = (m : Int) ∧ within 48 57 (padT m wd) = true := by
  rw [padT_yes h1 h2 h3]
  exact ⟨padN_len h1 h3, padN_num h1 h2 h3, padN_dig _ _⟩
theorem var_at (pre s post : List UInt8) (wd : Nat) (hwd : wd = 2 ∨ wd = 3) (hs : s.length < 10 ^ wd) :
    varL (pre ++ (padT s.length wd ++ s) ++ post) pre.length wd = s ∧ varI (pre ++ (padT s.length wd ++ s) ++ post) pre.length wd = pre.length + ((padT s.length wd ++ s).length : Int) := by
  obtain ⟨hpl, hpn, _⟩ := pad_at (by omega) (by omega) hs
  obtain ⟨p, hp⟩ : ∃ p, padT s.length wd = p := ⟨_, rfl⟩
  rw [hp] at hpl hpn ⊢
  have e1 : ((pre ++ (p ++ s) ++ post).drop pre.length).take wd = p := by
    rw [← hpl]
    simp
  have e2 : ((pre ++ (p ++ s) ++ post).drop (pre.length + wd)).take s.length = s := by
    have := mid_drop (pre ++ p) s post
    rw [List.length_append, hpl] at this
    simpa using this
  have hv : vNum (pre ++ (p ++ s) ++ post) pre.length (wd : Int) = (s.length : Int) := by
    unfold vNum
    rw [Int.toNat_natCast, Int.toNat_natCast, e1, hpn]
  have hok : varOk (pre ++ (p ++ s) ++ post) pre.length (wd : Int) = true := varOk_yes (by rcases hwd with rfl | rfl <;> rfl) (by rw [hv]; simp; omega)
  have hy := var_yes hok
  rw [hv] at hy
  refine ⟨?_, ?_⟩
  · rw [hy.1, show ((pre.length : Int) + (wd : Int)).toNat = pre.length + wd from by omega, Int.toNat_natCast, e2]
  · rw [hy.2]; simp; omega
theorem fld_back (pre post : List UInt8) {n : Int} {d : List UInt8} (h : fieldOk n d = true) :
    rawL (pre ++ putFld n d ++ post) pre.length n = d ∧ rawI (pre ++ putFld n d ++ post) pre.length n = pre.length + ((putFld n d).length : Int) := by
  rcases fieldOk_K h with ⟨e, h1, h2, h3⟩ | ⟨e, h1, h2, h3⟩ | ⟨e, h1, h2, h3⟩ | ⟨e, h1, h2, h3⟩ | ⟨e, h1, h2, h3⟩
  · have hp : putFld n d = pkD d := if_pos e
    rw [hp, (raw1 e).1, (raw1 e).2, ← h1]
    exact dig_at pre d post h2 (by omega)
  · have hp : putFld n d = padT d.length 2 ++ pkD d := by unfold putFld; simp [e]
    obtain ⟨hpl, hpn, hpw⟩ := pad_at (m := d.length) (wd := 2) (by omega) (by omega) (by omega)
    have hpl' : (padT (d.length : Int) 2).length = 2 := hpl
    have hpn' : numOf (padT (d.length : Int) 2) = (d.length : Int) := hpn
    rw [hp, (raw2 e).1, (raw2 e).2, Int.toNat_natCast]
    obtain ⟨p, hpp⟩ : ∃ p, padT (d.length : Int) 2 = p := ⟨_, rfl⟩
    rw [hpp] at hpl' hpn' ⊢
    have hb : hasB (pre ++ (p ++ pkD d) ++ post).length pre.length 2 = true := hasB_pos (by omega) (by simp; omega) (by simp; omega)
    have e1 : ((pre ++ (p ++ pkD d) ++ post).drop pre.length).take 2 = p := by
      rw [← hpl']
      simp
    rw [if_pos hb, if_pos hb, e1, hpn']
    have := dig_at (pre ++ p) d post h2 (by omega)
    rw [show (pre ++ p) ++ pkD d ++ post = pre ++ (p ++ pkD d) ++ post by simp, show (((pre ++ p).length : Nat) : Int) = (pre.length : Int) + 2 by simp; omega] at this
    refine ⟨this.1, ?_⟩
    rw [this.2]; simp; omega
  · have hp : putFld n d = d := by unfold putFld; simp [e]
    rw [hp, (raw3 e).1, (raw3 e).2, ← h1, Int.toNat_natCast, Int.toNat_natCast]
    have hb : hasB (pre ++ d ++ post).length pre.length d.length = true := hasB_pos (by omega) (by simp; omega) (by simp; omega)
    rw [if_pos hb, if_pos hb]
    exact ⟨mid_drop pre d post, rfl⟩
  · have hp : putFld n d = padT d.length 2 ++ d := by unfold putFld; simp [e]
    rw [hp, (raw4 e).1, (raw4 e).2]
    exact var_at pre d post 2 (.inl rfl) (by omega)
  · have hp : putFld n d = padT d.length 3 ++ d := by unfold putFld; simp [e]
    rw [hp, (raw5 e).1, (raw5 e).2]
    exact var_at pre d post 3 (.inr rfl) (by omega)
theorem rd_back (post : List UInt8) (fs : List Fld) : ∀ (pre : List UInt8) (acc : List Fld), (∀ f ∈ fs, fieldOk f.1 f.2 = true) →
    rdF (pre ++ bodyP fs ++ post) (numsF fs) pre.length acc = if post = [] then (0, 0, acc ++ fs) else (4, ((pre ++ bodyP fs).length : Int), []) := by
  induction fs with
  | nil =>
    intro pre acc _
    show (if ((pre.length : Nat) : Int) < ((pre ++ [] ++ post).length : Int) then _ else _) = _
    by_cases hp : post = []
    · subst hp; simp
    · have : 0 < post.length := List.length_pos_iff.2 hp
      rw [if_pos (by simp; omega), if_neg hp]; simp [bodyP]
  | cons f r ih =>
    intro pre acc hok
    have hf := hok f (by simp)
    have hb := fld_back pre (bodyP r ++ post) hf
    have e : pre ++ bodyP (f :: r) ++ post = pre ++ putFld f.1 f.2 ++ (bodyP r ++ post) := by simp [bodyP]
    have hat : fldAt (pre ++ bodyP (f :: r) ++ post) pre.length f.1 = true := by
      rw [e]; unfold fldAt; rw [hb.1, hb.2, hf]; simp; omega
    show (if fldAt _ _ f.1 = true then rdF _ (numsF r) _ _ else _) = _
    rw [if_pos hat, e, hb.1, hb.2]
    have := ih (pre ++ putFld f.1 f.2) (acc ++ [f]) (fun g hg => hok g (by simp [hg]))
    rw [show (pre ++ putFld f.1 f.2) ++ bodyP r ++ post = pre ++ putFld f.1 f.2 ++ (bodyP r ++ post) by simp, show (((pre ++ putFld f.1 f.2).length : Nat) : Int) = (pre.length : Int) + ((putFld f.1 f.2).length : Int) by simp] at this
    rw [this]
    simp [bodyP]
theorem set_at (pre post : List UInt8) {zs : List Int} {s : List UInt8} (h : putS zs = some s) : getSL (pre ++ s ++ post) pre.length = zs ∧ getSI (pre ++ s ++ post) pre.length = pre.length + (s.length : Int) := by
  have ha : ascS 1 zs = true := by
    cases e : ascS 1 zs
    · rw [putS_no e] at h; cases h
    · rfl
  rw [putS_yes ha] at h
  have hs : setB (bitS zs) (sizeS zs) = s := Option.some.inj h
  have hlen : s.length = sizeS zs := by rw [← hs, setB_len]
  have hs8 : 8 ≤ sizeS zs := by rcases sizeS_or zs with ⟨h1, _⟩ | ⟨h1, _⟩ <;> omega
  have hnum := nums_set ha
  rw [hs] at hnum
  have hg0 : (pre ++ s ++ post).getD pre.length 0 = s.getD 0 0 := by
    simp only [List.getD_eq_getElem?_getD]
    rw [List.append_assoc, List.getElem?_append_right (Nat.le_refl _), Nat.sub_self, List.getElem?_append_left (by omega)]
  have hb1 : bitL s 1 = wide zs := by rw [← hs, bitL_set _ _ _ (by omega) (by omega), bitS_one ha]
  have hf := bitL_first s 0
  rw [List.drop_zero, hb1] at hf
  have hz : szB ((pre ++ s ++ post).getD pre.length 0) = sizeS zs := by
    rw [hg0]
    unfold szB sizeS
    rw [hf]
    by_cases hc : 128 ≤ (s.getD 0 0).toNat
    · rw [if_pos hc, if_pos (decide_eq_true hc)]
    · rw [if_neg hc, if_neg (by rw [decide_eq_false hc]; decide)]
  have hp : ((pre ++ s ++ post).drop pre.length).take (sizeS zs) = s := by
    rw [← hlen]; exact mid_drop pre s post
  have hg := (getS_in (l := pre ++ s ++ post) (k := pre.length) (m := sizeS zs) (b := s) hz (by simp; omega) hp hs8).1 (by rw [hnum, putS_yes ha, hs])
  rw [hnum] at hg
  exact ⟨hg.1, by rw [hg.2, hlen]⟩
theorem okF_all {fs : List Fld} : ∀ {p : Int}, okF p fs = true → ∀ f ∈ fs, fieldOk f.1 f.2 = true := by
  induction fs with
  | nil => intro p _ f hf; cases hf
  | cons g r ih =>
    intro p h f hf
    simp only [okF, Bool.and_eq_true, decide_eq_true_eq] at h
    rcases List.mem_cons.1 hf with rfl | hm
    · exact h.1.1
    · exact ih h.2 f hm
theorem unp_pack {kd : Int} {fs : List Fld} (post : List UInt8) (h : msgOk kd fs = true) :
    unp (packL kd fs ++ post) = if post = [] then (0, 0, kd, fs) else (4, ((packL kd fs).length : Int), 0, []) := by
  obtain ⟨hk, hf⟩ := msgOk_parts h
  obtain ⟨m, rfl⟩ := Int.eq_ofNat_of_zero_le hk.1
  obtain ⟨hpl, hpn, hpw⟩ := pad_at (m := m) (wd := 4) (by omega) (by omega) (by omega)
  have hpl' : (padT (m : Int) 4).length = 4 := hpl
  have hpn' : numOf (padT (m : Int) 4) = (m : Int) := hpn
  have hpw' : within 48 57 (padT (m : Int) 4) = true := hpw
  have hst : putS (numsF fs) = some (setF fs) := by
    unfold setF; rw [putS_yes (okF_asc hf)]; rfl
  rw [packL_yes h]
  obtain ⟨p, hpp⟩ : ∃ p, padT (m : Int) 4 = p := ⟨_, rfl⟩
  rw [hpp] at hpl' hpn' hpw' ⊢
  have hS := set_at p (bodyP fs ++ post) hst
  have hR := rd_back post fs (p ++ setF fs) [] (okF_all hf)
  rw [show p ++ setF fs ++ (bodyP fs ++ post) = p ++ setF fs ++ bodyP fs ++ post by simp, hpl'] at hS
  have hl4 : (p ++ setF fs ++ bodyP fs ++ post).take 4 = p := by
    rw [← hpl']; simp
  have hko : kindOk (p ++ setF fs ++ bodyP fs ++ post) = true := by
    unfold kindOk
    rw [hl4, hpw', hasB_pos (by omega) (by omega) (by simp; omega)]; rfl
  have h4 : (((4 : Nat) : Int)) = 4 := rfl
  rw [h4] at hS
  rw [show (((p ++ setF fs).length : Nat) : Int) = 4 + ((setF fs).length : Int) by simp; omega] at hR
  unfold unp
  rw [hko, if_neg (by decide), hS.1, hS.2, if_neg (by omega), hl4, hpn', hR]
  by_cases hp : post = []
  · simp [hp]
  · simp [hp]
end Go.Proofs.YtjnekdihmchlpaaGreatDoor
/- The contracts of FieldOf, the program's and the specification's. -/
namespace Go.Proofs.YtjnekdihmchlpaaGreatDoor
open Go.RowKit
def fOf : List Fld → Int → Option (List UInt8)
  | [], _ => none
  | f :: r, n => if f.1 = n then some f.2 else fOf r n
theorem fOf_step (fs : List Fld) (k : Nat) (n : Int) (h : k < fs.length) : fOf (fs.drop k) n = if (at0 fs k).1 = n then some (at0 fs k).2 else fOf (fs.drop (k + 1)) n := by
  have e : at0 fs k = fs[k] := by simp [at0, List.getD_eq_getElem?_getD, h]
  rw [List.drop_eq_getElem_cons h, e]; rfl
set_option maxHeartbeats 800000 in
theorem iFieldOf_any (kd : Int) (ao : Option Addr) (cap : Nat) (fs : List Fld) (num : Int) (w : World) (hz : FldsAt w ao fs) (hn : fs.length ≤ 1048576) (hd : sumF fs ≤ 1048576) :
    Calls Tryz.prog 11 #[.agg #[.int .i64 kd, .slice ao fs.length cap], .int .i64 num] w fun e w' => e = .returned (.tuple #[.string ⟨((fOf fs num).getD []).toArray⟩, .bool (fOf fs num).isSome]) ∧ Below w.heap.size w w' := by
  rcases hz with rfl | ⟨b, off, rfl, hb, hcell⟩
  · go_enter Tryz.func11, Tryz.ntmps11
    go_wp2
    refine wp_loop_rounds 1 ?_
    rw [rounds_succ]
    go_wp2
    go_ret2
    exact ⟨rfl, by go_grown⟩
  · have HC : Hid (∀ i, i < fs.length → w.cell? ⟨b, off + i * 2, none⟩ = some (.int .i64 (at0 fs i).1) ∧ w.cell? ⟨b, off + i * 2 + 1, none⟩ = some (.string ⟨(at0 fs i).2.toArray⟩)) := hcell
    clear hcell
    go_enter Tryz.func11, Tryz.ntmps11
    go_wp2
    go_loopw [11] (fun i wr => ∃ k : Nat, k ≤ fs.length ∧ i = .int .i64 k ∧ fOf fs num = fOf (fs.drop k) num ∧ Below w.heap.size w wr) (fun i _ => fs.length - (intOf i).toNat)
    case atStart => exact ⟨0, Nat.zero_le _, rfl, rfl, by go_grown⟩
    case round =>
      obtain ⟨k, hk, rfl, hok, hbr⟩ := hrel
      by_cases hlt : k < fs.length
      · have c1 : wr.cell? ⟨b, off + k * 2, none⟩ = some (.int .i64 (at0 fs k).1) := (hbr.cell (p := ⟨b, off + k * 2, none⟩) hb).trans (HC.out k hlt).1
        have c2 : wr.cell? ⟨b, off + k * 2 + 1, none⟩ = some (.string ⟨(at0 fs k).2.toArray⟩) := (hbr.cell (p := ⟨b, off + k * 2 + 1, none⟩) hb).trans (HC.out k hlt).2
        have hki : (k : Int) < (fs.length : Int) := by omega
        have hst := fOf_step fs k num hlt
        have hdk := at0_le hlt hd
        obtain ⟨⟨n, s⟩, hf⟩ : ∃ f, at0 fs k = f := ⟨_, rfl⟩
        rw [hf] at c1 c2 hst hdk
        simp only at c1 c2 hst hdk
        clear hf
        have hl : s.length ≤ 1099511627776 := by omega
        by_cases hq : n = num
        · have HN : Hid (fOf fs num = some s) := by rw [Hid, hok, hst, if_pos hq]
          have hq' : (n == num) = true := by simpa using hq
          clear hst hok hq
          go_wp2_with fail
          refine (clone_any s _ hl).mono ?_
          rintro e w2 ⟨rfl, b2⟩
          have bb := (hbr.alloc hbr.size (.cells #[.int .i64 n, .string ⟨s.toArray⟩] 57)).trans (b2.mono (by have := hbr.size; simp; omega))
          clear b2
          go_wp2
          go_ret2
          exact ⟨str_ok (by rw [HN.out]; rfl) (by rw [HN.out]; rfl), bb⟩
        · have HN : Hid (fOf fs num = fOf (fs.drop (k + 1)) num) := by rw [Hid, hok, hst, if_neg hq]
          have hq' : (n == num) = false := by simpa using hq
          clear hst hok hq
          go_wp2
          go_roundw
          case rel => exact ⟨k + 1, by omega, by go_num, HN.out, hbr.alloc hbr.size _⟩
          case measure => simp [intOf]; omega
      · have hke : k = fs.length := by omega
        subst hke
        have HN : Hid (fOf fs num = none) := by rw [Hid, hok, List.drop_of_length_le (Nat.le_refl _)]; rfl
        clear hok
        go_wp2
        go_ret2
        exact ⟨str_ok (by rw [HN.out]; rfl) (by rw [HN.out]; rfl), hbr⟩
end Go.Proofs.YtjnekdihmchlpaaGreatDoor
