/- The contracts of CheckDigit (the program's), and of the specification's sum, CardOk and CheckDigit. -/
import Derived.Test.YtiiechnbionhnaaFCard
namespace Go.Proofs.Ytiiechnbionhnaa
open Go.RowKit
set_option maxRecDepth 100000

theorem check_no {l : List UInt8} (h : digsB 11 18 l = false) : checkV l = -1 := by
  unfold checkV
  unfold digsB at h
  rw [h]
  rfl
theorem check_yes {l : List UInt8} (h : digsB 11 18 l = true) : checkV l = (((10 - luhn true l % 10) % 10 : Nat) : Int) := by
  unfold checkV
  unfold digsB at h
  rw [h]
  rfl

theorem sub48 {c d : Nat} (h : 48 ≤ c ∧ c ≤ 57) (hd : c - 48 = d) : IntKind.i64.wrap ((c : Int) - 48) = (d : Int) := by
  rw [IntKind.wrap_i64]; omega

set_option maxHeartbeats 1600000 in
theorem iCheck_any (l : List UInt8) (w : World) (hl : l.length ≤ 1099511627776) :
    Calls Try.prog 14 #[.string ⟨l.toArray⟩] w fun e w' => e = .returned (.int .i64 (checkV l)) ∧ Below w.heap.size w w' := by
  have hmf : ∀ (fn : Fn) (first cap : Array Value) (w : World), (Instr.makeFunc fn first cap).run Try.prog w = .ok (.func fn first cap) w := fun _ _ _ _ => rfl
  have b0 : Below w.heap.size w (w.alloc (.cells #[.int .i64 0] 40)) := (Below.refl _ _).alloc (Nat.le_refl _) _
  cases hd : digsB 11 18 l
  · have HN : Hid _ := check_no hd
    have HB0 : Hid _ := b0
    clear b0
    go_enter Try.func14, Try.ntmps14
    go_wp2
    refine wp_scope_ahead 0 rfl ?_
    go_wp2_with fail
    refine (digsIn_any 11 18 l _ hl).mono ?_
    rintro e w1 ⟨rfl, hw⟩
    subst hw
    rw [hd]
    go_wp2
    go_step3
    refine ⟨rfl, ?_⟩
    go_wp2
    rw [Exit.noGoto_ret]
    go_ret
    exact ⟨one_int HN.out.symm, HB0.out⟩
  · have HO : Hid _ := check_yes hd
    have HI : Hid ((11 ≤ l.length ∧ l.length ≤ 18) ∧ within 48 57 l = true) := digs_in hd
    have HB0 : Hid _ := b0
    clear b0
    have HSN : Hid (SumB w.heap.size 0 (w.alloc (.cells #[.int .i64 0] 40))) := sum_new _ _
    obtain ⟨n, hn⟩ : ∃ n, luhn true l = n := ⟨_, rfl⟩
    rw [hn] at HO
    have hti : (n : Int).tmod 10 = ((n % 10 : Nat) : Int) := by rw [Int.tmod_eq_emod_of_nonneg (by omega)]; omega
    obtain ⟨r, hr⟩ : ∃ r, n % 10 = r := ⟨_, rfl⟩
    have hrl : r ≤ 9 := by omega
    rw [hr] at hti HO
    have hsb : IntKind.i64.wrap (10 - (r : Int)) = ((10 - r : Nat) : Int) := by rw [IntKind.wrap_i64]; omega
    have ht2 : ((10 - r : Nat) : Int).tmod 10 = (((10 - r) % 10 : Nat) : Int) := by rw [Int.tmod_eq_emod_of_nonneg (by omega)]; omega
    clear hr
    go_enter Try.func14, Try.ntmps14
    go_wp2
    refine wp_scope_ahead 0 rfl ?_
    go_wp2_with fail
    refine (digsIn_any 11 18 l _ hl).mono ?_
    rintro e w1 ⟨rfl, hw⟩
    subst hw
    rw [hd]
    go_wp2_with fail
    refine (walk_any true w.heap.size l _ (by have := HI.out.1.2; omega) HI.out.2 HSN.out).mono ?_
    rintro e u1 ⟨rfl, s1, b1⟩
    rw [hn] at s1
    have c0 := s1.1
    have HB1 : Hid (Below w.heap.size w u1) := HB0.out.trans b1
    clear s1 b1 hn
    go_wp2
    simp only [Exit.jump]
    go_ret
    exact ⟨one_int HO.out.symm, HB1.out⟩

set_option maxHeartbeats 1600000 in
theorem sSum_any (tw : Bool) (fi : Nat) (hf : fi = if tw then 0 else 1) (l : List UInt8) (w : World) (hl : l.length ≤ 10000) (hw : within 48 57 l = true) :
    Calls Try.prog 32 #[.string ⟨l.toArray⟩, .int .i64 fi] w fun e w' => e = .returned (.int .i64 (luhn tw l)) ∧ w' = w := by
  have HW : Hid (within 48 57 l = true) := hw
  have HL : Hid (∀ k, k ≤ l.length → lastV tw l k ≤ 9 * k) := lastV_le tw hw
  have HF : Hid (fi = if tw then 0 else 1) := hf
  clear hw hf
  go_enter Try.func32, Try.ntmps32
  go_wp2
  go_loop [5, 6, 7] (fun s i _ => ∃ k : Nat, k ≤ l.length ∧ i = .int .i64 k ∧ s = .int .i64 (lastV tw l k)) (fun _ i _ => l.length - (intOf i).toNat)
  case atStart => exact ⟨0, Nat.zero_le _, rfl, rfl⟩
  case round =>
    obtain ⟨k, hk, rfl, rfl⟩ := hrel
    by_cases hlt : k < l.length
    · obtain ⟨j, hj⟩ : ∃ j : Nat, l.length - 1 - k = j := ⟨_, rfl⟩
      have hjl : j < l.length := by omega
      have hki : (k : Int) < (l.length : Int) := by omega
      have hw1 : IntKind.i64.wrap ((l.length : Int) - 1) = (l.length : Int) - 1 := by rw [IntKind.wrap_i64]; omega
      have hji : IntKind.i64.wrap ((l.length : Int) - 1 - (k : Int)) = (j : Int) := by rw [IntKind.wrap_i64]; omega
      have hbd := HL.out k hk
      have hin := within_at HW.out hjl
      have HSt : Hid _ := lastV_step tw l k
      rw [hj] at HSt
      obtain ⟨c, hc⟩ : ∃ c, (⟨l.toArray⟩ : ByteArray)[j]'(by rw [ba_size]; exact hjl) = c := ⟨_, rfl⟩
      rw [(byte_at l j hjl).trans hc] at hin HSt
      obtain ⟨n, hn⟩ : ∃ n, lastV tw l k = n := ⟨_, rfl⟩
      rw [hn] at hbd HSt
      have hnb : n ≤ 1000000 := by omega
      obtain ⟨d, hd⟩ : ∃ d : Nat, c.toNat - 48 = d := ⟨_, rfl⟩
      have hd9 : d ≤ 9 := by omega
      have hwc := wrap_byte c
      have hwi : IntKind.i64.wrap ((c.toNat : Int) - 48) = (d : Int) := sub48 hin hd
      have htm : (k : Int).tmod 2 = ((k % 2 : Nat) : Int) := by rw [Int.tmod_eq_emod_of_nonneg (by omega)]; omega
      obtain ⟨p, hp⟩ : ∃ p, (tw != decide (k % 2 = 1)) = p := ⟨_, rfl⟩
      have hpf : p = decide (k % 2 = fi) := by
        have h2 : k % 2 = 0 ∨ k % 2 = 1 := by omega
        have h3 := HF.out
        subst hp h3
        cases tw <;> rcases h2 with h | h <;> simp [h]
      rw [hp] at HSt
      obtain ⟨r, hr⟩ : ∃ r, k % 2 = r := ⟨_, rfl⟩
      rw [hr] at htm hpf
      have HD : Hid (c.toNat - 48 = d) := hd
      rw [hn]
      have hr9 : r ≤ 1 := by omega
      have hf9 : fi ≤ 1 := by have := HF.out; cases tw <;> simp at this <;> omega
      clear hp hj hn hd hbd hr
      by_cases hrf : r = fi
      · have hri : (r : Int) = (fi : Int) := by omega
        rw [hpf, decide_eq_true hrf] at HSt
        by_cases h9 : 9 < 2 * d
        · have h9i : (9 : Int) < 2 * (d : Int) := by omega
          obtain ⟨x, hx⟩ : ∃ x : Nat, 2 * d - 9 = x := ⟨_, rfl⟩
          have hwa : IntKind.i64.wrap (2 * (d : Int)) = 2 * (d : Int) := by rw [IntKind.wrap_i64]; omega
          have hwb : IntKind.i64.wrap (2 * (d : Int) - 9) = (x : Int) := by rw [IntKind.wrap_i64]; omega
          have hws : IntKind.i64.wrap ((n : Int) + (x : Int)) = ((n + x : Nat) : Int) := by rw [IntKind.wrap_i64]; omega
          have HV : Hid (lastV tw l (k + 1) = n + x) := by rw [Hid, HSt.out, ← hx]; simp [digV, HD.out, h9]
          clear HSt HD hx h9 hrf hpf
          go_wp2
          go_round
          case rel => exact ⟨k + 1, by omega, by go_num, by rw [HV.out]; go_num⟩
          case measure => simp [intOf]; omega
        · have h9i : 2 * (d : Int) ≤ 9 := by omega
          obtain ⟨x, hx⟩ : ∃ x : Nat, 2 * d = x := ⟨_, rfl⟩
          have hwa : IntKind.i64.wrap (2 * (d : Int)) = (x : Int) := by rw [IntKind.wrap_i64]; omega
          have h9x : (x : Int) ≤ 9 := by omega
          have hws : IntKind.i64.wrap ((n : Int) + (x : Int)) = ((n + x : Nat) : Int) := by rw [IntKind.wrap_i64]; omega
          have HV : Hid (lastV tw l (k + 1) = n + x) := by rw [Hid, HSt.out, ← hx]; simp [digV, HD.out, h9]
          clear HSt HD hx h9 hrf hpf h9i
          go_wp2
          go_round
          case rel => exact ⟨k + 1, by omega, by go_num, by rw [HV.out]; go_num⟩
          case measure => simp [intOf]; omega
      · have hri : ¬ (r : Int) = (fi : Int) := by omega
        rw [hpf, decide_eq_false hrf] at HSt
        have hws : IntKind.i64.wrap ((n : Int) + (d : Int)) = ((n + d : Nat) : Int) := by rw [IntKind.wrap_i64]; omega
        have HV : Hid (lastV tw l (k + 1) = n + d) := by rw [Hid, HSt.out]; simp [digV, HD.out]
        clear HSt HD hrf hpf
        go_wp2
        go_round
        case rel => exact ⟨k + 1, by omega, by go_num, by rw [HV.out]; go_num⟩
        case measure => simp [intOf]; omega
    · have hke : k = l.length := by omega
      subst hke
      go_wp2
      go_ret
      exact ⟨rfl, rfl⟩

theorem inLen (a b n : Nat) : inB (n : Int) a b = decide (a ≤ n ∧ n ≤ b) := by
  unfold inB
  by_cases h1 : a ≤ n <;> by_cases h2 : n ≤ b <;> simp [h1, h2]

set_option maxHeartbeats 1600000 in
theorem sCardOk_any (l : List UInt8) (w : World) (hl : l.length ≤ 1099511627776) :
    Calls Try.prog 11 #[.string ⟨l.toArray⟩] w fun e w' => e = .returned (.bool (cardOk l)) ∧ w' = w := by
  cases hin : decide (12 ≤ l.length ∧ l.length ≤ 19)
  · have HO : Hid (cardOk l = false) := by rw [Hid, cardOk, hin]; rfl
    have hib := (inLen 12 19 l.length).trans hin
    clear hin
    go_enter Try.func11, Try.ntmps11
    go_wp2_with fail
    refine (in_any _ _ _ _).mono ?_
    rintro e w1 ⟨rfl, hw⟩
    subst hw
    rw [show inB (l.length : Int) 12 19 = false from hib]
    go_wp2
    go_ret
    exact ⟨one_bool HO.out.symm, rfl⟩
  · cases hd : within 48 57 l
    · have HO : Hid (cardOk l = false) := by rw [Hid, cardOk, hin, hd]; rfl
      have hib := (inLen 12 19 l.length).trans hin
      clear hin
      go_enter Try.func11, Try.ntmps11
      go_wp2_with fail
      refine (in_any _ _ _ _).mono ?_
      rintro e w1 ⟨rfl, hw⟩
      subst hw
      rw [show inB (l.length : Int) 12 19 = true from hib]
      go_wp2_with fail
      refine (sDigits_any _ _ hl).mono ?_
      rintro e w1 ⟨rfl, hw⟩
      subst hw
      rw [hd]
      go_wp2
      go_ret
      exact ⟨one_bool HO.out.symm, rfl⟩
    · obtain ⟨n, hn⟩ : ∃ n, luhn false l = n := ⟨_, rfl⟩
      have HO : Hid (cardOk l = decide (n % 10 = 0)) := by rw [Hid, cardOk, hin, hd, hn]; rfl
      have hib := (inLen 12 19 l.length).trans hin
      have HLe : Hid (l.length ≤ 10000) := by have := of_decide_eq_true hin; rw [Hid]; omega
      have hti : (n : Int).tmod 10 = ((n % 10 : Nat) : Int) := by rw [Int.tmod_eq_emod_of_nonneg (by omega)]; omega
      obtain ⟨r, hr⟩ : ∃ r, n % 10 = r := ⟨_, rfl⟩
      rw [hr] at hti HO
      have HS : Hid _ := sSum_any false 1 rfl l w HLe.out hd
      rw [hn] at HS
      clear hin hr hn
      by_cases hz : r = 0
      · rw [decide_eq_true hz] at HO
        subst hz
        go_enter Try.func11, Try.ntmps11
        go_wp2_with fail
        refine (in_any _ _ _ _).mono ?_
        rintro e w1 ⟨rfl, hw⟩
        subst hw
        rw [show inB (l.length : Int) 12 19 = true from hib]
        go_wp2_with fail
        refine (sDigits_any _ _ hl).mono ?_
        rintro e w1 ⟨rfl, hw⟩
        subst hw
        rw [hd]
        go_wp2_with fail
        refine (Calls.mono HS.out) ?_
        rintro e w1 ⟨rfl, hw⟩
        subst hw
        go_wp2
        go_ret
        exact ⟨one_bool HO.out.symm, rfl⟩
      · rw [decide_eq_false hz] at HO
        have hzi : ¬ (r : Int) = 0 := by omega
        go_enter Try.func11, Try.ntmps11
        go_wp2_with fail
        refine (in_any _ _ _ _).mono ?_
        rintro e w1 ⟨rfl, hw⟩
        subst hw
        rw [show inB (l.length : Int) 12 19 = true from hib]
        go_wp2_with fail
        refine (sDigits_any _ _ hl).mono ?_
        rintro e w1 ⟨rfl, hw⟩
        subst hw
        rw [hd]
        go_wp2_with fail
        refine (Calls.mono HS.out) ?_
        rintro e w1 ⟨rfl, hw⟩
        subst hw
        go_wp2
        go_ret
        exact ⟨one_bool ((show ((r : Int) == 0) = false by simp; omega).trans HO.out.symm), rfl⟩

set_option maxHeartbeats 1600000 in
theorem sCheck_any (l : List UInt8) (w : World) (hl : l.length ≤ 1099511627776) :
    Calls Try.prog 13 #[.string ⟨l.toArray⟩] w fun e w' => e = .returned (.int .i64 (checkV l)) ∧ w' = w := by
  cases hin : decide (11 ≤ l.length ∧ l.length ≤ 18)
  · have HO : Hid (checkV l = -1) := by rw [Hid, checkV, hin]; rfl
    have hib := (inLen 11 18 l.length).trans hin
    clear hin
    go_enter Try.func13, Try.ntmps13
    go_wp2_with fail
    refine (in_any _ _ _ _).mono ?_
    rintro e w1 ⟨rfl, hw⟩
    subst hw
    rw [show inB (l.length : Int) 11 18 = false from hib]
    go_wp2
    go_ret
    exact ⟨one_int HO.out.symm, rfl⟩
  · cases hd : within 48 57 l
    · have HO : Hid (checkV l = -1) := by rw [Hid, checkV, hin, hd]; rfl
      have hib := (inLen 11 18 l.length).trans hin
      clear hin
      go_enter Try.func13, Try.ntmps13
      go_wp2_with fail
      refine (in_any _ _ _ _).mono ?_
      rintro e w1 ⟨rfl, hw⟩
      subst hw
      rw [show inB (l.length : Int) 11 18 = true from hib]
      go_wp2_with fail
      refine (sDigits_any _ _ hl).mono ?_
      rintro e w1 ⟨rfl, hw⟩
      subst hw
      rw [hd]
      go_wp2
      go_ret
      exact ⟨one_int HO.out.symm, rfl⟩
    · obtain ⟨n, hn⟩ : ∃ n, luhn true l = n := ⟨_, rfl⟩
      have HO : Hid (checkV l = (((10 - n % 10) % 10 : Nat) : Int)) := by rw [Hid, checkV, hin, hd, hn]; rfl
      have hib := (inLen 11 18 l.length).trans hin
      have HLe : Hid (l.length ≤ 10000) := by have := of_decide_eq_true hin; rw [Hid]; omega
      have hti : (n : Int).tmod 10 = ((n % 10 : Nat) : Int) := by rw [Int.tmod_eq_emod_of_nonneg (by omega)]; omega
      obtain ⟨r, hr⟩ : ∃ r, n % 10 = r := ⟨_, rfl⟩
      have hrl : r ≤ 9 := by omega
      rw [hr] at hti HO
      have hsb : IntKind.i64.wrap (10 - (r : Int)) = ((10 - r : Nat) : Int) := by rw [IntKind.wrap_i64]; omega
      have ht2 : ((10 - r : Nat) : Int).tmod 10 = (((10 - r) % 10 : Nat) : Int) := by rw [Int.tmod_eq_emod_of_nonneg (by omega)]; omega
      have HS : Hid _ := sSum_any true 0 rfl l w HLe.out hd
      rw [hn] at HS
      clear hin hr hn
      go_enter Try.func13, Try.ntmps13
      go_wp2_with fail
      refine (in_any _ _ _ _).mono ?_
      rintro e w1 ⟨rfl, hw⟩
      subst hw
      rw [show inB (l.length : Int) 11 18 = true from hib]
      go_wp2_with fail
      refine (sDigits_any _ _ hl).mono ?_
      rintro e w1 ⟨rfl, hw⟩
      subst hw
      rw [hd]
      go_wp2_with fail
      refine (Calls.mono HS.out) ?_
      rintro e w1 ⟨rfl, hw⟩
      subst hw
      go_wp2
      go_ret
      exact ⟨one_int HO.out.symm, rfl⟩

end Go.Proofs.Ytiiechnbionhnaa
