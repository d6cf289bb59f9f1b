/- The contracts of the program's accountOk, EntryOk, Back, keyOf, BalanceOf, Worth, lineOk. -/
import Derived.Test.YtnimlgdackgcoaaGreatDoorLns
import Derived.Handy
import Derived.Deep.RegionWith
import Derived.Deep.RegionHeld3
namespace Go.Proofs.YtnimlgdackgcoaaGreatDoor
open Go.RowKit
set_option maxRecDepth 100000

set_option maxHeartbeats 400000 in
theorem iAcct_any (a : Int) (w : World) :
    Calls Tryz.prog 32 #[.int .i64 a] w fun e w' => e = .returned (.bool (acctOk a)) ∧ w' = w := by
  by_cases h1 : 1 ≤ a
  · by_cases h2 : a ≤ 9999
    · have HE : Hid (acctOk a = true) := by simp [Hid, acctOk, h1, h2]
      go_enter Tryz.func32, Tryz.ntmps32
      go_wp2
      go_ret
      exact ⟨one_bool HE.out.symm, rfl⟩
    · have HE : Hid (acctOk a = false) := by simp [Hid, acctOk, h1, h2]
      go_enter Tryz.func32, Tryz.ntmps32
      go_wp2
      go_ret
      exact ⟨one_bool HE.out.symm, rfl⟩
  · have HE : Hid (acctOk a = false) := by simp [Hid, acctOk]; omega
    go_enter Tryz.func32, Tryz.ntmps32
    go_wp2
    go_ret
    exact ⟨one_bool HE.out.symm, rfl⟩
theorem iAcct_is {a : Int} {q : Bool} (h : acctOk a = q) (w : World) : Calls Tryz.prog 32 #[.int .i64 a] w fun e w' => e = .returned (.bool q) ∧ w' = w := by rw [← h]; exact iAcct_any a w
theorem iDigs_is {c : Int} (w : World) (d : Int) (h : digs c = d) (hc : (Lit.int .i64 c).wf = true) : Calls Tryz.prog 48 #[.int .i64 c] w fun e w' => e = .returned (.int .i64 d) ∧ Below w.heap.size w w' := by rw [← h]; exact iDigits_any c w hc


set_option maxHeartbeats 800000 in
theorem iKey_any (a b c : Int) (w : World) :
    Calls Tryz.prog 35 #[.agg #[.int .i64 a, .int .i64 b, .int .i64 c]] w fun e w' => e = .returned (.agg #[.int .i64 a, .int .i64 b]) ∧ Below w.heap.size w w' := by
  go_enter Tryz.func35, Tryz.ntmps35
  go_wp2
  go_returns
  refine ⟨rfl, ?_⟩
  go_grown

set_option maxHeartbeats 1600000 in
theorem iEntryOk_any (a b c m : Int) (w : World) (hc : (Lit.int .i64 c).wf = true) :
    Calls Tryz.prog 24 #[.agg #[.int .i64 a, .int .i64 b, .int .i64 c, .int .i64 m]] w fun e w' => e = .returned (.bool (entryOk (a, b, c, m))) ∧ Below w.heap.size w w' := by
  have bel : Below w.heap.size w (w.alloc (.cells #[.int .i64 a, .int .i64 b, .int .i64 c, .int .i64 m] 35)) := by go_grown
  have HC : Hid _ := hc
  clear hc
  cases h1 : acctOk a
  · have HE : Hid (entryOk (a, b, c, m) = false) := by simp [Hid, entryOk, h1]
    have H1 : Hid _ := h1
    clear h1
    go_enter Tryz.func24, Tryz.ntmps24
    go_wp2_with fail
    refine (iAcct_is H1.out _).mono ?_
    rintro e w1 ⟨rfl, hw⟩
    rw [hw]
    clear hw
    go_wp2
    go_ret
    exact ⟨one_bool HE.out.symm, bel⟩
  have H1 : Hid _ := h1
  cases h2 : acctOk b
  · have HE : Hid (entryOk (a, b, c, m) = false) := by simp [Hid, entryOk, h2]
    have H2 : Hid _ := h2
    clear h1 h2
    go_enter Tryz.func24, Tryz.ntmps24
    go_wp2_with fail
    refine (iAcct_is H1.out _).mono ?_
    rintro e w1 ⟨rfl, hw⟩
    rw [hw]
    clear hw
    go_wp2_with fail
    refine (iAcct_is H2.out _).mono ?_
    rintro e w2 ⟨rfl, hw⟩
    rw [hw]
    clear hw
    go_wp2
    go_ret
    exact ⟨one_bool HE.out.symm, bel⟩
  have H2 : Hid _ := h2
  by_cases h3 : a = b
  · have HE : Hid (entryOk (a, b, c, m) = false) := by simp [Hid, entryOk, h3]
    have h3' : (a != b) = false := by simpa using h3
    clear h1 h2 h3
    go_enter Tryz.func24, Tryz.ntmps24
    go_wp2_with fail
    refine (iAcct_is H1.out _).mono ?_
    rintro e w1 ⟨rfl, hw⟩
    rw [hw]
    clear hw
    go_wp2_with fail
    refine (iAcct_is H2.out _).mono ?_
    rintro e w2 ⟨rfl, hw⟩
    rw [hw]
    clear hw
    go_wp2
    go_ret
    exact ⟨one_bool HE.out.symm, bel⟩
  have h3' : (a != b) = true := by simpa using h3
  have hx : ∀ q : Bool, (decide (0 ≤ digs c) && decide (1 ≤ m ∧ m ≤ 1000000000000)) = q → entryOk (a, b, c, m) = q := by
    intro q hq
    simp only [entryOk, h1, h2, Bool.true_and, decide_eq_true h3]
    exact hq
  obtain ⟨d, hd⟩ : ∃ d, digs c = d := ⟨_, rfl⟩
  have HD : Hid _ := hd
  have HE : Hid (entryOk (a, b, c, m) = (decide (0 ≤ d) && decide (1 ≤ m ∧ m ≤ 1000000000000))) := hx _ (by rw [hd])
  clear hx hd h3 h1 h2
  go_enter Tryz.func24, Tryz.ntmps24
  go_wp2_with fail
  refine (iAcct_is H1.out _).mono ?_
  rintro e w1 ⟨rfl, hw⟩
  rw [hw]
  clear hw
  go_wp2_with fail
  refine (iAcct_is H2.out _).mono ?_
  rintro e w2 ⟨rfl, hw⟩
  rw [hw]
  clear hw
  go_wp2_with fail
  refine (iDigs_is _ d HD.out HC.out).mono ?_
  rintro e w3 ⟨rfl, b3⟩
  have x3 := (b3.cell (p := ⟨w.heap.size, 3, none⟩) (by simp)).trans (show _ = some (.int .i64 m) by simp)
  have q3 := bel.trans (b3.mono bel.size)
  clear b3 bel
  by_cases h4 : 0 ≤ d
  · by_cases h5 : 1 ≤ m
    · by_cases h6 : m ≤ 1000000000000
      · have HX : Hid (entryOk (a, b, c, m) = true) := by rw [Hid, HE.out]; simp [h4, h5, h6]
        clear HE
        go_wp2
        go_ret
        exact ⟨one_bool HX.out.symm, q3⟩
      · have HX : Hid (entryOk (a, b, c, m) = false) := by rw [Hid, HE.out]; simp [h6]
        have H6 : Hid (decide (m ≤ 1000000000000) = false) := decide_eq_false h6
        clear HE
        go_wp2
        go_ret
        exact ⟨one_bool (by rw [HX.out, H6.out]), q3⟩
    · have HX : Hid (entryOk (a, b, c, m) = false) := by rw [Hid, HE.out]; simp [h5]
      clear HE
      go_wp2
      go_ret
      exact ⟨one_bool HX.out.symm, q3⟩
  · have HX : Hid (entryOk (a, b, c, m) = false) := by rw [Hid, HE.out]; simp [h4]
    clear HE
    go_wp2
    go_ret
    exact ⟨one_bool HX.out.symm, q3⟩

set_option maxHeartbeats 1600000 in
theorem iWorth_any (ao : Option Addr) (cap : Nat) (ls : List Ln) (c : Int) (w : World) (hz : LinesAt w ao ls) (hn : ls.length ≤ 1099511627776) :
    Calls Tryz.prog 14 #[.agg #[.slice ao ls.length cap], .int .i64 c] w fun e w' => e = .returned (.int .i64 (worthL ls c)) ∧ Below w.heap.size w w' := by
  obtain ⟨W, hW⟩ : ∃ W, W = w.alloc (.cells #[.slice ao ls.length cap] 26) := ⟨_, rfl⟩
  have bW : Below w.heap.size w W := by rw [hW]; go_grown
  have k0 : W.cell? ⟨w.heap.size, 0, none⟩ = some (.slice ao ls.length cap) := by rw [hW]; simp
  have HZ : Hid (LinesAt W ao ls) := hz.below bW
  clear hz
  go_enter Tryz.func14, Tryz.ntmps14
  go_wp2
  rw [← hW]
  clear hW
  go_loopw [5, 11] (fun s i wr => ∃ k : Nat, k ≤ ls.length ∧ i = .int .i64 k ∧ s = .int .i64 (worthL (ls.take k) c) ∧ Below W.heap.size W wr) (fun _ i _ => ls.length - (intOf i).toNat)
  case atStart => exact ⟨0, Nat.zero_le _, rfl, rfl, Below.refl _ _⟩
  case round =>
    obtain ⟨k, hk, rfl, rfl, hbr⟩ := hrel
    have hbs := hbr.size
    by_cases hlt : k < ls.length
    · have hki : (k : Int) < (ls.length : Int) := by omega
      obtain ⟨b, off, rfl, hb2, c1, c2, c3⟩ := (HZ.out.below hbr).at hlt
      have hst := worthL_step ls c k hlt
      obtain ⟨⟨x, y, z⟩, hx⟩ : ∃ x, lnAt ls k = x := ⟨_, rfl⟩
      rw [hx] at c1 c2 c3 hst
      simp only [worthS] at c1 c2 c3 hst
      obtain ⟨S, hS⟩ : ∃ S, worthL (ls.take k) c = S := ⟨_, rfl⟩
      rw [hS] at hst ⊢
      have HST : Hid _ := hst
      clear hst hx hS
      by_cases h1 : y = c
      · have h1' : (y == c) = true := by simpa using h1
        by_cases h2 : 0 < z
        · have HV : Hid (worthL (ls.take (k + 1)) c = IntKind.i64.wrap (S + z)) := by rw [Hid, HST.out, if_pos ⟨h1, h2⟩]
          obtain ⟨T, hT⟩ : ∃ T, IntKind.i64.wrap (S + z) = T := ⟨_, rfl⟩
          rw [hT] at HV
          clear HST h1
          go_wp2
          go_roundw
          case rel => exact ⟨k + 1, by omega, by go_num, by rw [HV.out], hbr.alloc hbs _⟩
          case measure => simp [intOf]; omega
        · have HV : Hid (worthL (ls.take (k + 1)) c = S) := by rw [Hid, HST.out, if_neg (fun h => h2 h.2)]
          clear HST h1
          go_wp2
          go_roundw
          case rel => exact ⟨k + 1, by omega, by go_num, by rw [HV.out], hbr.alloc hbs _⟩
          case measure => simp [intOf]; omega
      · have h1' : (y == c) = false := by simpa using h1
        have HV : Hid (worthL (ls.take (k + 1)) c = S) := by rw [Hid, HST.out, if_neg (fun h => h1 h.1)]
        clear HST h1
        go_wp2
        go_roundw
        case rel => exact ⟨k + 1, by omega, by go_num, by rw [HV.out], hbr.alloc hbs _⟩
        case measure => simp [intOf]; omega
    · have hke : k = ls.length := by omega
      subst hke
      have hki : ¬ (ls.length : Int) < (ls.length : Int) := by omega
      rw [List.take_length]
      obtain ⟨S, hS⟩ : ∃ S, worthL ls c = S := ⟨_, rfl⟩
      rw [hS]
      have HV : Hid _ := hS
      clear hS
      go_wp2
      go_ret
      exact ⟨one_int HV.out.symm, next bW hbr⟩

end Go.Proofs.YtnimlgdackgcoaaGreatDoor
