/- Days of dates: the program's and the specification's. -/
import Derived.Test.YtohikfpceaogpaaDoorDDate
namespace Go.Proofs.YtohikfpceaogpaaDoor
open Go.RowKit

theorem dayV_bad {x : Int} (h : partsOk x = false) : dayV x = none := by unfold dayV; rw [if_neg]; rintro ⟨_, _, a, _⟩; rw [h] at a; cases a
theorem dayV_out {x : Int} (h : x < 20000101 ∨ 22991231 < x) : dayV x = none := by unfold dayV; rw [if_neg]; rintro ⟨a, b, _, _⟩; omega
theorem parts_no {x : Int} (h : x / 100 % 100 < 1 ∨ 12 < x / 100 % 100 ∨ x % 100 < 1 ∨ mlen (x / 10000) (x / 100 % 100 - 1).toNat < x % 100) : partsOk x = false := by
  unfold partsOk; exact decide_eq_false (by omega)
theorem parts_yes {x Y q : Int} {j : Nat} (hy : x / 10000 = Y) (hm : x / 100 % 100 = (j : Int) + 1) (hq : x % 100 = q) (hj : j < 12) (q1 : 1 ≤ q) (q2 : q ≤ mlen Y j) : partsOk x = true ∧ dayIs x = ystart Y + msum Y j + q - 1 := by
  unfold partsOk dayIs
  rw [hy, hm, hq, show ((j : Int) + 1 - 1).toNat = j from by omega]
  exact ⟨decide_eq_true ⟨by omega, by omega, q1, q2⟩, rfl⟩
theorem day_yes {x d : Int} (hp : partsOk x = true) (hi : dayIs x = d) (hy : 10000 ≤ x) (hd : dOk d = true) : dayV x = some d := by
  have hr : 20000101 ≤ x ∧ x ≤ 22991231 := by
    by_cases h : x < 20000101 ∨ 22991231 < x
    · have := dayIs_out hp h hy
      rw [hi, hd] at this; cases this
    · omega
  unfold dayV; rw [hi, if_pos ⟨hr.1, hr.2, hp, hd⟩]
theorem day_no {x d : Int} (hi : dayIs x = d) (hd : dOk d = false) : dayV x = none := by
  unfold dayV; rw [hi, if_neg]; rintro ⟨_, _, _, a⟩; rw [hd] at a; cases a

theorem start_all (Y : Int) (w : World) (h0 : 0 ≤ Y) (h1 : Y ≤ 1000000000000000) : ∃ S : Int, ((1 ≤ Y ∧ S = ystart Y) ∨ (Y = 0 ∧ S = -730484)) ∧ -730484 ≤ S ∧ S ≤ 400000000000000000 ∧
    Calls Tryd.prog 25 #[.int .i64 Y] w fun e w' => e = .returned (.int .i64 S) ∧ w' = w := by
  by_cases h : Y = 0
  · subst h; exact ⟨_, .inr ⟨rfl, rfl⟩, by omega, by omega, start_zero w⟩
  · have := ahead_bd (y := Y) (by omega) h1
    exact ⟨ystart Y, .inl ⟨by omega, rfl⟩, by unfold ystart; omega, by unfold ystart; omega, start_any Y w (by omega) h1⟩

theorem neg_month {x : Int} (h : x < 0) : (x.tdiv 100).tmod 100 < 1 := by
  have h1 : x.tdiv 100 ≤ 0 := by
    have := Int.neg_tdiv (-x) 100
    rw [Int.neg_neg] at this
    rw [this]
    have := Int.tdiv_nonneg (show 0 ≤ -x by omega) (show (0 : Int) ≤ 100 by omega)
    omega
  have h2 : (x.tdiv 100).tmod 100 ≤ 0 := by
    have := Int.neg_tmod (-(x.tdiv 100)) 100
    rw [Int.neg_neg] at this
    rw [this]
    have := Int.tmod_nonneg 100 (show 0 ≤ -(x.tdiv 100) by omega)
    omega
  omega

set_option maxHeartbeats 1000000 in
theorem iDayOf_any (x : Int) (w : World) (ht : MonthTab w) (hw : (Lit.int .i64 x).wf = true) :
    Calls Tryd.prog 13 #[.int .i64 x] w fun e w' => e = .returned (.tuple #[.int .i64 ((dayV x).getD 0), .bool (dayV x).isSome]) ∧ w' = w := by
  have hwb : -9223372036854775808 ≤ x ∧ x ≤ 9223372036854775807 := by simpa [Lit.wf, IntKind.min, IntKind.max, IntKind.signed, IntKind.bits] using hw
  have HT : Hid (MonthTab w) := ht
  clear ht hw
  by_cases hx : x < 0
  · have HN : Hid _ := dayV_out (x := x) (.inl (by omega))
    have hm := neg_month hx
    go_enter Tryd.func13, Tryd.ntmps13
    go_wp2
    go_ret2
    exact ⟨two_eq (by rw [HN.out]; rfl) (by rw [HN.out]; rfl), rfl⟩
  · obtain ⟨Y, hY⟩ : ∃ Y, x / 10000 = Y := ⟨_, rfl⟩
    obtain ⟨M, hM⟩ : ∃ M, x / 100 % 100 = M := ⟨_, rfl⟩
    obtain ⟨q, hq⟩ : ∃ q, x % 100 = q := ⟨_, rfl⟩
    have hY0 : 0 ≤ Y := by omega
    have hY1 : Y ≤ 1000000000000000 := by omega
    have hM0 : 0 ≤ M := by omega
    have hM1 : M ≤ 99 := by omega
    have hq0 : 0 ≤ q := by omega
    have hq1 : q ≤ 99 := by omega
    have hxn : 0 ≤ x := by omega
    by_cases b1 : M < 1
    · have HN : Hid _ := dayV_bad (parts_no (x := x) (.inl (by omega)))
      go_enter Tryd.func13, Tryd.ntmps13
      go_wp2
      go_ret2
      exact ⟨two_eq (by rw [HN.out]; rfl) (by rw [HN.out]; rfl), rfl⟩
    · by_cases b2 : 12 < M
      · have HN : Hid _ := dayV_bad (parts_no (x := x) (.inr (.inl (by omega))))
        go_enter Tryd.func13, Tryd.ntmps13
        go_wp2
        go_ret2
        exact ⟨two_eq (by rw [HN.out]; rfl) (by rw [HN.out]; rfl), rfl⟩
      · by_cases b3 : q < 1
        · have HN : Hid _ := dayV_bad (parts_no (x := x) (.inr (.inr (.inl (by omega)))))
          go_enter Tryd.func13, Tryd.ntmps13
          go_wp2
          go_ret2
          exact ⟨two_eq (by rw [HN.out]; rfl) (by rw [HN.out]; rfl), rfl⟩
        · obtain ⟨j, hj⟩ : ∃ j : Nat, M = (j : Int) + 1 := ⟨(M - 1).toNat, by omega⟩
          subst hj
          have hj12 : j < 12 := by omega
          have hmb := mlen_bd Y j hj12
          by_cases b4 : mlen Y j < q
          · have HN : Hid _ := dayV_bad (parts_no (x := x) (.inr (.inr (.inr (by rw [hY, hM, show ((j : Int) + 1 - 1).toNat = j from by omega]; omega)))))
            go_enter Tryd.func13, Tryd.ntmps13
            go_wp2_with fail
            refine (iMonth_any _ _ _ hY0 hj12 HT.out).mono ?_
            rintro e w' ⟨rfl, hw⟩
            subst hw
            go_wp2
            go_ret2
            exact ⟨two_eq (by rw [HN.out]; rfl) (by rw [HN.out]; rfl), rfl⟩
          · obtain ⟨hp, hi⟩ := parts_yes hY hM hq hj12 (by omega) (by omega)
            obtain ⟨S, hS, S0, S1, hcall⟩ := start_all Y w hY0 hY1
            have HP : Hid _ := hp
            have HI : Hid _ := hi
            have HS : Hid _ := hS
            have HC : Hid _ := hcall
            have HYX : Hid (1 ≤ Y → 10000 ≤ x) := fun h => by omega
            have HY0 : Hid (Y = 0 → dayV x = none) := fun h => dayV_out (.inl (by omega))
            clear hp hi hS hcall
            go_enter Tryd.func13, Tryd.ntmps13
            go_wp2_with fail
            refine (iMonth_any _ _ _ hY0 hj12 HT.out).mono ?_
            rintro e w' ⟨rfl, hw⟩
            subst hw
            go_wp2_with fail
            refine Calls.mono HC.out ?_
            rintro e w' ⟨rfl, hw⟩
            subst hw
            go_wp2
            go_loop [7, 8] (fun p s => ∃ i : Nat, i ≤ j ∧ s = .int .i64 ((i : Int) + 1) ∧ p = .int .i64 (S + q - 1 + msum Y i)) (fun _ s => (13 - intOf s).toNat)
            case atStart => exact ⟨0, Nat.zero_le _, rfl, by simp [msum]⟩
            case round =>
              obtain ⟨i, hij, rfl, rfl⟩ := hrel
              have hsb := msum_bd Y (k := i) (by omega)
              obtain ⟨s, hs⟩ : ∃ s, msum Y i = s := ⟨_, rfl⟩
              rw [hs] at hsb ⊢
              have HSM : Hid _ := hs
              clear hs
              by_cases hlt : i < j
              · have hi12 : i < 12 := by omega
                have hlti : (i : Int) + 1 < (j : Int) + 1 := by omega
                have hmi := mlen_bd Y i hi12
                go_wp2_with fail
                refine (iMonth_any _ _ _ hY0 hi12 HT.out).mono ?_
                rintro e w' ⟨rfl, hw⟩
                subst hw
                go_wp2
                go_round
                case rel => exact ⟨i + 1, by omega, val_int (by omega), val_int (by rw [msum, HSM.out]; omega)⟩
                case measure => simp [intOf]; omega
              · have hije : i = j := by omega
                subst hije
                have hlti : ¬ (i : Int) + 1 < (i : Int) + 1 := by omega
                obtain ⟨d, hd⟩ : ∃ d, S + q - 1 + s = d := ⟨_, rfl⟩
                rw [hd]
                have HD : Hid (1 ≤ Y → dayIs x = d) := fun h => by
                  rcases HS.out with ⟨_, e⟩ | ⟨e, _⟩
                  · rw [HI.out, HSM.out, ← e]; omega
                  · omega
                have HZ : Hid (Y = 0 → d < 0) := fun h => by
                  rcases HS.out with ⟨e, _⟩ | ⟨_, e⟩
                  · omega
                  · omega
                clear hd
                cases hdk : dOk d
                · have HN : Hid (dayV x = none) := by
                    rw [Hid]
                    by_cases h : Y = 0
                    · exact HY0.out h
                    · exact day_no (HD.out (by omega)) hdk
                  go_wp2_with fail
                  refine (iDayOk_any _ _).mono ?_
                  rintro e w' ⟨rfl, hw⟩
                  subst hw
                  go_wp2
                  go_ret2
                  exact ⟨two_eq (by rw [HN.out]; rfl) (by rw [HN.out]; rfl), rfl⟩
                · have hY1' : 1 ≤ Y := by
                    rcases (show Y = 0 ∨ 1 ≤ Y from by omega) with h | h
                    · have := HZ.out h; have := dOk_bd hdk; omega
                    · exact h
                  have HN : Hid (dayV x = some d) := day_yes HP.out (HD.out hY1') (HYX.out hY1') hdk
                  go_wp2_with fail
                  refine (iDayOk_any _ _).mono ?_
                  rintro e w' ⟨rfl, hw⟩
                  subst hw
                  go_wp2
                  go_ret2
                  exact ⟨two_eq (by rw [HN.out]; rfl) (by rw [HN.out]; rfl), rfl⟩

set_option maxHeartbeats 1000000 in
theorem sDayOf_any (x : Int) (w : World) :
    Calls Tryd.prog 14 #[.int .i64 x] w fun e w' => e = .returned (.tuple #[.int .i64 ((dayV x).getD 0), .bool (dayV x).isSome]) ∧ Below w.heap.size w w' := by
  by_cases hr : x < 20000101 ∨ 22991231 < x
  · have HN : Hid _ := dayV_out hr
    have hin := inB_neg hr
    go_enter Tryd.func14, Tryd.ntmps14
    go_wp2_with fail
    refine (in_any _ _ _ _).mono ?_
    rintro e w' ⟨rfl, hw⟩
    subst hw
    rw [hin]
    go_wp2
    go_ret2
    exact ⟨two_eq (by rw [HN.out]; rfl) (by rw [HN.out]; rfl), Below.refl _ _⟩
  · have hin : inB x 20000101 22991231 = true := inB_pos (by omega) (by omega)
    obtain ⟨Y, hY⟩ : ∃ Y, x / 10000 = Y := ⟨_, rfl⟩
    obtain ⟨M, hM⟩ : ∃ M, x / 100 % 100 = M := ⟨_, rfl⟩
    obtain ⟨q, hq⟩ : ∃ q, x % 100 = q := ⟨_, rfl⟩
    have hY0 : 2000 ≤ Y := by omega
    have hY1 : Y ≤ 2299 := by omega
    have hM0 : 0 ≤ M := by omega
    have hM1 : M ≤ 99 := by omega
    have hq0 : 0 ≤ q := by omega
    have hq1 : q ≤ 99 := by omega
    have hxn : 20000101 ≤ x := by omega
    have hxm : x ≤ 22991231 := by omega
    by_cases b1 : M < 1 ∨ 12 < M
    · have HN : Hid _ := dayV_bad (parts_no (x := x) (by omega))
      have hin2 := inB_neg b1
      clear hr
      go_enter Tryd.func14, Tryd.ntmps14
      go_wp2_with fail
      refine (in_any _ _ _ _).mono ?_
      rintro e w' ⟨rfl, hw⟩
      subst hw
      rw [hin]
      go_wp2_with fail
      refine (in_any _ _ _ _).mono ?_
      rintro e w' ⟨rfl, hw⟩
      subst hw
      rw [hin2]
      go_wp2
      go_ret2
      exact ⟨two_eq (by rw [HN.out]; rfl) (by rw [HN.out]; rfl), Below.refl _ _⟩
    · obtain ⟨j, hj⟩ : ∃ j : Nat, M = (j : Int) + 1 := ⟨(M - 1).toNat, by omega⟩
      subst hj
      have hj12 : j < 12 := by omega
      have hin2 : inB ((j : Int) + 1) 1 12 = true := inB_pos (by omega) (by omega)
      have hmb := mlen_bd Y j hj12
      clear hr b1
      by_cases b3 : q < 1 ∨ mlen Y j < q
      · have HN : Hid (dayV x = none) := dayV_bad (parts_no (x := x) (by rw [hY, hM, hq, show ((j : Int) + 1 - 1).toNat = j from by omega]; omega))
        have hin3 := inB_neg b3
        go_enter Tryd.func14, Tryd.ntmps14
        go_wp2_with fail
        refine (in_any _ _ _ _).mono ?_
        rintro e w' ⟨rfl, hw⟩
        subst hw
        rw [hin]
        go_wp2_with fail
        refine (in_any _ _ _ _).mono ?_
        rintro e w' ⟨rfl, hw⟩
        subst hw
        rw [hin2]
        go_wp2_with fail
        refine (sMonth_any _ _ _ (by omega) hj12).mono ?_
        rintro e w1 ⟨rfl, b1⟩
        go_wp2_with fail
        refine (in_any _ _ _ _).mono ?_
        rintro e w2 ⟨rfl, hw⟩
        subst hw
        rw [hin3]
        go_wp2
        go_ret2
        exact ⟨two_eq (by rw [HN.out]; rfl) (by rw [HN.out]; rfl), b1⟩
      · have hin3 : inB q 1 (mlen Y j) = true := inB_pos (by omega) (by omega)
        obtain ⟨hp, hi⟩ := parts_yes hY hM hq hj12 (by omega) (by omega)
        have HP : Hid _ := hp
        have HI : Hid _ := hi
        clear hp hi
        go_enter Tryd.func14, Tryd.ntmps14
        go_wp2_with fail
        refine (in_any _ _ _ _).mono ?_
        rintro e w' ⟨rfl, hw⟩
        subst hw
        rw [hin]
        go_wp2_with fail
        refine (in_any _ _ _ _).mono ?_
        rintro e w' ⟨rfl, hw⟩
        subst hw
        rw [hin2]
        go_wp2_with fail
        refine (sMonth_any _ _ _ (by omega) hj12).mono ?_
        rintro e w1 ⟨rfl, b1⟩
        go_wp2_with fail
        refine (in_any _ _ _ _).mono ?_
        rintro e w2 ⟨rfl, hw⟩
        subst hw
        rw [hin3]
        clear hin hin2 hin3
        go_wp2
        go_loop [7, 8] (fun p s => ∃ i : Int, 2000 ≤ i ∧ i ≤ Y ∧ s = .int .i64 i ∧ p = .int .i64 (q - 1 + ystart i)) (fun _ s => (3000 - intOf s).toNat)
        case atStart => exact ⟨2000, by omega, by omega, rfl, val_int (by rw [ystart_2000]; omega)⟩
        case round =>
          obtain ⟨i, hi0, hi1, rfl, rfl⟩ := hrel
          have hub := ystart_up hi0
          have hub2 := ystart_mono (show i ≤ 2300 by omega)
          have h23 : ystart 2300 = 109573 := by decide
          rw [h23] at hub2
          obtain ⟨s, hs⟩ : ∃ s, ystart i = s := ⟨_, rfl⟩
          rw [hs] at hub hub2 ⊢
          have HSM : Hid _ := hs
          clear hs h23
          by_cases hlt : i < Y
          · have hyb := ylen_bd i
            have HNX : Hid _ := ystart_next i
            go_wp2_with fail
            refine (sYear_any _ _ (by omega)).mono ?_
            rintro e w' ⟨rfl, hw⟩
            subst hw
            go_wp2
            go_round
            case rel => exact ⟨i + 1, by omega, by omega, rfl, val_int (by rw [HNX.out, HSM.out]; omega)⟩
            case measure => simp [intOf]; omega
          · have hiY : i = Y := by omega
            subst hiY
            have hlti : ¬ i < i := by omega
            go_wp2
            go_loopw [7, 9] (fun p t wr => ∃ k : Nat, k ≤ j ∧ t = .int .i64 ((k : Int) + 1) ∧ p = .int .i64 (q - 1 + s + msum i k) ∧ Below w'.heap.size w' wr) (fun _ t _ => (13 - intOf t).toNat)
            case atStart => exact ⟨0, Nat.zero_le _, rfl, by simp [msum], b1⟩
            case round =>
              obtain ⟨k, hkj, rfl, rfl, hbr⟩ := hrel
              have hsb := msum_bd i (k := k) (by omega)
              obtain ⟨ms, hms⟩ : ∃ ms, msum i k = ms := ⟨_, rfl⟩
              rw [hms] at hsb ⊢
              have HMS : Hid _ := hms
              clear hms
              by_cases hlt2 : k < j
              · have hk12 : k < 12 := by omega
                have hltk : (k : Int) + 1 < (j : Int) + 1 := by omega
                have hmi := mlen_bd i k hk12
                go_wp2_with fail
                refine (sMonth_any _ _ _ (by omega) hk12).mono ?_
                rintro e u1 ⟨rfl, c1⟩
                have B1 := next hbr c1
                clear c1
                go_wp2
                go_roundw
                case rel => exact ⟨k + 1, by omega, val_int (by omega), val_int (by rw [msum, HMS.out]; omega), B1⟩
                case measure => simp [intOf]; omega
              · have hkje : k = j := by omega
                subst hkje
                have hltk : ¬ (k : Int) + 1 < (k : Int) + 1 := by omega
                obtain ⟨d, hd⟩ : ∃ d, q - 1 + s + ms = d := ⟨_, rfl⟩
                rw [hd]
                have HD : Hid (dayIs x = d) := by rw [Hid, HI.out, HSM.out, HMS.out]; omega
                clear hd
                cases hdk : dOk d
                · have HN : Hid (dayV x = none) := day_no HD.out hdk
                  go_wp2_with fail
                  refine (sDayOk_any _ _).mono ?_
                  rintro e u1 ⟨rfl, hw⟩
                  subst hw
                  go_wp2
                  go_ret2
                  exact ⟨two_eq (by rw [HN.out]; rfl) (by rw [HN.out]; rfl), hbr⟩
                · have HN : Hid (dayV x = some d) := day_yes HP.out HD.out (by omega) hdk
                  go_wp2_with fail
                  refine (sDayOk_any _ _).mono ?_
                  rintro e u1 ⟨rfl, hw⟩
                  subst hw
                  go_wp2
                  go_ret2
                  exact ⟨two_eq (by rw [HN.out]; rfl) (by rw [HN.out]; rfl), hbr⟩

end Go.Proofs.YtohikfpceaogpaaDoor
