/- Dates of days, days of dates: the program's and the specification's. -/
import Derived.Test.YtddffpihacolkaaDoorDCal
namespace Go.Proofs.YtddffpihacolkaaDoor
open Go.RowKit

theorem val_int {k : IntKind} {a b : Int} (h : a = b) : Value.int k a = Value.int k b := by rw [h]

set_option maxHeartbeats 800000 in
theorem yearOf_any (d : Int) (w : World) (hd : dOk d = true) :
    Calls Tryd.prog 45 #[.int .i64 d] w fun e w' => ∃ y : Int, e = .returned (.int .i64 y) ∧ (2000 ≤ y ∧ y ≤ 2299 ∧ ystart y ≤ d ∧ d < ystart y + ylen y) ∧ w' = w := by
  have hb := dOk_bd hd
  go_enter Tryd.func45, Tryd.ntmps45
  go_wp2
  go_loop [3] (fun p => ∃ y : Int, p = .int .i64 y ∧ 2000 ≤ y ∧ ystart y ≤ d) (fun p => (3000 - intOf p).toNat)
  case atStart => exact ⟨2000 + d / 366, rfl, by omega, by have := ystart_guess (d / 366) (by omega); omega⟩
  case round =>
    obtain ⟨y, rfl, hy, hs⟩ := hrel
    have hu := ystart_up hy
    have hu2 := ystart_up (y := y + 1) (by omega)
    have hnx := ystart_next y
    have HS : Hid _ := hs
    have HX : Hid _ := hnx
    have hyl : y ≤ 2299 := by omega
    by_cases hlt : ystart (y + 1) ≤ d
    · clear hu hu2 hs hnx
      go_wp2_with fail
      refine (start_any _ _ (by omega) (by omega)).mono ?_
      rintro e w' ⟨rfl, hw⟩
      subst hw
      have HL : Hid _ := hlt
      go_wp2
      go_round
      case rel => exact ⟨y + 1, rfl, by omega, HL.out⟩
      case measure => simp [intOf]; omega
    · have HL : Hid (d < ystart y + ylen y) := by rw [Hid]; omega
      clear hu hu2 hs hnx
      go_wp2_with fail
      refine (start_any _ _ (by omega) (by omega)).mono ?_
      rintro e w' ⟨rfl, hw⟩
      subst hw
      go_wp2
      go_ret
      exact ⟨y, rfl, ⟨hy, hyl, HS.out, HL.out⟩, rfl⟩

theorem date_eq {d y : Int} {k : Nat} {r : Int} (hd : dOk d = true) (y1 : 2000 ≤ y) (y2 : y ≤ 2299) (hk : k < 12) (r0 : 0 ≤ r) (r1 : r < mlen y k) (h : d = ystart y + msum y k + r) : dateV d = 10000 * y + 100 * (k + 1) + r + 1 :=
  dateV_yes hd ⟨y, k, r, y1, y2, hk, r0, r1, h, rfl⟩

set_option maxHeartbeats 1000000 in
theorem iDateOf_any (d : Int) (w : World) (ht : MonthTab w) :
    Calls Tryd.prog 31 #[.int .i64 d] w fun e w' => e = .returned (.int .i64 (dateV d)) ∧ w' = w := by
  have HT : Hid (MonthTab w) := ht
  clear ht
  cases hd : dOk d
  · have HN : Hid _ := dateV_no hd
    go_enter Tryd.func31, Tryd.ntmps31
    go_wp2_with (go_at_call 30; refine (iDayOk_any _ _).mono ?_; rintro e w' ⟨rfl, rfl⟩)
    go_ret
    exact ⟨one_int HN.out.symm, rfl⟩
  · have hb := dOk_bd hd
    go_enter Tryd.func31, Tryd.ntmps31
    go_wp2_with fail
    refine (iDayOk_any _ _).mono ?_
    rintro e w' ⟨rfl, hw⟩
    subst hw
    go_wp2_with fail
    refine (yearOf_any _ _ hd).mono ?_
    rintro e w' ⟨y, rfl, ⟨y1, y2, s1, s2⟩, hw⟩
    subst hw
    go_wp2_with fail
    refine (start_any _ _ (by omega) (by omega)).mono ?_
    rintro e w' ⟨rfl, hw⟩
    subst hw
    obtain ⟨S, hS⟩ : ∃ S, ystart y = S := ⟨_, rfl⟩
    rw [hS]
    rw [hS] at s1 s2
    have hS0 : 0 ≤ S := by rw [← hS]; have := ystart_up y1; omega
    have hyb := ylen_bd y
    have HS : Hid _ := hS
    clear hS
    go_wp2
    go_loop [5, 4] (fun p q => ∃ (k : Nat) (r : Int), k < 12 ∧ q = .int .i64 ((k : Int) + 1) ∧ p = .int .i64 r ∧ 0 ≤ r ∧ d - S = msum y k + r) (fun _ q => (13 - intOf q).toNat)
    case atStart => exact ⟨0, d - S, by omega, rfl, rfl, by omega, by simp [msum]⟩
    case round =>
      obtain ⟨k, r, hk, rfl, rfl, r0, hr⟩ := hrel
      have hmb := mlen_bd y k hk
      have hr2 : r ≤ 80000 := by have := (msum_bd y (k := k) (by omega)).1; omega
      by_cases hlt : mlen y k ≤ r
      · have HK : Hid (k + 1 < 12) := by
          rw [Hid]
          rcases (show k + 1 < 12 ∨ k = 11 from by omega) with h | rfl
          · exact h
          · have h12 := msum_12 y
            rw [msum] at h12
            omega
        have HR : Hid (d - S = msum y (k + 1) + (r - mlen y k)) := by rw [Hid, msum]; omega
        clear hr
        go_wp2_with fail
        refine (iMonth_any _ _ _ (by omega) hk HT.out).mono ?_
        rintro e w' ⟨rfl, hw⟩
        subst hw
        go_wp2_with fail
        refine (iMonth_any _ _ _ (by omega) hk HT.out).mono ?_
        rintro e w' ⟨rfl, hw⟩
        subst hw
        go_wp2
        go_round
        case rel => exact ⟨k + 1, r - mlen y k, HK.out, val_int (by omega), rfl, by omega, HR.out⟩
        case measure => simp [intOf]; omega
      · have hlt' : r < mlen y k := by omega
        have HV : Hid _ := date_eq hd y1 y2 hk r0 hlt' (by have := HS.out; omega)
        clear hr
        go_wp2_with fail
        refine (iMonth_any _ _ _ (by omega) hk HT.out).mono ?_
        rintro e w' ⟨rfl, hw⟩
        subst hw
        go_wp2
        go_ret
        exact ⟨one_int (by rw [HV.out]; omega), rfl⟩

set_option maxHeartbeats 1000000 in
theorem sDateOf_any (d : Int) (w : World) :
    Calls Tryd.prog 23 #[.int .i64 d] w fun e w' => e = .returned (.int .i64 (dateV d)) ∧ Below w.heap.size w w' := by
  cases hd : dOk d
  · have HN : Hid _ := dateV_no hd
    go_enter Tryd.func23, Tryd.ntmps23
    go_wp2_with (go_at_call 22; refine (sDayOk_any _ _).mono ?_; rintro e w' ⟨rfl, rfl⟩)
    go_ret
    exact ⟨one_int HN.out.symm, Below.refl _ _⟩
  · have hb := dOk_bd hd
    go_enter Tryd.func23, Tryd.ntmps23
    go_wp2_with fail
    refine (sDayOk_any _ _).mono ?_
    rintro e w' ⟨rfl, hw⟩
    subst hw
    go_wp2
    go_loop [0, 3] (fun p q => ∃ (y r : Int), q = .int .i64 y ∧ p = .int .i64 r ∧ 2000 ≤ y ∧ 0 ≤ r ∧ d = ystart y + r) (fun p _ => (intOf p).toNat)
    case atStart => exact ⟨2000, d, rfl, rfl, by omega, by omega, by rw [ystart_2000]; omega⟩
    case round =>
      obtain ⟨y, r, rfl, rfl, y1, r0, hr⟩ := hrel
      have hu := ystart_up y1
      have hyb := ylen_bd y
      have hr2 : r ≤ 80000 := by omega
      have y2 : y ≤ 2299 := by omega
      clear hu
      by_cases hlt : ylen y ≤ r
      · have HR : Hid (d = ystart (y + 1) + (r - ylen y)) := by rw [Hid, ystart_next]; omega
        clear hr
        go_wp2_with fail
        refine (sYear_any _ _ (by omega)).mono ?_
        rintro e w' ⟨rfl, hw⟩
        subst hw
        go_wp2_with fail
        refine (sYear_any _ _ (by omega)).mono ?_
        rintro e w' ⟨rfl, hw⟩
        subst hw
        go_wp2
        go_round
        case rel => exact ⟨y + 1, r - ylen y, rfl, rfl, by omega, by omega, HR.out⟩
        case measure => simp [intOf]; omega
      · have hlt' : r < ylen y := by omega
        have HD : Hid _ := hr
        clear hr
        go_wp2_with fail
        refine (sYear_any _ _ (by omega)).mono ?_
        rintro e w' ⟨rfl, hw⟩
        subst hw
        go_wp2
        go_loopw [0, 4] (fun p q wr => ∃ (k : Nat) (s : Int), k < 12 ∧ q = .int .i64 ((k : Int) + 1) ∧ p = .int .i64 s ∧ 0 ≤ s ∧ r = msum y k + s ∧ Below w'.heap.size w' wr) (fun _ q _ => (13 - intOf q).toNat)
        case atStart => exact ⟨0, r, by omega, rfl, rfl, r0, by simp [msum], Below.refl _ _⟩
        case round =>
          obtain ⟨k, s, hk, rfl, rfl, s0, hs, hbr⟩ := hrel
          have hmb := mlen_bd y k hk
          have hs2 : s ≤ 80000 := by have := (msum_bd y (k := k) (by omega)).1; omega
          by_cases hlt2 : mlen y k ≤ s
          · have HK : Hid (k + 1 < 12) := by
              rw [Hid]
              rcases (show k + 1 < 12 ∨ k = 11 from by omega) with h | rfl
              · exact h
              · have h12 := msum_12 y
                rw [msum] at h12
                omega
            have HR : Hid (r = msum y (k + 1) + (s - mlen y k)) := by rw [Hid, msum]; omega
            clear hs
            go_wp2_with fail
            refine (sMonth_any _ _ _ (by omega) hk).mono ?_
            rintro e u1 ⟨rfl, b1⟩
            have B1 := next hbr b1
            clear b1
            go_wp2_with fail
            refine (sMonth_any _ _ _ (by omega) hk).mono ?_
            rintro e u2 ⟨rfl, b2⟩
            have B2 := next B1 b2
            clear b2 B1
            go_wp2
            go_roundw
            case rel => exact ⟨k + 1, s - mlen y k, HK.out, val_int (by omega), rfl, by omega, HR.out, B2⟩
            case measure => simp [intOf]; omega
          · have hlt3 : s < mlen y k := by omega
            have HV : Hid _ := date_eq hd y1 y2 hk s0 hlt3 (by have := HD.out; omega)
            clear hs
            go_wp2_with fail
            refine (sMonth_any _ _ _ (by omega) hk).mono ?_
            rintro e u1 ⟨rfl, b1⟩
            have B1 := next hbr b1
            go_wp2
            go_ret
            exact ⟨one_int (by rw [HV.out]), B1⟩

end Go.Proofs.YtddffpihacolkaaDoor
