/- The contracts of the calendar: years, months, dates of days and days of dates; the program's and the specification's. -/
import Derived.Test.YtddffpihacolkaaDoorDLeaf
import Derived.Test.YtddffpihacolkaaDoorBase
import Derived.Lib.LaidTab
import Derived.Lib.AppendIntMem
namespace Go.Proofs.YtddffpihacolkaaDoor
open Go.RowKit

/-- the table of the months' days holds them -/
def MonthTab (w : World) : Prop := Lib.TabIs Tryd.prog w "loop.example/g00126/impl.monthDays" .i64 mdays
theorem MonthTab.below {w w' : World} (h : MonthTab w) (hb : Below w.heap.size w w') : MonthTab w' := Lib.tabBelow_of_tabIs h w' hb
theorem MonthTab.cell {w : World} (h : MonthTab w) (i : Nat) (hi : i < 12) : w.cell? ⟨1, i, none⟩ = some (.int .i64 (mdays.getD i 0)) :=
  Lib.TabIs.cell h (by kernel_rfl) i hi

theorem mod_cases (y : Int) (n : Int) : ((y % n == 0) = true ∧ (y % n != 0) = false ∧ y % n = 0) ∨ ((y % n == 0) = false ∧ (y % n != 0) = true ∧ y % n ≠ 0) := by
  by_cases h : y % n = 0
  · exact .inl ⟨by simpa using h, by simpa using h, h⟩
  · exact .inr ⟨by simpa using h, by simpa using h, h⟩

set_option maxHeartbeats 800000 in
theorem leap_any (y : Int) (w : World) (h0 : 0 ≤ y) :
    Calls Tryd.prog 56 #[.int .i64 y] w fun e w' => e = .returned (.bool (leap y)) ∧ w' = w := by
  rcases mod_cases y 4 with ⟨b4, c4, m4⟩ | ⟨b4, c4, m4⟩
  · rcases mod_cases y 100 with ⟨b1, c1, m1⟩ | ⟨b1, c1, m1⟩
    · rcases mod_cases y 400 with ⟨b5, c5, m5⟩ | ⟨b5, c5, m5⟩
      · have HL : Hid _ := leap_yes m4 (.inr m5)
        clear m4 m1 m5
        go_enter Tryd.func56, Tryd.ntmps56
        go_wp2
        go_ret
        first | exact ⟨one_bool HL.out.symm, rfl⟩ | exact ⟨one_bool (by rw [HL.out]; simp_all), rfl⟩
      · have HL : Hid _ := leap_no (.inr ⟨m1, m5⟩)
        clear m4 m1 m5
        go_enter Tryd.func56, Tryd.ntmps56
        go_wp2
        go_ret
        first | exact ⟨one_bool HL.out.symm, rfl⟩ | exact ⟨one_bool (by rw [HL.out]; simp_all), rfl⟩
    · have HL : Hid _ := leap_yes m4 (.inl m1)
      clear m4 m1
      go_enter Tryd.func56, Tryd.ntmps56
      go_wp2
      go_ret
      first | exact ⟨one_bool HL.out.symm, rfl⟩ | exact ⟨one_bool (by rw [HL.out]; simp_all), rfl⟩
  · have HL : Hid _ := leap_no (.inl m4)
    clear m4
    go_enter Tryd.func56, Tryd.ntmps56
    go_wp2
    go_ret
    first | exact ⟨one_bool HL.out.symm, rfl⟩ | exact ⟨one_bool (by rw [HL.out]; simp_all), rfl⟩

theorem ylen_yes {y : Int} (h : leap y = true) : ylen y = 366 := by unfold ylen; rw [if_pos h]
theorem ylen_no {y : Int} (h : leap y = false) : ylen y = 365 := by unfold ylen; rw [h, if_neg (by decide)]

set_option maxHeartbeats 800000 in
theorem sYear_any (y : Int) (w : World) (h0 : 0 ≤ y) :
    Calls Tryd.prog 40 #[.int .i64 y] w fun e w' => e = .returned (.int .i64 (ylen y)) ∧ w' = w := by
  rcases mod_cases y 4 with ⟨b4, c4, m4⟩ | ⟨b4, c4, m4⟩
  · rcases mod_cases y 100 with ⟨b1, c1, m1⟩ | ⟨b1, c1, m1⟩
    · rcases mod_cases y 400 with ⟨b5, c5, m5⟩ | ⟨b5, c5, m5⟩
      · have HL : Hid _ := ylen_yes (leap_yes m4 (.inr m5))
        clear m4 m1 m5
        go_enter Tryd.func40, Tryd.ntmps40
        go_wp2
        all_goals go_ret
        all_goals exact ⟨one_int (by rw [HL.out]), rfl⟩
      · have HL : Hid _ := ylen_no (leap_no (.inr ⟨m1, m5⟩))
        clear m4 m1 m5
        go_enter Tryd.func40, Tryd.ntmps40
        go_wp2
        all_goals go_ret
        all_goals exact ⟨one_int (by rw [HL.out]), rfl⟩
    · have HL : Hid _ := ylen_yes (leap_yes m4 (.inl m1))
      clear m4 m1
      go_enter Tryd.func40, Tryd.ntmps40
      go_wp2
      all_goals go_ret
      all_goals exact ⟨one_int (by rw [HL.out]), rfl⟩
  · have HL : Hid _ := ylen_no (leap_no (.inl m4))
    clear m4
    go_enter Tryd.func40, Tryd.ntmps40
    go_wp2
    all_goals go_ret
    all_goals exact ⟨one_int (by rw [HL.out]), rfl⟩

theorem mlen_two {y : Int} (h : leap y = true) : mlen y 1 = 29 := by unfold mlen; rw [if_pos ⟨rfl, h⟩]
theorem mlen_two' {y : Int} (h : leap y = false) : mlen y 1 = 28 := by unfold mlen; rw [if_neg (by rw [h]; simp)]; rfl
theorem mlen_else {y : Int} {k : Nat} (h : k ≠ 1) : mlen y k = mdays.getD k 0 := by unfold mlen; rw [if_neg (fun hh => h hh.1)]

set_option maxHeartbeats 800000 in
theorem iMonth_any (y : Int) (k : Nat) (w : World) (h0 : 0 ≤ y) (hk : k < 12) (ht : MonthTab w) :
    Calls Tryd.prog 47 #[.int .i64 y, .int .i64 ((k : Int) + 1)] w fun e w' => e = .returned (.int .i64 (mlen y k)) ∧ w' = w := by
  by_cases h1 : k = 1
  · subst h1
    have hc : w.cell? ⟨1, 1, none⟩ = some (.int .i64 28) := ht.cell 1 (by omega)
    have HT : Hid _ := ht
    clear ht
    cases hl : leap y
    · have HL : Hid _ := mlen_two' hl
      go_enter Tryd.func47, Tryd.ntmps47
      go_wp2_with (go_at_call 56; refine (leap_any _ _ h0).mono ?_; rintro e w' ⟨rfl, rfl⟩)
      go_ret
      exact ⟨one_int (by rw [HL.out]), rfl⟩
    · have HL : Hid _ := mlen_two hl
      go_enter Tryd.func47, Tryd.ntmps47
      go_wp2_with (go_at_call 56; refine (leap_any _ _ h0).mono ?_; rintro e w' ⟨rfl, rfl⟩)
      go_ret
      exact ⟨one_int (by rw [HL.out]), rfl⟩
  · have hc := ht.cell k hk
    have HL : Hid _ := mlen_else (y := y) h1
    obtain ⟨v, hv⟩ : ∃ v, mdays.getD k 0 = v := ⟨_, rfl⟩
    rw [hv] at hc
    have HV : Hid _ := hv
    have hne : ((k : Int) + 1 == 2) = false := by simp; omega
    clear ht hv
    go_enter Tryd.func47, Tryd.ntmps47
    go_wp2_with fail
    go_ret
    exact ⟨one_int (by rw [HL.out, HV.out]), rfl⟩

theorem cell_mdays (w : World) (k : Nat) (hk : k < 12) (arr : Array Value) (h : arr = (mdays.map (Value.int .i64)).toArray) : (w.alloc (.cells arr 3)).cell? ⟨w.heap.size, k, none⟩ = some (.int .i64 (mdays.getD k 0)) := by
  subst h
  have : k < mdays.length := hk
  simp [List.getD_eq_getElem?_getD, this]

set_option maxHeartbeats 800000 in
theorem sMonth_any (y : Int) (k : Nat) (w : World) (h0 : 0 ≤ y) (hk : k < 12) :
    Calls Tryd.prog 41 #[.int .i64 y, .int .i64 ((k : Int) + 1)] w fun e w' => e = .returned (.int .i64 (mlen y k)) ∧ Below w.heap.size w w' := by
  have HB : Hid (Below w.heap.size w (w.alloc (.cells #[.int .i64 31, .int .i64 28, .int .i64 31, .int .i64 30, .int .i64 31, .int .i64 30, .int .i64 31, .int .i64 31, .int .i64 30, .int .i64 31, .int .i64 30, .int .i64 31] 3))) := (Below.refl _ _).alloc (Nat.le_refl _) _
  by_cases h1 : k = 1
  · subst h1
    have HL : Hid (ylen y - 337 = mlen y 1) := by
      cases hl : leap y
      · rw [Hid, ylen_no hl, mlen_two' hl]; rfl
      · rw [Hid, ylen_yes hl, mlen_two hl]; rfl
    have hyb := ylen_bd y
    go_enter Tryd.func41, Tryd.ntmps41
    go_wp2_with (go_at_call 40; refine (sYear_any _ _ h0).mono ?_; rintro e w' ⟨rfl, rfl⟩)
    go_ret
    exact ⟨one_int HL.out, HB.out⟩
  · have hc := cell_mdays w k hk #[.int .i64 31, .int .i64 28, .int .i64 31, .int .i64 30, .int .i64 31, .int .i64 30, .int .i64 31, .int .i64 31, .int .i64 30, .int .i64 31, .int .i64 30, .int .i64 31] rfl
    have HL : Hid _ := mlen_else (y := y) h1
    obtain ⟨v, hv⟩ : ∃ v, mdays.getD k 0 = v := ⟨_, rfl⟩
    rw [hv] at hc
    have HV : Hid _ := hv
    have hne : ((k : Int) + 1 == 2) = false := by simp; omega
    clear hv
    go_enter Tryd.func41, Tryd.ntmps41
    go_wp2
    go_ret
    exact ⟨one_int (by rw [HL.out, HV.out]), HB.out⟩

set_option maxHeartbeats 800000 in
theorem ahead_any (y : Int) (w : World) (h0 : 1 ≤ y) (h1 : y ≤ 1000000000000000) :
    Calls Tryd.prog 55 #[.int .i64 y] w fun e w' => e = .returned (.int .i64 (ahead y)) ∧ w' = w := by
  go_enter Tryd.func55, Tryd.ntmps55
  go_wp2
  go_ret
  exact ⟨one_int (by unfold ahead; omega), rfl⟩
theorem ahead_bd {y : Int} (h0 : 1 ≤ y) (h1 : y ≤ 1000000000000000) : 0 ≤ ahead y ∧ ahead y ≤ 400000000000000000 := by unfold ahead; omega

set_option maxHeartbeats 800000 in
theorem ahead_zero (w : World) :
    Calls Tryd.prog 55 #[.int .i64 0] w fun e w' => e = .returned (.int .i64 (-365)) ∧ w' = w := by
  go_enter Tryd.func55, Tryd.ntmps55
  go_wp2
  go_ret
  exact ⟨one_int (by decide), rfl⟩

theorem ahead_2000 : ahead 2000 = 730119 := by decide

set_option maxHeartbeats 800000 in
theorem start_any (y : Int) (w : World) (h0 : 1 ≤ y) (h1 : y ≤ 1000000000000000) :
    Calls Tryd.prog 46 #[.int .i64 y] w fun e w' => e = .returned (.int .i64 (ystart y)) ∧ w' = w := by
  have hb := ahead_bd h0 h1
  go_enter Tryd.func46, Tryd.ntmps46
  go_wp2_with fail
  refine (ahead_any _ _ h0 h1).mono ?_
  rintro e w' ⟨rfl, hw⟩
  subst hw
  go_wp2_with fail
  refine (ahead_any _ _ (by omega) (by omega)).mono ?_
  rintro e w' ⟨rfl, hw⟩
  subst hw
  rw [ahead_2000]
  go_wp2
  go_ret
  exact ⟨one_int rfl, rfl⟩
set_option maxHeartbeats 800000 in
theorem start_zero (w : World) :
    Calls Tryd.prog 46 #[.int .i64 0] w fun e w' => e = .returned (.int .i64 (-730484)) ∧ w' = w := by
  go_enter Tryd.func46, Tryd.ntmps46
  go_wp2_with fail
  refine (ahead_zero _).mono ?_
  rintro e w' ⟨rfl, hw⟩
  subst hw
  go_wp2_with fail
  refine (ahead_any _ _ (by omega) (by omega)).mono ?_
  rintro e w' ⟨rfl, hw⟩
  subst hw
  rw [ahead_2000]
  go_wp2
  go_ret
  exact ⟨one_int (by decide), rfl⟩

end Go.Proofs.YtddffpihacolkaaDoor
