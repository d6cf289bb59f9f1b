/- The contracts of the small functions of chapter 2 (days): what each returns for every argument. -/
import Derived.Test.YtcglkfhphinfaaaDoorAid
import Derived.Test.YtcglkfhphinfaaaDoorCal
import Derived.Test.YtcglkfhphinfaaaDoorLeaf
namespace Go.Proofs.YtcglkfhphinfaaaDoor
open Go.RowKit

theorem inB_pos {x a b : Int} (h : a ≤ x) (g : x ≤ b) : inB x a b = true := by simp [inB, h, g]
theorem inB_neg {x a b : Int} (h : x < a ∨ b < x) : inB x a b = false := by simp [inB]; omega

set_option maxHeartbeats 400000 in
theorem sDayOk_any (x : Int) (w : World) :
    Calls Tryd.prog 44 #[.int .i64 x] w fun e w' => e = .returned (.bool (dOk x)) ∧ w' = w := by
  go_enter Tryd.func44, Tryd.ntmps44
  go_wp2_with (go_at_call 42; refine (in_any _ _ _ _).mono ?_; rintro e w' ⟨rfl, rfl⟩)
  go_ret
  exact ⟨rfl, rfl⟩

set_option maxHeartbeats 400000 in
theorem iDayOk_any (x : Int) (w : World) :
    Calls Tryd.prog 54 #[.int .i64 x] w fun e w' => e = .returned (.bool (dOk x)) ∧ w' = w := by
  by_cases h1 : 0 ≤ x
  · by_cases h2 : x ≤ 80000
    · go_enter Tryd.func54, Tryd.ntmps54
      go_wp2
      go_ret
      exact ⟨by simp [dOk, h1, h2], rfl⟩
    · go_enter Tryd.func54, Tryd.ntmps54
      go_wp2
      go_ret
      exact ⟨by simp [dOk, h1, h2], rfl⟩
  · go_enter Tryd.func54, Tryd.ntmps54
    go_wp2
    go_ret
    exact ⟨by simp [dOk]; omega, rfl⟩

/-- the day of the week -/
def wdV (d : Int) : Int := if dOk d = true then (d + 5) % 7 else -1
theorem wdV_yes {d : Int} (h : dOk d = true) : wdV d = (d + 5) % 7 := if_pos h
theorem wdV_no {d : Int} (h : dOk d = false) : wdV d = -1 := if_neg (by rw [h]; decide)

set_option maxHeartbeats 400000 in
theorem sWeekDay_any (x : Int) (w : World) :
    Calls Tryd.prog 113 #[.int .i64 x] w fun e w' => e = .returned (.int .i64 (wdV x)) ∧ w' = w := by
  cases h : dOk x
  · have HV : Hid _ := wdV_no h
    go_enter Tryd.func113, Tryd.ntmps113
    go_wp2_with (go_at_call 44; refine (sDayOk_any _ _).mono ?_; rintro e w' ⟨rfl, rfl⟩)
    go_ret
    exact ⟨one_int HV.out.symm, rfl⟩
  · have HV : Hid _ := wdV_yes h
    have hb := dOk_bd h
    go_enter Tryd.func113, Tryd.ntmps113
    go_wp2_with (go_at_call 44; refine (sDayOk_any _ _).mono ?_; rintro e w' ⟨rfl, rfl⟩)
    go_ret
    exact ⟨one_int HV.out.symm, rfl⟩

set_option maxHeartbeats 400000 in
theorem iWeekDay_any (x : Int) (w : World) :
    Calls Tryd.prog 111 #[.int .i64 x] w fun e w' => e = .returned (.int .i64 (wdV x)) ∧ w' = w := by
  cases h : dOk x
  · have HV : Hid _ := wdV_no h
    go_enter Tryd.func111, Tryd.ntmps111
    go_wp2_with (go_at_call 54; refine (iDayOk_any _ _).mono ?_; rintro e w' ⟨rfl, rfl⟩)
    go_ret
    exact ⟨one_int HV.out.symm, rfl⟩
  · have HV : Hid _ := wdV_yes h
    have hb := dOk_bd h
    go_enter Tryd.func111, Tryd.ntmps111
    go_wp2_with (go_at_call 54; refine (iDayOk_any _ _).mono ?_; rintro e w' ⟨rfl, rfl⟩)
    go_ret
    exact ⟨one_int HV.out.symm, rfl⟩

end Go.Proofs.YtcglkfhphinfaaaDoor
