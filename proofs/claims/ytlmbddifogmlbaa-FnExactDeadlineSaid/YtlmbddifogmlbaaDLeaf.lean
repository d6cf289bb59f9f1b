/- The contracts of the small functions of chapter 2 (days): what each returns for every argument. -/
import Derived.Test.YtlmbddifogmlbaaAid
import Derived.Test.YtlmbddifogmlbaaCal
namespace Go.Proofs.Ytlmbddifogmlbaa
open Go.RowKit

def inB (x a b : Int) : Bool := decide (a ≤ x ∧ x ≤ b)
theorem inB_pos {x a b : Int} (h : a ≤ x) (g : x ≤ b) : inB x a b = true := by simp [inB, h, g]
theorem inB_neg {x a b : Int} (h : x < a ∨ b < x) : inB x a b = false := by simp [inB]; omega

set_option maxHeartbeats 400000 in
theorem in_any (x a b : Int) (w : World) :
    Calls Try.prog 15 #[.int .i64 x, .int .i64 a, .int .i64 b] w fun e w' => e = .returned (.bool (inB x a b)) ∧ w' = w := by
  by_cases h1 : a ≤ x
  · by_cases h2 : x ≤ b
    · go_enter Try.func15, Try.ntmps15
      go_wp2
      go_ret
      exact ⟨by simp [inB, h1, h2], rfl⟩
    · go_enter Try.func15, Try.ntmps15
      go_wp2
      go_ret
      exact ⟨by simp [inB, h1, h2], rfl⟩
  · go_enter Try.func15, Try.ntmps15
    go_wp2
    go_ret
    exact ⟨by simp [inB]; omega, rfl⟩

set_option maxHeartbeats 400000 in
theorem sDayOk_any (x : Int) (w : World) :
    Calls Try.prog 13 #[.int .i64 x] w fun e w' => e = .returned (.bool (dOk x)) ∧ w' = w := by
  go_enter Try.func13, Try.ntmps13
  go_wp2_with (go_at_call 15; refine (in_any _ _ _ _).mono ?_; rintro e w' ⟨rfl, rfl⟩)
  go_ret
  exact ⟨rfl, rfl⟩

set_option maxHeartbeats 400000 in
theorem iDayOk_any (x : Int) (w : World) :
    Calls Try.prog 14 #[.int .i64 x] w fun e w' => e = .returned (.bool (dOk x)) ∧ w' = w := by
  by_cases h1 : 0 ≤ x
  · by_cases h2 : x ≤ 80000
    · go_enter Try.func14, Try.ntmps14
      go_wp2
      go_ret
      exact ⟨by simp [dOk, h1, h2], rfl⟩
    · go_enter Try.func14, Try.ntmps14
      go_wp2
      go_ret
      exact ⟨by simp [dOk, h1, h2], rfl⟩
  · go_enter Try.func14, Try.ntmps14
    go_wp2
    go_ret
    exact ⟨by simp [dOk]; omega, rfl⟩

/-- the day of the week -/
def wdV (d : Int) : Int := if dOk d = true then (d + 5) % 7 else -1
theorem wdV_yes {d : Int} (h : dOk d = true) : wdV d = (d + 5) % 7 := if_pos h
theorem wdV_no {d : Int} (h : dOk d = false) : wdV d = -1 := if_neg (by rw [h]; decide)

set_option maxHeartbeats 400000 in
theorem sWeekDay_any (x : Int) (w : World) :
    Calls Try.prog 20 #[.int .i64 x] w fun e w' => e = .returned (.int .i64 (wdV x)) ∧ w' = w := by
  cases h : dOk x
  · have HV : Hid _ := wdV_no h
    go_enter Try.func20, Try.ntmps20
    go_wp2_with (go_at_call 13; refine (sDayOk_any _ _).mono ?_; rintro e w' ⟨rfl, rfl⟩)
    go_ret
    exact ⟨one_int HV.out.symm, rfl⟩
  · have HV : Hid _ := wdV_yes h
    have hb := dOk_bd h
    go_enter Try.func20, Try.ntmps20
    go_wp2_with (go_at_call 13; refine (sDayOk_any _ _).mono ?_; rintro e w' ⟨rfl, rfl⟩)
    go_ret
    exact ⟨one_int HV.out.symm, rfl⟩

set_option maxHeartbeats 400000 in
theorem iWeekDay_any (x : Int) (w : World) :
    Calls Try.prog 24 #[.int .i64 x] w fun e w' => e = .returned (.int .i64 (wdV x)) ∧ w' = w := by
  cases h : dOk x
  · have HV : Hid _ := wdV_no h
    go_enter Try.func24, Try.ntmps24
    go_wp2_with (go_at_call 14; refine (iDayOk_any _ _).mono ?_; rintro e w' ⟨rfl, rfl⟩)
    go_ret
    exact ⟨one_int HV.out.symm, rfl⟩
  · have HV : Hid _ := wdV_yes h
    have hb := dOk_bd h
    go_enter Try.func24, Try.ntmps24
    go_wp2_with (go_at_call 14; refine (iDayOk_any _ _).mono ?_; rintro e w' ⟨rfl, rfl⟩)
    go_ret
    exact ⟨one_int HV.out.symm, rfl⟩

end Go.Proofs.Ytlmbddifogmlbaa
