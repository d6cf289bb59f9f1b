/- Chapter 8, what hangs on days alone: Late, the program's and the specification's. -/
import Derived.Test.YtlhdpbbgmjfbkaaDLeaf
namespace Go.Proofs.Ytlhdpbbgmjfbkaa
open Go.RowKit

/-- whether today is behind due, both days -/
def lateV (t d : Int) : Bool := dOk t && dOk d && decide (d < t)
theorem lateV_no1 {t d : Int} (h : dOk t = false) : lateV t d = false := by simp [lateV, h]
theorem lateV_no2 {t d : Int} (h : dOk d = false) : lateV t d = false := by simp [lateV, h]
theorem lateV_yes {t d : Int} (h : dOk t = true) (g : dOk d = true) : lateV t d = decide (d < t) := by simp [lateV, h, g]

set_option maxHeartbeats 400000 in
theorem iLate_any (t d : Int) (w : World) :
    Calls Try.prog 47 #[.int .i64 t, .int .i64 d] w fun e w' => e = .returned (.bool (lateV t d)) ∧ w' = w := by
  cases h1 : dOk t
  · have HV : Hid _ := lateV_no1 (d := d) h1
    go_enter Try.func47, Try.ntmps47
    go_wp2_with (go_at_call 67; refine (iDayOk_any _ _).mono ?_; rintro e w' ⟨rfl, rfl⟩)
    go_ret
    exact ⟨one_bool HV.out.symm, rfl⟩
  · cases h2 : dOk d
    · have HV : Hid _ := lateV_no2 (t := t) h2
      go_enter Try.func47, Try.ntmps47
      go_wp2_with (go_at_call 67; refine (iDayOk_any _ _).mono ?_; rintro e w' ⟨rfl, rfl⟩)
      go_ret
      exact ⟨one_bool HV.out.symm, rfl⟩
    · have HV : Hid _ := lateV_yes h1 h2
      go_enter Try.func47, Try.ntmps47
      go_wp2_with (go_at_call 67; refine (iDayOk_any _ _).mono ?_; rintro e w' ⟨rfl, rfl⟩)
      go_ret
      exact ⟨one_bool HV.out.symm, rfl⟩

set_option maxHeartbeats 400000 in
theorem sLate_any (t d : Int) (w : World) :
    Calls Try.prog 45 #[.int .i64 t, .int .i64 d] w fun e w' => e = .returned (.bool (lateV t d)) ∧ w' = w := by
  cases h1 : dOk t
  · have HV : Hid _ := lateV_no1 (d := d) h1
    go_enter Try.func45, Try.ntmps45
    go_wp2_with (go_at_call 66; refine (sDayOk_any _ _).mono ?_; rintro e w' ⟨rfl, rfl⟩)
    go_ret
    exact ⟨one_bool HV.out.symm, rfl⟩
  · cases h2 : dOk d
    · have HV : Hid _ := lateV_no2 (t := t) h2
      go_enter Try.func45, Try.ntmps45
      go_wp2_with (go_at_call 66; refine (sDayOk_any _ _).mono ?_; rintro e w' ⟨rfl, rfl⟩)
      go_ret
      exact ⟨one_bool HV.out.symm, rfl⟩
    · have HV : Hid _ := lateV_yes h1 h2
      go_enter Try.func45, Try.ntmps45
      go_wp2_with (go_at_call 66; refine (sDayOk_any _ _).mono ?_; rintro e w' ⟨rfl, rfl⟩)
      go_ret
      exact ⟨one_bool HV.out.symm, rfl⟩

end Go.Proofs.Ytlhdpbbgmjfbkaa
