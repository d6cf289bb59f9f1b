/- The contracts of the small functions of chapter 2 (days): what each returns for every argument. -/
import Derived.Test.YtddffpihacolkaaDoorAid
import Derived.Test.YtddffpihacolkaaDoorCal
import Derived.Test.YtddffpihacolkaaDoorLeaf
namespace Go.Proofs.YtddffpihacolkaaDoor
open Go.RowKit

theorem inB_pos {x a b : Int} (h : a ≤ x) (g : x ≤ b) : inB x a b = true := by simp [inB, h, g]
theorem inB_neg {x a b : Int} (h : x < a ∨ b < x) : inB x a b = false := by simp [inB]; omega

set_option maxHeartbeats 400000 in
theorem sDayOk_any (x : Int) (w : World) :
    Calls Tryd.prog 22 #[.int .i64 x] w fun e w' => e = .returned (.bool (dOk x)) ∧ w' = w := by
  go_enter Tryd.func22, Tryd.ntmps22
  go_wp2_with (go_at_call 19; refine (in_any _ _ _ _).mono ?_; rintro e w' ⟨rfl, rfl⟩)
  go_ret
  exact ⟨rfl, rfl⟩

set_option maxHeartbeats 400000 in
theorem iDayOk_any (x : Int) (w : World) :
    Calls Tryd.prog 30 #[.int .i64 x] w fun e w' => e = .returned (.bool (dOk x)) ∧ w' = w := by
  by_cases h1 : 0 ≤ x
  · by_cases h2 : x ≤ 80000
    · go_enter Tryd.func30, Tryd.ntmps30
      go_wp2
      go_ret
      exact ⟨by simp [dOk, h1, h2], rfl⟩
    · go_enter Tryd.func30, Tryd.ntmps30
      go_wp2
      go_ret
      exact ⟨by simp [dOk, h1, h2], rfl⟩
  · go_enter Tryd.func30, Tryd.ntmps30
    go_wp2
    go_ret
    exact ⟨by simp [dOk]; omega, rfl⟩

/-- the day of the week -/
def wdV (d : Int) : Int := if dOk d = true then (d + 5) % 7 else -1
theorem wdV_yes {d : Int} (h : dOk d = true) : wdV d = (d + 5) % 7 := if_pos h
theorem wdV_no {d : Int} (h : dOk d = false) : wdV d = -1 := if_neg (by rw [h]; decide)


end Go.Proofs.YtddffpihacolkaaDoor
