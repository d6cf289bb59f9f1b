/- The contracts of the small functions of chapter 2 (days): what each returns for every argument. -/
import Derived.Test.YtlmbddifogmlbaaDoorAid
import Derived.Test.YtlmbddifogmlbaaDoorCal
namespace Go.Proofs.YtlmbddifogmlbaaDoor
open Go.RowKit

def inB (x a b : Int) : Bool := decide (a ≤ x ∧ x ≤ b)
theorem inB_pos {x a b : Int} (h : a ≤ x) (g : x ≤ b) : inB x a b = true := by simp [inB, h, g]
theorem inB_neg {x a b : Int} (h : x < a ∨ b < x) : inB x a b = false := by simp [inB]; omega

set_option maxHeartbeats 400000 in
theorem in_any (x a b : Int) (w : World) :
    Calls Tryd.prog 6 #[.int .i64 x, .int .i64 a, .int .i64 b] w fun e w' => e = .returned (.bool (inB x a b)) ∧ w' = w := by
  by_cases h1 : a ≤ x
  · by_cases h2 : x ≤ b
    · go_enter Tryd.func6, Tryd.ntmps6
      go_wp2
      go_ret
      exact ⟨by simp [inB, h1, h2], rfl⟩
    · go_enter Tryd.func6, Tryd.ntmps6
      go_wp2
      go_ret
      exact ⟨by simp [inB, h1, h2], rfl⟩
  · go_enter Tryd.func6, Tryd.ntmps6
    go_wp2
    go_ret
    exact ⟨by simp [inB]; omega, rfl⟩



/-- the day of the week -/
def wdV (d : Int) : Int := if dOk d = true then (d + 5) % 7 else -1
theorem wdV_yes {d : Int} (h : dOk d = true) : wdV d = (d + 5) % 7 := if_pos h
theorem wdV_no {d : Int} (h : dOk d = false) : wdV d = -1 := if_neg (by rw [h]; decide)


end Go.Proofs.YtlmbddifogmlbaaDoor
