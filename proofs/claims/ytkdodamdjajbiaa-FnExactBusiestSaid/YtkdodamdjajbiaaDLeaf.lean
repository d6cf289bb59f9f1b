/- The contracts of the small functions of chapter 2 (days): what each returns for every argument. -/
import Derived.Test.YtkdodamdjajbiaaAid
import Derived.Test.YtkdodamdjajbiaaCal
import Derived.Test.YtkdodamdjajbiaaLeaf
namespace Go.Proofs.Ytkdodamdjajbiaa
open Go.RowKit

theorem inB_pos {x a b : Int} (h : a ≤ x) (g : x ≤ b) : inB x a b = true := by simp [inB, h, g]
theorem inB_neg {x a b : Int} (h : x < a ∨ b < x) : inB x a b = false := by simp [inB]; omega



/-- the day of the week -/
def wdV (d : Int) : Int := if dOk d = true then (d + 5) % 7 else -1
theorem wdV_yes {d : Int} (h : dOk d = true) : wdV d = (d + 5) % 7 := if_pos h
theorem wdV_no {d : Int} (h : dOk d = false) : wdV d = -1 := if_neg (by rw [h]; decide)


end Go.Proofs.Ytkdodamdjajbiaa
