/- Chapter 8, what hangs on days alone: Late, the program's and the specification's. -/
import Derived.Test.YtkdodamdjajbiaaDLeaf
namespace Go.Proofs.Ytkdodamdjajbiaa
open Go.RowKit

/-- whether today is behind due, both days -/
def lateV (t d : Int) : Bool := dOk t && dOk d && decide (d < t)
theorem lateV_no1 {t d : Int} (h : dOk t = false) : lateV t d = false := by simp [lateV, h]
theorem lateV_no2 {t d : Int} (h : dOk d = false) : lateV t d = false := by simp [lateV, h]
theorem lateV_yes {t d : Int} (h : dOk t = true) (g : dOk d = true) : lateV t d = decide (d < t) := by simp [lateV, h, g]



end Go.Proofs.Ytkdodamdjajbiaa
