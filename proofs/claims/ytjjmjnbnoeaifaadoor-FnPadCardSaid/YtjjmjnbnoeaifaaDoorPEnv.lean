/- From what the rows list of Go's library's tables to what PadNum asks of them. -/
import Derived.Test.YtjjmjnbnoeaifaaDoorCards
import Derived.Test.YtjjmjnbnoeaifaaDoorTie
import Derived.Test.YtjjmjnbnoeaifaaDoorBase
import Derived.Test.YtjjmjnbnoeaifaaDoorFPad
import Derived.LaidMore
import Derived.Deep.DeepHandedRow
import Derived.JoinedCond
import Derived.Lay
import Derived.SevenTiedAt
import Derived.Stop.Joined
import Derived.Stop.LaidErr
import Derived.Lib.LaidTab
namespace Go.Proofs.YtjjmjnbnoeaifaaDoor
open Go.ChangeShapes Go.WideShapes Go.ChangeAt Go.RowKit

theorem tabEq : (Rows.laid_internal_strconv_uint64pow10 : DataW Unit) = Lib.tabData .u64 Lib.pow10Tab := by kernel_rfl
theorem pow10 {w : World} (h : laidMet Tryd.prog Rows.fnExactPadNumRow.laid w) : Pow10 w := by
  have h1 : laidMet Tryd.prog (("internal/strconv.uint64pow10", Rows.laid_internal_strconv_uint64pow10) :: []) w := h.tail.tail
  rw [tabEq] at h1
  exact Lib.tabIs_of_head (g := 0) (t := 89) (by kernel_rfl) (by kernel_rfl) Tryd.underlying89 Tryd.underlying77 (by kernel_rfl) (by kernel_rfl) h1

end Go.Proofs.YtjjmjnbnoeaifaaDoor
