/- From what the rows of chapter 4 list of Go's library's tables to what PadNum asks of them. -/
import Derived.Test.YtijlbceejpjfiaaDoorCards
import Derived.Test.YtijlbceejpjfiaaDoorTie
import Derived.Test.YtijlbceejpjfiaaDoorBase
import Derived.Test.YtijlbceejpjfiaaDoorFPad
import Derived.LaidMore
import Derived.Deep.DeepHandedRow
import Derived.JoinedCond
import Derived.Lay
import Derived.SevenTiedAt
import Derived.Stop.Joined
import Derived.Stop.LaidErr
import Derived.Lib.LaidTab
namespace Go.Proofs.YtijlbceejpjfiaaDoor
open Go.ChangeShapes Go.WideShapes Go.ChangeAt Go.RowKit

theorem tabEq : (Rows.laid_internal_strconv_uint64pow10 : DataW Unit) = Lib.tabData .u64 Lib.pow10Tab := by kernel_rfl
theorem pow10_head {w : World} {r : List (String × DataW Unit)} (h1 : laidMet Tryd.prog (("internal/strconv.uint64pow10", Rows.laid_internal_strconv_uint64pow10) :: r) w) : Pow10 w := by
  rw [tabEq] at h1
  exact Lib.tabIs_of_head (g := 0) (t := 117) (by kernel_rfl) (by kernel_rfl) Tryd.underlying117 Tryd.underlying105 (by kernel_rfl) (by kernel_rfl) h1

end Go.Proofs.YtijlbceejpjfiaaDoor

