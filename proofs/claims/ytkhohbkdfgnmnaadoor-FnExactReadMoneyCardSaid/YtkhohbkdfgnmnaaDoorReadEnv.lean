/- From what the rows list of Go's library to what ReadMoney asks of its variables. -/
import Derived.Test.YtkhohbkdfgnmnaaDoorRows
import Derived.Test.YtkhohbkdfgnmnaaDoorRead
import Derived.Stop.LaidErr
import Derived.Lib.LaidTab
import Derived.Shelf.Vars
namespace Go.Proofs.YtkhohbkdfgnmnaaDoor
open Go.RowKit

theorem tabEq : (Rows.laid_internal_strconv_uint64pow10 : DataW Unit) = Lib.tabData .u64 Lib.pow10Tab := by kernel_rfl
theorem star : "*" ++ "errors.errorString" = "*errors.errorString" := by decide
theorem rowErr (u : TypeId) (h : Tryd.prog.typeName? 3 u = some "*errors.errorString") : u = 113 :=
  typeName_ptr_named (nm := "errors.errorString") (by rw [star]; kernel_rfl) (by kernel_rfl) (by decide) u (by rw [star]; exact h)
theorem cellsErr : Tryd.prog.cellsOf 115 = 1 := by kernel_rfl
theorem cellsStr : Tryd.prog.cellsOf 9 = 1 := by kernel_rfl
theorem gSyn : Tryd.prog.globalNamed "strconv.ErrSyntax" = some 0 := by kernel_rfl
theorem gSynT : (Tryd.prog.globals[0]?).map (·.type) = some 41 := by kernel_rfl
theorem gRng : Tryd.prog.globalNamed "strconv.ErrRange" = some 1 := by kernel_rfl
theorem gRngT : (Tryd.prog.globals[1]?).map (·.type) = some 41 := by kernel_rfl

theorem readEnv {w : World} (h : laidMet Tryd.prog Rows.fnExactReadMoneyRow.laid w) (hsh : w.ShapedOpen Tryd.prog) : ReadEnv w := by
  have h1 : laidMet Tryd.prog (("internal/strconv.uint64pow10", Rows.laid_internal_strconv_uint64pow10) :: [("unicode/utf8.acceptRanges", Rows.laid_unicode_utf8_acceptRanges), ("strconv.ErrRange", Rows.laid_strconv_ErrRange), ("strconv.ErrSyntax", Rows.laid_strconv_ErrSyntax), ("unicode/utf8.first", Rows.laid_unicode_utf8_first)]) w := h.tail.tail
  have h2 : laidMet Tryd.prog (("strconv.ErrRange", Rows.laid_strconv_ErrRange) :: [("strconv.ErrSyntax", Rows.laid_strconv_ErrSyntax), ("unicode/utf8.first", Rows.laid_unicode_utf8_first)]) w := h1.tail.tail
  have h3 : laidMet Tryd.prog (("strconv.ErrSyntax", Rows.laid_strconv_ErrSyntax) :: [("unicode/utf8.first", Rows.laid_unicode_utf8_first)]) w := h2.tail
  rw [tabEq] at h1
  obtain ⟨a, _, hr, _⟩ := laid_sentinel h2 gRng gRngT Tryd.underlying41 rowErr Tryd.underlying113 Tryd.underlying115 rfl rfl Tryd.underlying9 cellsErr cellsStr
  obtain ⟨b, _, hs, _⟩ := laid_sentinel h3 gSyn gSynT Tryd.underlying41 rowErr Tryd.underlying113 Tryd.underlying115 rfl rfl Tryd.underlying9 cellsErr cellsStr
  refine ⟨Lib.tabIs_of_head (g := 5) (t := 110) (by kernel_rfl) (by kernel_rfl) Tryd.underlying110 Tryd.underlying77 (by kernel_rfl) (by kernel_rfl) h1, ?_, ⟨_, _, hs⟩, ⟨_, _, hr⟩⟩
  exact cell_of_shapedOpen_int (zero := #[.int .i64 0]) (t := 3) hsh (of_decide_eq_true (by kernel_rfl)) (by kernel_rfl) rfl (by kernel_rfl) (by kernel_rfl) Tryd.underlying3

end Go.Proofs.YtkhohbkdfgnmnaaDoor
