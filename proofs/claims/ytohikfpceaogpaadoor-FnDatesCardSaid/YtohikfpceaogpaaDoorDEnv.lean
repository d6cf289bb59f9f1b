/- From what the rows list of the program's variables and of Go's library's to what ReadDate asks of them. -/
import Derived.Test.YtohikfpceaogpaaDoorDRead
namespace Go.Proofs.YtohikfpceaogpaaDoor
open Go.RowKit

theorem tabEq : (Rows.laid_internal_strconv_uint64pow10 : DataW Unit) = Lib.tabData .u64 Lib.pow10Tab := by kernel_rfl
theorem star : "*" ++ "errors.errorString" = "*errors.errorString" := by decide
theorem rowErr (u : TypeId) (h : Tryd.prog.typeName? 3 u = some "*errors.errorString") : u = 88 :=
  typeName_ptr_named (nm := "errors.errorString") (by rw [star]; kernel_rfl) (by kernel_rfl) (by decide) u (by rw [star]; exact h)
theorem cellsErr : Tryd.prog.cellsOf 90 = 1 := by kernel_rfl
theorem cellsStr : Tryd.prog.cellsOf 9 = 1 := by kernel_rfl
theorem gSyn : Tryd.prog.globalNamed "strconv.ErrSyntax" = some 1 := by kernel_rfl
theorem gSynT : (Tryd.prog.globals[1]?).map (·.type) = some 41 := by kernel_rfl
theorem gRng : Tryd.prog.globalNamed "strconv.ErrRange" = some 2 := by kernel_rfl
theorem gRngT : (Tryd.prog.globals[2]?).map (·.type) = some 41 := by kernel_rfl

/-- what stands behind the first two on the rows' list -/
def tailL : List (String × DataW Unit) := ("internal/strconv.uint64pow10", Rows.laid_internal_strconv_uint64pow10) :: [("unicode/utf8.acceptRanges", Rows.laid_unicode_utf8_acceptRanges), ("strconv.ErrRange", Rows.laid_strconv_ErrRange), ("strconv.ErrSyntax", Rows.laid_strconv_ErrSyntax), ("loop.example/g00126/impl.monthDays", Rows.laid_loop_example_g00126_impl_monthDays), ("unicode/utf8.first", Rows.laid_unicode_utf8_first)]

theorem env_month {w : World} (h : laidMet Tryd.prog tailL w) : MonthTab w := month_head h.tail.tail.tail.tail
theorem env_read {w : World} (h : laidMet Tryd.prog tailL w) (hsh : w.ShapedOpen Tryd.prog) : ReadEnv w := by
  have hmo := env_month h
  have h1 : laidMet Tryd.prog (("internal/strconv.uint64pow10", Rows.laid_internal_strconv_uint64pow10) :: [("unicode/utf8.acceptRanges", Rows.laid_unicode_utf8_acceptRanges), ("strconv.ErrRange", Rows.laid_strconv_ErrRange), ("strconv.ErrSyntax", Rows.laid_strconv_ErrSyntax), ("loop.example/g00126/impl.monthDays", Rows.laid_loop_example_g00126_impl_monthDays), ("unicode/utf8.first", Rows.laid_unicode_utf8_first)]) w := h
  have h2 : laidMet Tryd.prog (("strconv.ErrRange", Rows.laid_strconv_ErrRange) :: [("strconv.ErrSyntax", Rows.laid_strconv_ErrSyntax), ("loop.example/g00126/impl.monthDays", Rows.laid_loop_example_g00126_impl_monthDays), ("unicode/utf8.first", Rows.laid_unicode_utf8_first)]) w := h1.tail.tail
  have h3 : laidMet Tryd.prog (("strconv.ErrSyntax", Rows.laid_strconv_ErrSyntax) :: [("loop.example/g00126/impl.monthDays", Rows.laid_loop_example_g00126_impl_monthDays), ("unicode/utf8.first", Rows.laid_unicode_utf8_first)]) w := h2.tail
  rw [tabEq] at h1
  obtain ⟨a, _, hr, _⟩ := laid_sentinel h2 gRng gRngT Tryd.underlying41 rowErr Tryd.underlying88 Tryd.underlying90 rfl rfl Tryd.underlying9 cellsErr cellsStr
  obtain ⟨b, _, hs, _⟩ := laid_sentinel h3 gSyn gSynT Tryd.underlying41 rowErr Tryd.underlying88 Tryd.underlying90 rfl rfl Tryd.underlying9 cellsErr cellsStr
  refine ⟨hmo, Lib.tabIs_of_head (g := 3) (t := 83) (by kernel_rfl) (by kernel_rfl) Tryd.underlying83 Tryd.underlying68 (by kernel_rfl) (by kernel_rfl) h1, ?_, ⟨_, _, hs⟩, ⟨_, _, hr⟩⟩
  exact cell_of_shapedOpen_int (zero := #[.int .i64 0]) (t := 3) hsh (of_decide_eq_true (by kernel_rfl)) (by kernel_rfl) rfl (by kernel_rfl) (by kernel_rfl) Tryd.underlying3

end Go.Proofs.YtohikfpceaogpaaDoor
