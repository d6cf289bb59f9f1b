/-
  DERIVED. GIVEN WITH THE SEED: THE PROGRAM's TIES (one call each: nine closed facts by the kernel) AND EACH ROW's TIE, after the 31st guide's Derived/Test/Toyas{Tie, Card}.lean. No idea stands in it: it is a product of the set-up. Laid BY PROGRAM, IN A SANDBOX (cutbox-door.mjs). By AI agents, Wed Nov 11 2026. No macro, syntax, notation, axiom, sorry.
-/
import Derived.Test.YtfpafnefpmmofaaGreatDoorRows
import Derived.LaidByTextLater
import Derived.SevenTiedAt
import Derived.LaidSub
import Derived.LaidOnce
namespace Go.Proofs.YtfpafnefpmmofaaGreatDoor
open Go
set_option maxRecDepth 100000
theorem seatTie1 : Tryz.prog.laidByTextLater [("math/bits.deBruijn32tab", Rows.laid_math_bits_deBruijn32tab), ("math/bits.deBruijn64tab", Rows.laid_math_bits_deBruijn64tab), ("internal/strconv.uint64pow10", Rows.laid_internal_strconv_uint64pow10), ("unicode/utf8.acceptRanges", Rows.laid_unicode_utf8_acceptRanges), ("errors.errorType", Rows.laid_errors_errorType), ("loop.example/g00126/impl.stepDays", Rows.laid_loop_example_g00126_impl_stepDays), ("loop.example/g00126/impl.errLine", Rows.laid_loop_example_g00126_impl_errLine), ("loop.example/g00126/impl.errLogFull", Rows.laid_loop_example_g00126_impl_errLogFull), ("loop.example/g00126/impl.errCasesFull", Rows.laid_loop_example_g00126_impl_errCasesFull), ("loop.example/g00126/impl.errAuth", Rows.laid_loop_example_g00126_impl_errAuth), ("loop.example/g00126/impl.errDay", Rows.laid_loop_example_g00126_impl_errDay), ("loop.example/g00126/impl.errCase", Rows.laid_loop_example_g00126_impl_errCase), ("loop.example/g00126/impl.errMoney", Rows.laid_loop_example_g00126_impl_errMoney), ("loop.example/g00126/impl.errAct", Rows.laid_loop_example_g00126_impl_errAct), ("loop.example/g00126/impl.actWords", Rows.laid_loop_example_g00126_impl_actWords)] [.data, .data, .data, .data, .handle, .data, .sentinel, .sentinel, .sentinel, .sentinel, .sentinel, .sentinel, .sentinel, .sentinel, .data] true :=
  Program.laidByTextLater_by_one 203 8 65 (by kernel_rfl) (by kernel_rfl) (by kernel_rfl) (by kernel_rfl) (by kernel_rfl) (by kernel_rfl) (fun _ _ => by kernel_rfl)
theorem pin_laid_unicode_utf8_first : Tryz.pinned.checked.prog.pinnedFits "unicode/utf8.first" = true := by kernel_rfl
theorem noOwnUnsafe : Tryz.pinned.checked.prog.headLifts.contains "ownunsafe" = false := by kernel_rfl
theorem fits1 : Tryz.pinned.checked.prog.listedFits [("math/bits.deBruijn32tab", Rows.laid_math_bits_deBruijn32tab), ("math/bits.deBruijn64tab", Rows.laid_math_bits_deBruijn64tab), ("internal/strconv.uint64pow10", Rows.laid_internal_strconv_uint64pow10), ("unicode/utf8.acceptRanges", Rows.laid_unicode_utf8_acceptRanges), ("errors.errorType", Rows.laid_errors_errorType), ("loop.example/g00126/impl.stepDays", Rows.laid_loop_example_g00126_impl_stepDays), ("loop.example/g00126/impl.errLine", Rows.laid_loop_example_g00126_impl_errLine), ("loop.example/g00126/impl.errLogFull", Rows.laid_loop_example_g00126_impl_errLogFull), ("loop.example/g00126/impl.errCasesFull", Rows.laid_loop_example_g00126_impl_errCasesFull), ("loop.example/g00126/impl.errAuth", Rows.laid_loop_example_g00126_impl_errAuth), ("loop.example/g00126/impl.errDay", Rows.laid_loop_example_g00126_impl_errDay), ("loop.example/g00126/impl.errCase", Rows.laid_loop_example_g00126_impl_errCase), ("loop.example/g00126/impl.errMoney", Rows.laid_loop_example_g00126_impl_errMoney), ("loop.example/g00126/impl.errAct", Rows.laid_loop_example_g00126_impl_errAct), ("loop.example/g00126/impl.actWords", Rows.laid_loop_example_g00126_impl_actWords), ("unicode/utf8.first", Rows.laid_unicode_utf8_first)] = true := by
  unfold Program.listedFits
  rw [noOwnUnsafe]
  kernel_rfl
theorem tie : Tryz.prog.laidByTextLater [("math/bits.deBruijn32tab", Rows.laid_math_bits_deBruijn32tab), ("math/bits.deBruijn64tab", Rows.laid_math_bits_deBruijn64tab), ("internal/strconv.uint64pow10", Rows.laid_internal_strconv_uint64pow10), ("unicode/utf8.acceptRanges", Rows.laid_unicode_utf8_acceptRanges), ("errors.errorType", Rows.laid_errors_errorType), ("loop.example/g00126/impl.stepDays", Rows.laid_loop_example_g00126_impl_stepDays), ("loop.example/g00126/impl.errLine", Rows.laid_loop_example_g00126_impl_errLine), ("loop.example/g00126/impl.errLogFull", Rows.laid_loop_example_g00126_impl_errLogFull), ("loop.example/g00126/impl.errCasesFull", Rows.laid_loop_example_g00126_impl_errCasesFull), ("loop.example/g00126/impl.errAuth", Rows.laid_loop_example_g00126_impl_errAuth), ("loop.example/g00126/impl.errDay", Rows.laid_loop_example_g00126_impl_errDay), ("loop.example/g00126/impl.errCase", Rows.laid_loop_example_g00126_impl_errCase), ("loop.example/g00126/impl.errMoney", Rows.laid_loop_example_g00126_impl_errMoney), ("loop.example/g00126/impl.errAct", Rows.laid_loop_example_g00126_impl_errAct), ("loop.example/g00126/impl.actWords", Rows.laid_loop_example_g00126_impl_actWords)] [.data, .data, .data, .data, .handle, .data, .sentinel, .sentinel, .sentinel, .sentinel, .sentinel, .sentinel, .sentinel, .sentinel, .data] true :=
  Program.laidByTextLater.sub seatTie1 ["math/bits.deBruijn32tab", "math/bits.deBruijn64tab", "internal/strconv.uint64pow10", "unicode/utf8.acceptRanges", "errors.errorType", "loop.example/g00126/impl.stepDays", "loop.example/g00126/impl.errLine", "loop.example/g00126/impl.errLogFull", "loop.example/g00126/impl.errCasesFull", "loop.example/g00126/impl.errAuth", "loop.example/g00126/impl.errDay", "loop.example/g00126/impl.errCase", "loop.example/g00126/impl.errMoney", "loop.example/g00126/impl.errAct", "loop.example/g00126/impl.actWords"] (by kernel_rfl) (by kernel_rfl)
theorem fnExactSwitchRun_row_tie : Rows.fnExactSwitchRunRow.laidByTextAt .later Tryz.pinned [.data, .data, .data, .data, .handle, .data, .sentinel, .sentinel, .sentinel, .sentinel, .sentinel, .sentinel, .sentinel, .sentinel, .data, .pinned] true :=
  OpenClaim.laidByTextAt_pinned rfl rfl tie rfl rfl rfl rfl (fun y hy _e => by
    simp only [Rows.fnExactSwitchRunRow, List.zip_cons_cons, List.zip_nil_right, List.mem_cons, List.mem_nil_iff, or_false] at hy
    rcases hy with rfl | rfl | rfl | rfl | rfl | rfl | rfl | rfl | rfl | rfl | rfl | rfl | rfl | rfl | rfl | rfl
    · cases _e
    · cases _e
    · cases _e
    · cases _e
    · cases _e
    · cases _e
    · cases _e
    · cases _e
    · cases _e
    · cases _e
    · cases _e
    · cases _e
    · cases _e
    · cases _e
    · cases _e
    · exact ⟨pin_laid_unicode_utf8_first, by kernel_rfl⟩) fits1
theorem fnExactSwitchRunUpto_row_tie : Rows.fnExactSwitchRunUptoRow.laidByTextAt .later Tryz.pinned [.data, .data, .data, .data, .handle, .data, .sentinel, .sentinel, .sentinel, .sentinel, .sentinel, .sentinel, .sentinel, .sentinel, .data, .pinned] true :=
  OpenClaim.laidByTextAt_pinned rfl rfl tie rfl rfl rfl rfl (fun y hy _e => by
    simp only [Rows.fnExactSwitchRunUptoRow, List.zip_cons_cons, List.zip_nil_right, List.mem_cons, List.mem_nil_iff, or_false] at hy
    rcases hy with rfl | rfl | rfl | rfl | rfl | rfl | rfl | rfl | rfl | rfl | rfl | rfl | rfl | rfl | rfl | rfl
    · cases _e
    · cases _e
    · cases _e
    · cases _e
    · cases _e
    · cases _e
    · cases _e
    · cases _e
    · cases _e
    · cases _e
    · cases _e
    · cases _e
    · cases _e
    · cases _e
    · cases _e
    · exact ⟨pin_laid_unicode_utf8_first, by kernel_rfl⟩) fits1
end Go.Proofs.YtfpafnefpmmofaaGreatDoor
