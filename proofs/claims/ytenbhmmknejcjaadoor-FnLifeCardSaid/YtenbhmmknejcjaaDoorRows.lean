/-
  NARROWER THAN 'FOR EVERY INPUT', by the rows' own cells (each row's printed sentence says how): FnCase: laid · FnLife: laid · FnTimes: laid · FnRuled: laid · FnCharged: laid.
  DERIVED. THE GIVEN ROWS OF THIS SEAT. 5 by the template 'for every input the law returns true; each argument reads behind the call as it read before'; 0 by the template 'total and deterministic' (their statements: YtenbhmmknejcjaaDoorTotals.lean).
  GIVEN WITH THE SEED: the statements are not yours to turn. If you find one false, say at which input.
  Laid BY PROGRAM, IN A SANDBOX (cutbox-rows.mjs): the forced cells as the released guide's own fill.sh prints them over the translation 7a4ad73fae7ea3bd… (all of the seat's roots in one cut). By AI agents, Wed Nov 11 2026. No macro, syntax, notation, axiom, sorry.
-/
import Derived.Test.YtenbhmmknejcjaaDoorChecked
import GoSem.Claim
import GoSem.ClaimJoined
import GoSem.ClaimMapViews
import Derived.JoinedTies
import Derived.KernelRfl
namespace Go.Proofs.YtenbhmmknejcjaaDoor
/- THE CELL 'sum', in the pinned program and in every row, IS THE sha256 OF THE DUMP (.gsa) THAT YtenbhmmknejcjaaDoorProg.lean LOADS. Nothing in Lean hashes anything: it is a label: what it is worth is what the hold of that sum in a sandbox is worth. -/
noncomputable def Tryd.pinned : Pinned := { name := "ytenbhmmknejcjaadoor", sum := "7a4ad73fae7ea3bde17f5646064f8850dacafe2aa0be206a333e495913c41995", checked := Tryd.checked }
namespace Rows
def none {H : Type} : Left H := { results := [], args := [] }

/- WHAT THE LISTED PACKAGE-LEVEL VARIABLES READ AS WHEN THE CALL BEGINS. Each datum BY PROGRAM (the guide's laid-datum.mjs) off the statement by which the dump's own 'gosem.cut.vars' lays the variable. In a bare row this is a premise. The card (YtenbhmmknejcjaaDoorCards.lean) ties it to the program's text. -/
def laid_loop_example_g00126_impl_stepDays {H : Type} : DataW H := .agg [.lit (.int .i64 30), .lit (.int .i64 30), .lit (.int .i64 15), .lit (.int .i64 60), .lit (.int .i64 20)]

/-- 'laws.FnCase': WHATEVER THE INPUT: true; the input reads as it did. -/
def fnCaseSpec : ChangeSpec := { name := "fnCase", vars := ["loop.example/g00126/impl.stepDays"], fn := fun _ => fun
  | [d, g1] => { results := [.lit (.bool true)], args := [d], vars := [g1] }
  | _ => none }
def fnCaseRow : OpenClaim := { program := "ytenbhmmknejcjaadoor", sum := "7a4ad73fae7ea3bde17f5646064f8850dacafe2aa0be206a333e495913c41995", func := "loop.example/g00126/laws.FnCase", spec := "fnCase", unfollowed := true, recurses := true, named := ["loop.example/g00126/impl.stepDays"], apart := false, laid := [("loop.example/g00126/impl.stepDays", laid_loop_example_g00126_impl_stepDays)] }
def FnCaseSaid : Prop := fnCaseRow.holds Tryd.pinned (OpenSpec.ofChange fnCaseSpec)

/-- ITS FALSE NEIGHBOUR: 'it returns false'. Refute it at one input. -/
def fnCaseWrong : ChangeSpec := { name := "fnCase", vars := ["loop.example/g00126/impl.stepDays"], fn := fun _ => fun
  | [d, g1] => { results := [.lit (.bool false)], args := [d], vars := [g1] }
  | _ => none }
def FnCaseWrongFalsely : Prop := fnCaseRow.holds Tryd.pinned (OpenSpec.ofChange fnCaseWrong)

/-- 'laws.FnLife': WHATEVER THE INPUT: true; the input reads as it did. -/
def fnLifeSpec : ChangeSpec := { name := "fnLife", vars := ["loop.example/g00126/impl.stepDays"], fn := fun _ => fun
  | [d, g1] => { results := [.lit (.bool true)], args := [d], vars := [g1] }
  | _ => none }
def fnLifeRow : OpenClaim := { program := "ytenbhmmknejcjaadoor", sum := "7a4ad73fae7ea3bde17f5646064f8850dacafe2aa0be206a333e495913c41995", func := "loop.example/g00126/laws.FnLife", spec := "fnLife", unfollowed := true, recurses := true, named := ["loop.example/g00126/impl.stepDays"], apart := false, laid := [("loop.example/g00126/impl.stepDays", laid_loop_example_g00126_impl_stepDays)] }
def FnLifeSaid : Prop := fnLifeRow.holds Tryd.pinned (OpenSpec.ofChange fnLifeSpec)

/-- ITS FALSE NEIGHBOUR: 'it returns false'. Refute it at one input. -/
def fnLifeWrong : ChangeSpec := { name := "fnLife", vars := ["loop.example/g00126/impl.stepDays"], fn := fun _ => fun
  | [d, g1] => { results := [.lit (.bool false)], args := [d], vars := [g1] }
  | _ => none }
def FnLifeWrongFalsely : Prop := fnLifeRow.holds Tryd.pinned (OpenSpec.ofChange fnLifeWrong)

/-- 'laws.FnTimes': WHATEVER THE INPUT: true; the input reads as it did. -/
def fnTimesSpec : ChangeSpec := { name := "fnTimes", vars := ["loop.example/g00126/impl.stepDays"], fn := fun _ => fun
  | [d, g1] => { results := [.lit (.bool true)], args := [d], vars := [g1] }
  | _ => none }
def fnTimesRow : OpenClaim := { program := "ytenbhmmknejcjaadoor", sum := "7a4ad73fae7ea3bde17f5646064f8850dacafe2aa0be206a333e495913c41995", func := "loop.example/g00126/laws.FnTimes", spec := "fnTimes", unfollowed := true, recurses := true, named := ["loop.example/g00126/impl.stepDays"], apart := false, laid := [("loop.example/g00126/impl.stepDays", laid_loop_example_g00126_impl_stepDays)] }
def FnTimesSaid : Prop := fnTimesRow.holds Tryd.pinned (OpenSpec.ofChange fnTimesSpec)

/-- ITS FALSE NEIGHBOUR: 'it returns false'. Refute it at one input. -/
def fnTimesWrong : ChangeSpec := { name := "fnTimes", vars := ["loop.example/g00126/impl.stepDays"], fn := fun _ => fun
  | [d, g1] => { results := [.lit (.bool false)], args := [d], vars := [g1] }
  | _ => none }
def FnTimesWrongFalsely : Prop := fnTimesRow.holds Tryd.pinned (OpenSpec.ofChange fnTimesWrong)

/-- 'laws.FnRuled': WHATEVER THE INPUT: true; the input reads as it did. -/
def fnRuledSpec : ChangeSpec := { name := "fnRuled", vars := ["loop.example/g00126/impl.stepDays"], fn := fun _ => fun
  | [d, g1] => { results := [.lit (.bool true)], args := [d], vars := [g1] }
  | _ => none }
def fnRuledRow : OpenClaim := { program := "ytenbhmmknejcjaadoor", sum := "7a4ad73fae7ea3bde17f5646064f8850dacafe2aa0be206a333e495913c41995", func := "loop.example/g00126/laws.FnRuled", spec := "fnRuled", unfollowed := true, recurses := true, named := ["loop.example/g00126/impl.stepDays"], apart := false, laid := [("loop.example/g00126/impl.stepDays", laid_loop_example_g00126_impl_stepDays)] }
def FnRuledSaid : Prop := fnRuledRow.holds Tryd.pinned (OpenSpec.ofChange fnRuledSpec)

/-- ITS FALSE NEIGHBOUR: 'it returns false'. Refute it at one input. -/
def fnRuledWrong : ChangeSpec := { name := "fnRuled", vars := ["loop.example/g00126/impl.stepDays"], fn := fun _ => fun
  | [d, g1] => { results := [.lit (.bool false)], args := [d], vars := [g1] }
  | _ => none }
def FnRuledWrongFalsely : Prop := fnRuledRow.holds Tryd.pinned (OpenSpec.ofChange fnRuledWrong)

/-- 'laws.FnCharged': WHATEVER THE INPUT: true; the input reads as it did. -/
def fnChargedSpec : ChangeSpec := { name := "fnCharged", vars := ["loop.example/g00126/impl.stepDays"], fn := fun _ => fun
  | [d, g1] => { results := [.lit (.bool true)], args := [d], vars := [g1] }
  | _ => none }
def fnChargedRow : OpenClaim := { program := "ytenbhmmknejcjaadoor", sum := "7a4ad73fae7ea3bde17f5646064f8850dacafe2aa0be206a333e495913c41995", func := "loop.example/g00126/laws.FnCharged", spec := "fnCharged", unfollowed := true, recurses := true, named := ["loop.example/g00126/impl.stepDays"], apart := false, laid := [("loop.example/g00126/impl.stepDays", laid_loop_example_g00126_impl_stepDays)] }
def FnChargedSaid : Prop := fnChargedRow.holds Tryd.pinned (OpenSpec.ofChange fnChargedSpec)

/-- ITS FALSE NEIGHBOUR: 'it returns false'. Refute it at one input. -/
def fnChargedWrong : ChangeSpec := { name := "fnCharged", vars := ["loop.example/g00126/impl.stepDays"], fn := fun _ => fun
  | [d, g1] => { results := [.lit (.bool false)], args := [d], vars := [g1] }
  | _ => none }
def FnChargedWrongFalsely : Prop := fnChargedRow.holds Tryd.pinned (OpenSpec.ofChange fnChargedWrong)

/- THE SECOND FORM. 'bulk': how many values and letters a reading holds, each counted each time it is reached (what is shared counts as often as it is met; a slice's spare places count too). A statement '..UptoSaid' is the law's where the arguments, and the package variables that the reading takes, are together of bulk at most 1048576: NARROWER than '..Said'. Prove '..Said' where nothing that the law and all that it calls make is longer than what came in: it says more and counts as full. Else prove '..UptoSaid'. A law counts once. -/
mutual
def uptoBulk {H : Type} : DataW H → Nat
  | .lit (.string bytes) => bytes.length + 1
  | .lit _ => 1
  | .nil => 1
  | .ptr d => uptoBulk d + 1
  | .slice elems spare => uptoBulkAll elems + uptoBulkAll spare + 1
  | .agg parts => uptoBulkAll parts + 1
  | .iface _ d => uptoBulk d + 1
  | .map entries => uptoBulkEntries entries + 1
  | .held _ => 1
def uptoBulkAll {H : Type} : List (DataW H) → Nat
  | [] => 0
  | d :: r => uptoBulk d + uptoBulkAll r
def uptoBulkEntries {H : Type} : List (Lit × DataW H) → Nat
  | [] => 0
  | x :: r => uptoBulkEntry x + uptoBulkEntries r
def uptoBulkEntry {H : Type} : Lit × DataW H → Nat
  | (.string bytes, d) => bytes.length + uptoBulk d + 1
  | (_, d) => uptoBulk d + 1
 end
def uptoSmall : (H : Type) → List (DataW H) → Bool := fun _ ds => decide (uptoBulkAll ds ≤ 1048576)
def OpenSpec.upto (s : _root_.Go.ChangeSpec) : _root_.Go.OpenSpec := { _root_.Go.OpenSpec.ofChange s with cond := some uptoSmall }

/-- 'laws.FnCase', WHERE WHAT IT READS IS OF BULK AT MOST 1048576: true; the input reads as it did. -/
def fnCaseUptoRow : OpenClaim := { program := "ytenbhmmknejcjaadoor", sum := "7a4ad73fae7ea3bde17f5646064f8850dacafe2aa0be206a333e495913c41995", func := "loop.example/g00126/laws.FnCase", spec := "fnCase", unfollowed := true, recurses := true, named := ["loop.example/g00126/impl.stepDays"], apart := false, laid := [("loop.example/g00126/impl.stepDays", laid_loop_example_g00126_impl_stepDays)], narrowed := true }
def FnCaseUptoSaid : Prop := fnCaseUptoRow.holds Tryd.pinned (OpenSpec.upto fnCaseSpec)

/-- 'laws.FnLife', WHERE WHAT IT READS IS OF BULK AT MOST 1048576: true; the input reads as it did. -/
def fnLifeUptoRow : OpenClaim := { program := "ytenbhmmknejcjaadoor", sum := "7a4ad73fae7ea3bde17f5646064f8850dacafe2aa0be206a333e495913c41995", func := "loop.example/g00126/laws.FnLife", spec := "fnLife", unfollowed := true, recurses := true, named := ["loop.example/g00126/impl.stepDays"], apart := false, laid := [("loop.example/g00126/impl.stepDays", laid_loop_example_g00126_impl_stepDays)], narrowed := true }
def FnLifeUptoSaid : Prop := fnLifeUptoRow.holds Tryd.pinned (OpenSpec.upto fnLifeSpec)

/-- 'laws.FnTimes', WHERE WHAT IT READS IS OF BULK AT MOST 1048576: true; the input reads as it did. -/
def fnTimesUptoRow : OpenClaim := { program := "ytenbhmmknejcjaadoor", sum := "7a4ad73fae7ea3bde17f5646064f8850dacafe2aa0be206a333e495913c41995", func := "loop.example/g00126/laws.FnTimes", spec := "fnTimes", unfollowed := true, recurses := true, named := ["loop.example/g00126/impl.stepDays"], apart := false, laid := [("loop.example/g00126/impl.stepDays", laid_loop_example_g00126_impl_stepDays)], narrowed := true }
def FnTimesUptoSaid : Prop := fnTimesUptoRow.holds Tryd.pinned (OpenSpec.upto fnTimesSpec)

/-- 'laws.FnRuled', WHERE WHAT IT READS IS OF BULK AT MOST 1048576: true; the input reads as it did. -/
def fnRuledUptoRow : OpenClaim := { program := "ytenbhmmknejcjaadoor", sum := "7a4ad73fae7ea3bde17f5646064f8850dacafe2aa0be206a333e495913c41995", func := "loop.example/g00126/laws.FnRuled", spec := "fnRuled", unfollowed := true, recurses := true, named := ["loop.example/g00126/impl.stepDays"], apart := false, laid := [("loop.example/g00126/impl.stepDays", laid_loop_example_g00126_impl_stepDays)], narrowed := true }
def FnRuledUptoSaid : Prop := fnRuledUptoRow.holds Tryd.pinned (OpenSpec.upto fnRuledSpec)

/-- 'laws.FnCharged', WHERE WHAT IT READS IS OF BULK AT MOST 1048576: true; the input reads as it did. -/
def fnChargedUptoRow : OpenClaim := { program := "ytenbhmmknejcjaadoor", sum := "7a4ad73fae7ea3bde17f5646064f8850dacafe2aa0be206a333e495913c41995", func := "loop.example/g00126/laws.FnCharged", spec := "fnCharged", unfollowed := true, recurses := true, named := ["loop.example/g00126/impl.stepDays"], apart := false, laid := [("loop.example/g00126/impl.stepDays", laid_loop_example_g00126_impl_stepDays)], narrowed := true }
def FnChargedUptoSaid : Prop := fnChargedUptoRow.holds Tryd.pinned (OpenSpec.upto fnChargedSpec)

end Rows
end Go.Proofs.YtenbhmmknejcjaaDoor
