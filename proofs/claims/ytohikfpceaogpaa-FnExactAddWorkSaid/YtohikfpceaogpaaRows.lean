/-
  No cell of these rows narrows 'for every input' (looked for: loops, veiled, ifaces, maps, wideKeys, modest, calm, conditions, laid).
  DERIVED. THE GIVEN ROWS OF THIS SEAT. 6 by the template 'for every input the law returns true; each argument reads behind the call as it read before'; 0 by the template 'total and deterministic' (their statements: YtohikfpceaogpaaTotals.lean).
  GIVEN WITH THE SEED: the statements are not yours to turn. If you find one false, say at which input.
  Laid BY PROGRAM, IN A SANDBOX (cutbox-rows.mjs): the forced cells as the released guide's own fill.sh prints them over the translation 36a451edcb1d3f94… (all of the seat's roots in one cut). By AI agents, Wed Nov 11 2026. No macro, syntax, notation, axiom, sorry.
-/
import Derived.Test.YtohikfpceaogpaaChecked
import GoSem.Claim
import GoSem.ClaimJoined
import GoSem.ClaimMapViews
import Derived.JoinedTies
import Derived.KernelRfl
namespace Go.Proofs.Ytohikfpceaogpaa
/- THE CELL 'sum', in the pinned program and in every row, IS THE sha256 OF THE DUMP (.gsa) THAT YtohikfpceaogpaaProg.lean LOADS. Nothing in Lean hashes anything: it is a label: what it is worth is what the hold of that sum in a sandbox is worth. -/
noncomputable def Try.pinned : Pinned := { name := "ytohikfpceaogpaa", sum := "36a451edcb1d3f94b181dd58a93878b52bd59c860442f6ff963d0d81ff397673", checked := Try.checked }
namespace Rows
def none {H : Type} : Left H := { results := [], args := [] }

/-- 'laws.FnWork': WHATEVER THE INPUT: true; the input reads as it did. -/
def fnWorkSpec : ChangeSpec := { name := "fnWork", fn := fun _ => fun
  | [d] => { results := [.lit (.bool true)], args := [d] }
  | _ => none }
def fnWorkRow : OpenClaim := { program := "ytohikfpceaogpaa", sum := "36a451edcb1d3f94b181dd58a93878b52bd59c860442f6ff963d0d81ff397673", func := "loop.example/g00126/laws.FnWork", spec := "fnWork", unfollowed := true, recurses := true, apart := false }
def FnWorkSaid : Prop := fnWorkRow.holds Try.pinned (OpenSpec.ofChange fnWorkSpec)

/-- ITS FALSE NEIGHBOUR: 'it returns false'. Refute it at one input. -/
def fnWorkWrong : ChangeSpec := { name := "fnWork", fn := fun _ => fun
  | [d] => { results := [.lit (.bool false)], args := [d] }
  | _ => none }
def FnWorkWrongFalsely : Prop := fnWorkRow.holds Try.pinned (OpenSpec.ofChange fnWorkWrong)

/-- 'laws.FnExactDayOk': WHATEVER THE INPUT: true; the input reads as it did. -/
def fnExactDayOkSpec : ChangeSpec := { name := "fnExactDayOk", fn := fun _ => fun
  | [d] => { results := [.lit (.bool true)], args := [d] }
  | _ => none }
def fnExactDayOkRow : OpenClaim := { program := "ytohikfpceaogpaa", sum := "36a451edcb1d3f94b181dd58a93878b52bd59c860442f6ff963d0d81ff397673", func := "loop.example/g00126/laws.FnExactDayOk", spec := "fnExactDayOk", apart := false }
def FnExactDayOkSaid : Prop := fnExactDayOkRow.holds Try.pinned (OpenSpec.ofChange fnExactDayOkSpec)

/-- ITS FALSE NEIGHBOUR: 'it returns false'. Refute it at one input. -/
def fnExactDayOkWrong : ChangeSpec := { name := "fnExactDayOk", fn := fun _ => fun
  | [d] => { results := [.lit (.bool false)], args := [d] }
  | _ => none }
def FnExactDayOkWrongFalsely : Prop := fnExactDayOkRow.holds Try.pinned (OpenSpec.ofChange fnExactDayOkWrong)

/-- 'laws.FnExactWeekDay': WHATEVER THE INPUT: true; the input reads as it did. -/
def fnExactWeekDaySpec : ChangeSpec := { name := "fnExactWeekDay", fn := fun _ => fun
  | [d] => { results := [.lit (.bool true)], args := [d] }
  | _ => none }
def fnExactWeekDayRow : OpenClaim := { program := "ytohikfpceaogpaa", sum := "36a451edcb1d3f94b181dd58a93878b52bd59c860442f6ff963d0d81ff397673", func := "loop.example/g00126/laws.FnExactWeekDay", spec := "fnExactWeekDay", apart := false }
def FnExactWeekDaySaid : Prop := fnExactWeekDayRow.holds Try.pinned (OpenSpec.ofChange fnExactWeekDaySpec)

/-- ITS FALSE NEIGHBOUR: 'it returns false'. Refute it at one input. -/
def fnExactWeekDayWrong : ChangeSpec := { name := "fnExactWeekDay", fn := fun _ => fun
  | [d] => { results := [.lit (.bool false)], args := [d] }
  | _ => none }
def FnExactWeekDayWrongFalsely : Prop := fnExactWeekDayRow.holds Try.pinned (OpenSpec.ofChange fnExactWeekDayWrong)

/-- 'laws.FnExactWorks': WHATEVER THE INPUT: true; the input reads as it did. -/
def fnExactWorksSpec : ChangeSpec := { name := "fnExactWorks", fn := fun _ => fun
  | [d1, d2] => { results := [.lit (.bool true)], args := [d1, d2] }
  | _ => none }
def fnExactWorksRow : OpenClaim := { program := "ytohikfpceaogpaa", sum := "36a451edcb1d3f94b181dd58a93878b52bd59c860442f6ff963d0d81ff397673", func := "loop.example/g00126/laws.FnExactWorks", spec := "fnExactWorks", apart := false }
def FnExactWorksSaid : Prop := fnExactWorksRow.holds Try.pinned (OpenSpec.ofChange fnExactWorksSpec)

/-- ITS FALSE NEIGHBOUR: 'it returns false'. Refute it at one input. -/
def fnExactWorksWrong : ChangeSpec := { name := "fnExactWorks", fn := fun _ => fun
  | [d1, d2] => { results := [.lit (.bool false)], args := [d1, d2] }
  | _ => none }
def FnExactWorksWrongFalsely : Prop := fnExactWorksRow.holds Try.pinned (OpenSpec.ofChange fnExactWorksWrong)

/-- 'laws.FnExactAddWork': WHATEVER THE INPUT: true; the input reads as it did. -/
def fnExactAddWorkSpec : ChangeSpec := { name := "fnExactAddWork", fn := fun _ => fun
  | [d1, d2, d3] => { results := [.lit (.bool true)], args := [d1, d2, d3] }
  | _ => none }
def fnExactAddWorkRow : OpenClaim := { program := "ytohikfpceaogpaa", sum := "36a451edcb1d3f94b181dd58a93878b52bd59c860442f6ff963d0d81ff397673", func := "loop.example/g00126/laws.FnExactAddWork", spec := "fnExactAddWork", unfollowed := true, recurses := true, apart := false }
def FnExactAddWorkSaid : Prop := fnExactAddWorkRow.holds Try.pinned (OpenSpec.ofChange fnExactAddWorkSpec)

/-- ITS FALSE NEIGHBOUR: 'it returns false'. Refute it at one input. -/
def fnExactAddWorkWrong : ChangeSpec := { name := "fnExactAddWork", fn := fun _ => fun
  | [d1, d2, d3] => { results := [.lit (.bool false)], args := [d1, d2, d3] }
  | _ => none }
def FnExactAddWorkWrongFalsely : Prop := fnExactAddWorkRow.holds Try.pinned (OpenSpec.ofChange fnExactAddWorkWrong)

/-- 'laws.FnExactWorkBetween': WHATEVER THE INPUT: true; the input reads as it did. -/
def fnExactWorkBetweenSpec : ChangeSpec := { name := "fnExactWorkBetween", fn := fun _ => fun
  | [d1, d2, d3] => { results := [.lit (.bool true)], args := [d1, d2, d3] }
  | _ => none }
def fnExactWorkBetweenRow : OpenClaim := { program := "ytohikfpceaogpaa", sum := "36a451edcb1d3f94b181dd58a93878b52bd59c860442f6ff963d0d81ff397673", func := "loop.example/g00126/laws.FnExactWorkBetween", spec := "fnExactWorkBetween", unfollowed := true, recurses := true, apart := false }
def FnExactWorkBetweenSaid : Prop := fnExactWorkBetweenRow.holds Try.pinned (OpenSpec.ofChange fnExactWorkBetweenSpec)

/-- ITS FALSE NEIGHBOUR: 'it returns false'. Refute it at one input. -/
def fnExactWorkBetweenWrong : ChangeSpec := { name := "fnExactWorkBetween", fn := fun _ => fun
  | [d1, d2, d3] => { results := [.lit (.bool false)], args := [d1, d2, d3] }
  | _ => none }
def FnExactWorkBetweenWrongFalsely : Prop := fnExactWorkBetweenRow.holds Try.pinned (OpenSpec.ofChange fnExactWorkBetweenWrong)

/- THE SECOND FORM. 'bulk': how many values and letters a reading holds, each counted each time it is reached (what is shared counts as often as it is met; a slice's spare places count too). A statement '..UptoSaid' is the law's where the arguments, and the package variables that the reading takes, are together of bulk at most 1048576: NARROWER than '..Said'. Prove '..Said' where nothing that the law and all that it calls make is longer than what came in: it says more and counts as full. Else prove '..UptoSaid'. A law counts once. -/
mutual
def uptoBulk {H : Type} : DataW H → Nat
  | .lit (.string bytes) => bytes.length + 1
  | .lit _ => 1
  | .nil => 1
  | .ptr d => uptoBulk d + 1
  | .slice elems spare => uptoBulkAll elems + uptoBulkAll spare + 1
  | .agg parts => uptoBulkAll parts + 1
  | .iface _ d => uptoBulk d + 1
  | .map entries => uptoBulkEntries entries + 1
  | .held _ => 1
def uptoBulkAll {H : Type} : List (DataW H) → Nat
  | [] => 0
  | d :: r => uptoBulk d + uptoBulkAll r
def uptoBulkEntries {H : Type} : List (Lit × DataW H) → Nat
  | [] => 0
  | x :: r => uptoBulkEntry x + uptoBulkEntries r
def uptoBulkEntry {H : Type} : Lit × DataW H → Nat
  | (.string bytes, d) => bytes.length + uptoBulk d + 1
  | (_, d) => uptoBulk d + 1
 end
def uptoSmall : (H : Type) → List (DataW H) → Bool := fun _ ds => decide (uptoBulkAll ds ≤ 1048576)
def OpenSpec.upto (s : _root_.Go.ChangeSpec) : _root_.Go.OpenSpec := { _root_.Go.OpenSpec.ofChange s with cond := some uptoSmall }

/-- 'laws.FnWork', WHERE WHAT IT READS IS OF BULK AT MOST 1048576: true; the input reads as it did. -/
def fnWorkUptoRow : OpenClaim := { program := "ytohikfpceaogpaa", sum := "36a451edcb1d3f94b181dd58a93878b52bd59c860442f6ff963d0d81ff397673", func := "loop.example/g00126/laws.FnWork", spec := "fnWork", unfollowed := true, recurses := true, apart := false, narrowed := true }
def FnWorkUptoSaid : Prop := fnWorkUptoRow.holds Try.pinned (OpenSpec.upto fnWorkSpec)

/-- 'laws.FnExactDayOk', WHERE WHAT IT READS IS OF BULK AT MOST 1048576: true; the input reads as it did. -/
def fnExactDayOkUptoRow : OpenClaim := { program := "ytohikfpceaogpaa", sum := "36a451edcb1d3f94b181dd58a93878b52bd59c860442f6ff963d0d81ff397673", func := "loop.example/g00126/laws.FnExactDayOk", spec := "fnExactDayOk", apart := false, narrowed := true }
def FnExactDayOkUptoSaid : Prop := fnExactDayOkUptoRow.holds Try.pinned (OpenSpec.upto fnExactDayOkSpec)

/-- 'laws.FnExactWeekDay', WHERE WHAT IT READS IS OF BULK AT MOST 1048576: true; the input reads as it did. -/
def fnExactWeekDayUptoRow : OpenClaim := { program := "ytohikfpceaogpaa", sum := "36a451edcb1d3f94b181dd58a93878b52bd59c860442f6ff963d0d81ff397673", func := "loop.example/g00126/laws.FnExactWeekDay", spec := "fnExactWeekDay", apart := false, narrowed := true }
def FnExactWeekDayUptoSaid : Prop := fnExactWeekDayUptoRow.holds Try.pinned (OpenSpec.upto fnExactWeekDaySpec)

/-- 'laws.FnExactWorks', WHERE WHAT IT READS IS OF BULK AT MOST 1048576: true; the input reads as it did. -/
def fnExactWorksUptoRow : OpenClaim := { program := "ytohikfpceaogpaa", sum := "36a451edcb1d3f94b181dd58a93878b52bd59c860442f6ff963d0d81ff397673", func := "loop.example/g00126/laws.FnExactWorks", spec := "fnExactWorks", apart := false, narrowed := true }
def FnExactWorksUptoSaid : Prop := fnExactWorksUptoRow.holds Try.pinned (OpenSpec.upto fnExactWorksSpec)

/-- 'laws.FnExactAddWork', WHERE WHAT IT READS IS OF BULK AT MOST 1048576: true; the input reads as it did. -/
def fnExactAddWorkUptoRow : OpenClaim := { program := "ytohikfpceaogpaa", sum := "36a451edcb1d3f94b181dd58a93878b52bd59c860442f6ff963d0d81ff397673", func := "loop.example/g00126/laws.FnExactAddWork", spec := "fnExactAddWork", unfollowed := true, recurses := true, apart := false, narrowed := true }
def FnExactAddWorkUptoSaid : Prop := fnExactAddWorkUptoRow.holds Try.pinned (OpenSpec.upto fnExactAddWorkSpec)

/-- 'laws.FnExactWorkBetween', WHERE WHAT IT READS IS OF BULK AT MOST 1048576: true; the input reads as it did. -/
def fnExactWorkBetweenUptoRow : OpenClaim := { program := "ytohikfpceaogpaa", sum := "36a451edcb1d3f94b181dd58a93878b52bd59c860442f6ff963d0d81ff397673", func := "loop.example/g00126/laws.FnExactWorkBetween", spec := "fnExactWorkBetween", unfollowed := true, recurses := true, apart := false, narrowed := true }
def FnExactWorkBetweenUptoSaid : Prop := fnExactWorkBetweenUptoRow.holds Try.pinned (OpenSpec.upto fnExactWorkBetweenSpec)

end Rows
end Go.Proofs.Ytohikfpceaogpaa
