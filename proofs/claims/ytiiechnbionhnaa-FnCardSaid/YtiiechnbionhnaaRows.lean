/-
  No cell of these rows narrows 'for every input' (looked for: loops, veiled, ifaces, maps, wideKeys, modest, calm, conditions, laid).
  DERIVED. THE GIVEN ROWS OF THIS SEAT. 8 by the template 'for every input the law returns true; each argument reads behind the call as it read before'; 0 by the template 'total and deterministic' (their statements: YtiiechnbionhnaaTotals.lean).
  GIVEN WITH THE SEED: the statements are not yours to turn. If you find one false, say at which input.
  Laid BY PROGRAM, IN A SANDBOX (cutbox-rows.mjs): the forced cells as the released guide's own fill.sh prints them over the translation f75e549289bc586e… (all of the seat's roots in one cut). By AI agents, Wed Nov 11 2026. No macro, syntax, notation, axiom, sorry.
-/
import Derived.Test.YtiiechnbionhnaaChecked
import GoSem.Claim
import GoSem.ClaimJoined
import GoSem.ClaimMapViews
import Derived.JoinedTies
import Derived.KernelRfl
namespace Go.Proofs.Ytiiechnbionhnaa
/- THE CELL 'sum', in the pinned program and in every row, IS THE sha256 OF THE DUMP (.gsa) THAT YtiiechnbionhnaaProg.lean LOADS. Nothing in Lean hashes anything: it is a label: what it is worth is what the hold of that sum in a sandbox is worth. -/
noncomputable def Try.pinned : Pinned := { name := "ytiiechnbionhnaa", sum := "f75e549289bc586e2a3d13fcf6f7a89da914297803c34015424ff9e921fd92b8", checked := Try.checked }
namespace Rows
def none {H : Type} : Left H := { results := [], args := [] }

/-- 'laws.FnExactCardOk': WHATEVER THE INPUT: true; the input reads as it did. -/
def fnExactCardOkSpec : ChangeSpec := { name := "fnExactCardOk", fn := fun _ => fun
  | [d] => { results := [.lit (.bool true)], args := [d] }
  | _ => none }
def fnExactCardOkRow : OpenClaim := { program := "ytiiechnbionhnaa", sum := "f75e549289bc586e2a3d13fcf6f7a89da914297803c34015424ff9e921fd92b8", func := "loop.example/g00126/laws.FnExactCardOk", spec := "fnExactCardOk", unfollowed := true, recurses := true, apart := false }
def FnExactCardOkSaid : Prop := fnExactCardOkRow.holds Try.pinned (OpenSpec.ofChange fnExactCardOkSpec)

/-- ITS FALSE NEIGHBOUR: 'it returns false'. Refute it at one input. -/
def fnExactCardOkWrong : ChangeSpec := { name := "fnExactCardOk", fn := fun _ => fun
  | [d] => { results := [.lit (.bool false)], args := [d] }
  | _ => none }
def FnExactCardOkWrongFalsely : Prop := fnExactCardOkRow.holds Try.pinned (OpenSpec.ofChange fnExactCardOkWrong)

/-- 'laws.FnExactCheckDigit': WHATEVER THE INPUT: true; the input reads as it did. -/
def fnExactCheckDigitSpec : ChangeSpec := { name := "fnExactCheckDigit", fn := fun _ => fun
  | [d] => { results := [.lit (.bool true)], args := [d] }
  | _ => none }
def fnExactCheckDigitRow : OpenClaim := { program := "ytiiechnbionhnaa", sum := "f75e549289bc586e2a3d13fcf6f7a89da914297803c34015424ff9e921fd92b8", func := "loop.example/g00126/laws.FnExactCheckDigit", spec := "fnExactCheckDigit", unfollowed := true, recurses := true, apart := false }
def FnExactCheckDigitSaid : Prop := fnExactCheckDigitRow.holds Try.pinned (OpenSpec.ofChange fnExactCheckDigitSpec)

/-- ITS FALSE NEIGHBOUR: 'it returns false'. Refute it at one input. -/
def fnExactCheckDigitWrong : ChangeSpec := { name := "fnExactCheckDigit", fn := fun _ => fun
  | [d] => { results := [.lit (.bool false)], args := [d] }
  | _ => none }
def FnExactCheckDigitWrongFalsely : Prop := fnExactCheckDigitRow.holds Try.pinned (OpenSpec.ofChange fnExactCheckDigitWrong)

/-- 'laws.FnExactMask': WHATEVER THE INPUT: true; the input reads as it did. -/
def fnExactMaskSpec : ChangeSpec := { name := "fnExactMask", fn := fun _ => fun
  | [d] => { results := [.lit (.bool true)], args := [d] }
  | _ => none }
def fnExactMaskRow : OpenClaim := { program := "ytiiechnbionhnaa", sum := "f75e549289bc586e2a3d13fcf6f7a89da914297803c34015424ff9e921fd92b8", func := "loop.example/g00126/laws.FnExactMask", spec := "fnExactMask", inPlace := ["internal/abi.NoEscape", "internal/bytealg.MakeNoZero"], unfollowed := true, recurses := true, apart := false }
def FnExactMaskSaid : Prop := fnExactMaskRow.holds Try.pinned (OpenSpec.ofChange fnExactMaskSpec)

/-- ITS FALSE NEIGHBOUR: 'it returns false'. Refute it at one input. -/
def fnExactMaskWrong : ChangeSpec := { name := "fnExactMask", fn := fun _ => fun
  | [d] => { results := [.lit (.bool false)], args := [d] }
  | _ => none }
def FnExactMaskWrongFalsely : Prop := fnExactMaskRow.holds Try.pinned (OpenSpec.ofChange fnExactMaskWrong)

/-- 'laws.FnExactRange': WHATEVER THE INPUT: true; the input reads as it did. -/
def fnExactRangeSpec : ChangeSpec := { name := "fnExactRange", fn := fun _ => fun
  | [d] => { results := [.lit (.bool true)], args := [d] }
  | _ => none }
def fnExactRangeRow : OpenClaim := { program := "ytiiechnbionhnaa", sum := "f75e549289bc586e2a3d13fcf6f7a89da914297803c34015424ff9e921fd92b8", func := "loop.example/g00126/laws.FnExactRange", spec := "fnExactRange", unfollowed := true, recurses := true, apart := false }
def FnExactRangeSaid : Prop := fnExactRangeRow.holds Try.pinned (OpenSpec.ofChange fnExactRangeSpec)

/-- ITS FALSE NEIGHBOUR: 'it returns false'. Refute it at one input. -/
def fnExactRangeWrong : ChangeSpec := { name := "fnExactRange", fn := fun _ => fun
  | [d] => { results := [.lit (.bool false)], args := [d] }
  | _ => none }
def FnExactRangeWrongFalsely : Prop := fnExactRangeRow.holds Try.pinned (OpenSpec.ofChange fnExactRangeWrong)

/-- 'laws.FnExactTurned': WHATEVER THE INPUT: true; the input reads as it did. -/
def fnExactTurnedSpec : ChangeSpec := { name := "fnExactTurned", fn := fun _ => fun
  | [d1, d2] => { results := [.lit (.bool true)], args := [d1, d2] }
  | _ => none }
def fnExactTurnedRow : OpenClaim := { program := "ytiiechnbionhnaa", sum := "f75e549289bc586e2a3d13fcf6f7a89da914297803c34015424ff9e921fd92b8", func := "loop.example/g00126/laws.FnExactTurned", spec := "fnExactTurned", apart := false }
def FnExactTurnedSaid : Prop := fnExactTurnedRow.holds Try.pinned (OpenSpec.ofChange fnExactTurnedSpec)

/-- ITS FALSE NEIGHBOUR: 'it returns false'. Refute it at one input. -/
def fnExactTurnedWrong : ChangeSpec := { name := "fnExactTurned", fn := fun _ => fun
  | [d1, d2] => { results := [.lit (.bool false)], args := [d1, d2] }
  | _ => none }
def FnExactTurnedWrongFalsely : Prop := fnExactTurnedRow.holds Try.pinned (OpenSpec.ofChange fnExactTurnedWrong)

/-- 'laws.FnExactCardField': WHATEVER THE INPUT: true; the input reads as it did. -/
def fnExactCardFieldSpec : ChangeSpec := { name := "fnExactCardField", fn := fun _ => fun
  | [d] => { results := [.lit (.bool true)], args := [d] }
  | _ => none }
def fnExactCardFieldRow : OpenClaim := { program := "ytiiechnbionhnaa", sum := "f75e549289bc586e2a3d13fcf6f7a89da914297803c34015424ff9e921fd92b8", func := "loop.example/g00126/laws.FnExactCardField", spec := "fnExactCardField", unfollowed := true, recurses := true, apart := false }
def FnExactCardFieldSaid : Prop := fnExactCardFieldRow.holds Try.pinned (OpenSpec.ofChange fnExactCardFieldSpec)

/-- ITS FALSE NEIGHBOUR: 'it returns false'. Refute it at one input. -/
def fnExactCardFieldWrong : ChangeSpec := { name := "fnExactCardField", fn := fun _ => fun
  | [d] => { results := [.lit (.bool false)], args := [d] }
  | _ => none }
def FnExactCardFieldWrongFalsely : Prop := fnExactCardFieldRow.holds Try.pinned (OpenSpec.ofChange fnExactCardFieldWrong)

/-- 'laws.FnCard': WHATEVER THE INPUT: true; the input reads as it did. -/
def fnCardSpec : ChangeSpec := { name := "fnCard", fn := fun _ => fun
  | [d] => { results := [.lit (.bool true)], args := [d] }
  | _ => none }
def fnCardRow : OpenClaim := { program := "ytiiechnbionhnaa", sum := "f75e549289bc586e2a3d13fcf6f7a89da914297803c34015424ff9e921fd92b8", func := "loop.example/g00126/laws.FnCard", spec := "fnCard", unfollowed := true, recurses := true, apart := false }
def FnCardSaid : Prop := fnCardRow.holds Try.pinned (OpenSpec.ofChange fnCardSpec)

/-- ITS FALSE NEIGHBOUR: 'it returns false'. Refute it at one input. -/
def fnCardWrong : ChangeSpec := { name := "fnCard", fn := fun _ => fun
  | [d] => { results := [.lit (.bool false)], args := [d] }
  | _ => none }
def FnCardWrongFalsely : Prop := fnCardRow.holds Try.pinned (OpenSpec.ofChange fnCardWrong)

/-- 'laws.FnMask': WHATEVER THE INPUT: true; the input reads as it did. -/
def fnMaskSpec : ChangeSpec := { name := "fnMask", fn := fun _ => fun
  | [d] => { results := [.lit (.bool true)], args := [d] }
  | _ => none }
def fnMaskRow : OpenClaim := { program := "ytiiechnbionhnaa", sum := "f75e549289bc586e2a3d13fcf6f7a89da914297803c34015424ff9e921fd92b8", func := "loop.example/g00126/laws.FnMask", spec := "fnMask", inPlace := ["internal/abi.NoEscape", "internal/bytealg.MakeNoZero"], unfollowed := true, recurses := true, apart := false }
def FnMaskSaid : Prop := fnMaskRow.holds Try.pinned (OpenSpec.ofChange fnMaskSpec)

/-- ITS FALSE NEIGHBOUR: 'it returns false'. Refute it at one input. -/
def fnMaskWrong : ChangeSpec := { name := "fnMask", fn := fun _ => fun
  | [d] => { results := [.lit (.bool false)], args := [d] }
  | _ => none }
def FnMaskWrongFalsely : Prop := fnMaskRow.holds Try.pinned (OpenSpec.ofChange fnMaskWrong)

/- THE SECOND FORM. 'bulk': how many values and letters a reading holds, each counted each time it is reached (what is shared counts as often as it is met; a slice's spare places count too). A statement '..UptoSaid' is the law's where the arguments, and the package variables that the reading takes, are together of bulk at most 1048576: NARROWER than '..Said'. Prove '..Said' where nothing that the law and all that it calls make is longer than what came in: it says more and counts as full. Else prove '..UptoSaid'. A law counts once. -/
mutual
def uptoBulk {H : Type} : DataW H → Nat
  | .lit (.string bytes) => bytes.length + 1
  | .lit _ => 1
  | .nil => 1
  | .ptr d => uptoBulk d + 1
  | .slice elems spare => uptoBulkAll elems + uptoBulkAll spare + 1
  | .agg parts => uptoBulkAll parts + 1
  | .iface _ d => uptoBulk d + 1
  | .map entries => uptoBulkEntries entries + 1
  | .held _ => 1
def uptoBulkAll {H : Type} : List (DataW H) → Nat
  | [] => 0
  | d :: r => uptoBulk d + uptoBulkAll r
def uptoBulkEntries {H : Type} : List (Lit × DataW H) → Nat
  | [] => 0
  | x :: r => uptoBulkEntry x + uptoBulkEntries r
def uptoBulkEntry {H : Type} : Lit × DataW H → Nat
  | (.string bytes, d) => bytes.length + uptoBulk d + 1
  | (_, d) => uptoBulk d + 1
 end
def uptoSmall : (H : Type) → List (DataW H) → Bool := fun _ ds => decide (uptoBulkAll ds ≤ 1048576)
def OpenSpec.upto (s : _root_.Go.ChangeSpec) : _root_.Go.OpenSpec := { _root_.Go.OpenSpec.ofChange s with cond := some uptoSmall }

/-- 'laws.FnExactCardOk', WHERE WHAT IT READS IS OF BULK AT MOST 1048576: true; the input reads as it did. -/
def fnExactCardOkUptoRow : OpenClaim := { program := "ytiiechnbionhnaa", sum := "f75e549289bc586e2a3d13fcf6f7a89da914297803c34015424ff9e921fd92b8", func := "loop.example/g00126/laws.FnExactCardOk", spec := "fnExactCardOk", unfollowed := true, recurses := true, apart := false, narrowed := true }
def FnExactCardOkUptoSaid : Prop := fnExactCardOkUptoRow.holds Try.pinned (OpenSpec.upto fnExactCardOkSpec)

/-- 'laws.FnExactCheckDigit', WHERE WHAT IT READS IS OF BULK AT MOST 1048576: true; the input reads as it did. -/
def fnExactCheckDigitUptoRow : OpenClaim := { program := "ytiiechnbionhnaa", sum := "f75e549289bc586e2a3d13fcf6f7a89da914297803c34015424ff9e921fd92b8", func := "loop.example/g00126/laws.FnExactCheckDigit", spec := "fnExactCheckDigit", unfollowed := true, recurses := true, apart := false, narrowed := true }
def FnExactCheckDigitUptoSaid : Prop := fnExactCheckDigitUptoRow.holds Try.pinned (OpenSpec.upto fnExactCheckDigitSpec)

/-- 'laws.FnExactMask', WHERE WHAT IT READS IS OF BULK AT MOST 1048576: true; the input reads as it did. -/
def fnExactMaskUptoRow : OpenClaim := { program := "ytiiechnbionhnaa", sum := "f75e549289bc586e2a3d13fcf6f7a89da914297803c34015424ff9e921fd92b8", func := "loop.example/g00126/laws.FnExactMask", spec := "fnExactMask", inPlace := ["internal/abi.NoEscape", "internal/bytealg.MakeNoZero"], unfollowed := true, recurses := true, apart := false, narrowed := true }
def FnExactMaskUptoSaid : Prop := fnExactMaskUptoRow.holds Try.pinned (OpenSpec.upto fnExactMaskSpec)

/-- 'laws.FnExactRange', WHERE WHAT IT READS IS OF BULK AT MOST 1048576: true; the input reads as it did. -/
def fnExactRangeUptoRow : OpenClaim := { program := "ytiiechnbionhnaa", sum := "f75e549289bc586e2a3d13fcf6f7a89da914297803c34015424ff9e921fd92b8", func := "loop.example/g00126/laws.FnExactRange", spec := "fnExactRange", unfollowed := true, recurses := true, apart := false, narrowed := true }
def FnExactRangeUptoSaid : Prop := fnExactRangeUptoRow.holds Try.pinned (OpenSpec.upto fnExactRangeSpec)

/-- 'laws.FnExactTurned', WHERE WHAT IT READS IS OF BULK AT MOST 1048576: true; the input reads as it did. -/
def fnExactTurnedUptoRow : OpenClaim := { program := "ytiiechnbionhnaa", sum := "f75e549289bc586e2a3d13fcf6f7a89da914297803c34015424ff9e921fd92b8", func := "loop.example/g00126/laws.FnExactTurned", spec := "fnExactTurned", apart := false, narrowed := true }
def FnExactTurnedUptoSaid : Prop := fnExactTurnedUptoRow.holds Try.pinned (OpenSpec.upto fnExactTurnedSpec)

/-- 'laws.FnExactCardField', WHERE WHAT IT READS IS OF BULK AT MOST 1048576: true; the input reads as it did. -/
def fnExactCardFieldUptoRow : OpenClaim := { program := "ytiiechnbionhnaa", sum := "f75e549289bc586e2a3d13fcf6f7a89da914297803c34015424ff9e921fd92b8", func := "loop.example/g00126/laws.FnExactCardField", spec := "fnExactCardField", unfollowed := true, recurses := true, apart := false, narrowed := true }
def FnExactCardFieldUptoSaid : Prop := fnExactCardFieldUptoRow.holds Try.pinned (OpenSpec.upto fnExactCardFieldSpec)

/-- 'laws.FnCard', WHERE WHAT IT READS IS OF BULK AT MOST 1048576: true; the input reads as it did. -/
def fnCardUptoRow : OpenClaim := { program := "ytiiechnbionhnaa", sum := "f75e549289bc586e2a3d13fcf6f7a89da914297803c34015424ff9e921fd92b8", func := "loop.example/g00126/laws.FnCard", spec := "fnCard", unfollowed := true, recurses := true, apart := false, narrowed := true }
def FnCardUptoSaid : Prop := fnCardUptoRow.holds Try.pinned (OpenSpec.upto fnCardSpec)

/-- 'laws.FnMask', WHERE WHAT IT READS IS OF BULK AT MOST 1048576: true; the input reads as it did. -/
def fnMaskUptoRow : OpenClaim := { program := "ytiiechnbionhnaa", sum := "f75e549289bc586e2a3d13fcf6f7a89da914297803c34015424ff9e921fd92b8", func := "loop.example/g00126/laws.FnMask", spec := "fnMask", inPlace := ["internal/abi.NoEscape", "internal/bytealg.MakeNoZero"], unfollowed := true, recurses := true, apart := false, narrowed := true }
def FnMaskUptoSaid : Prop := fnMaskUptoRow.holds Try.pinned (OpenSpec.upto fnMaskSpec)

end Rows
end Go.Proofs.Ytiiechnbionhnaa
