/-
  No cell of these rows narrows 'for every input' (looked for: loops, veiled, ifaces, maps, wideKeys, modest, calm, conditions, laid).
  DERIVED. THE GIVEN ROWS OF THIS SEAT. 7 by the template 'for every input the law returns true; each argument reads behind the call as it read before'; 0 by the template 'total and deterministic' (their statements: YtcglkfhphinfaaaTotals.lean).
  GIVEN WITH THE SEED: the statements are not yours to turn. If you find one false, say at which input.
  Laid BY PROGRAM, IN A SANDBOX (cutbox-rows.mjs): the forced cells as the released guide's own fill.sh prints them over the translation f17daf5040fa3581… (all of the seat's roots in one cut). By AI agents, Wed Nov 11 2026. No macro, syntax, notation, axiom, sorry.
-/
import Derived.Test.YtcglkfhphinfaaaChecked
import GoSem.Claim
import GoSem.ClaimJoined
import GoSem.ClaimMapViews
import Derived.JoinedTies
import Derived.KernelRfl
namespace Go.Proofs.Ytcglkfhphinfaaa
/- THE CELL 'sum', in the pinned program and in every row, IS THE sha256 OF THE DUMP (.gsa) THAT YtcglkfhphinfaaaProg.lean LOADS. Nothing in Lean hashes anything: it is a label: what it is worth is what the hold of that sum in a sandbox is worth. -/
noncomputable def Try.pinned : Pinned := { name := "ytcglkfhphinfaaa", sum := "f17daf5040fa3581797b92f2f5d7bb745db145c616adc8c5b9c9b5baf3077e41", checked := Try.checked }
namespace Rows
def none {H : Type} : Left H := { results := [], args := [] }

/-- 'laws.FnExactReasonOk': WHATEVER THE INPUT: true; the input reads as it did. -/
def fnExactReasonOkSpec : ChangeSpec := { name := "fnExactReasonOk", fn := fun _ => fun
  | [d] => { results := [.lit (.bool true)], args := [d] }
  | _ => none }
def fnExactReasonOkRow : OpenClaim := { program := "ytcglkfhphinfaaa", sum := "f17daf5040fa3581797b92f2f5d7bb745db145c616adc8c5b9c9b5baf3077e41", func := "loop.example/g00126/laws.FnExactReasonOk", spec := "fnExactReasonOk", apart := false }
def FnExactReasonOkSaid : Prop := fnExactReasonOkRow.holds Try.pinned (OpenSpec.ofChange fnExactReasonOkSpec)

/-- ITS FALSE NEIGHBOUR: 'it returns false'. Refute it at one input. -/
def fnExactReasonOkWrong : ChangeSpec := { name := "fnExactReasonOk", fn := fun _ => fun
  | [d] => { results := [.lit (.bool false)], args := [d] }
  | _ => none }
def FnExactReasonOkWrongFalsely : Prop := fnExactReasonOkRow.holds Try.pinned (OpenSpec.ofChange fnExactReasonOkWrong)

/-- 'laws.FnExactReasonDays': WHATEVER THE INPUT: true; the input reads as it did. -/
def fnExactReasonDaysSpec : ChangeSpec := { name := "fnExactReasonDays", fn := fun _ => fun
  | [d] => { results := [.lit (.bool true)], args := [d] }
  | _ => none }
def fnExactReasonDaysRow : OpenClaim := { program := "ytcglkfhphinfaaa", sum := "f17daf5040fa3581797b92f2f5d7bb745db145c616adc8c5b9c9b5baf3077e41", func := "loop.example/g00126/laws.FnExactReasonDays", spec := "fnExactReasonDays", apart := false }
def FnExactReasonDaysSaid : Prop := fnExactReasonDaysRow.holds Try.pinned (OpenSpec.ofChange fnExactReasonDaysSpec)

/-- ITS FALSE NEIGHBOUR: 'it returns false'. Refute it at one input. -/
def fnExactReasonDaysWrong : ChangeSpec := { name := "fnExactReasonDays", fn := fun _ => fun
  | [d] => { results := [.lit (.bool false)], args := [d] }
  | _ => none }
def FnExactReasonDaysWrongFalsely : Prop := fnExactReasonDaysRow.holds Try.pinned (OpenSpec.ofChange fnExactReasonDaysWrong)

/-- 'laws.FnExactReasonPart': WHATEVER THE INPUT: true; the input reads as it did. -/
def fnExactReasonPartSpec : ChangeSpec := { name := "fnExactReasonPart", fn := fun _ => fun
  | [d] => { results := [.lit (.bool true)], args := [d] }
  | _ => none }
def fnExactReasonPartRow : OpenClaim := { program := "ytcglkfhphinfaaa", sum := "f17daf5040fa3581797b92f2f5d7bb745db145c616adc8c5b9c9b5baf3077e41", func := "loop.example/g00126/laws.FnExactReasonPart", spec := "fnExactReasonPart", apart := false }
def FnExactReasonPartSaid : Prop := fnExactReasonPartRow.holds Try.pinned (OpenSpec.ofChange fnExactReasonPartSpec)

/-- ITS FALSE NEIGHBOUR: 'it returns false'. Refute it at one input. -/
def fnExactReasonPartWrong : ChangeSpec := { name := "fnExactReasonPart", fn := fun _ => fun
  | [d] => { results := [.lit (.bool false)], args := [d] }
  | _ => none }
def FnExactReasonPartWrongFalsely : Prop := fnExactReasonPartRow.holds Try.pinned (OpenSpec.ofChange fnExactReasonPartWrong)

/-- 'laws.FnExactReasonProof': WHATEVER THE INPUT: true; the input reads as it did. -/
def fnExactReasonProofSpec : ChangeSpec := { name := "fnExactReasonProof", fn := fun _ => fun
  | [d] => { results := [.lit (.bool true)], args := [d] }
  | _ => none }
def fnExactReasonProofRow : OpenClaim := { program := "ytcglkfhphinfaaa", sum := "f17daf5040fa3581797b92f2f5d7bb745db145c616adc8c5b9c9b5baf3077e41", func := "loop.example/g00126/laws.FnExactReasonProof", spec := "fnExactReasonProof", apart := false }
def FnExactReasonProofSaid : Prop := fnExactReasonProofRow.holds Try.pinned (OpenSpec.ofChange fnExactReasonProofSpec)

/-- ITS FALSE NEIGHBOUR: 'it returns false'. Refute it at one input. -/
def fnExactReasonProofWrong : ChangeSpec := { name := "fnExactReasonProof", fn := fun _ => fun
  | [d] => { results := [.lit (.bool false)], args := [d] }
  | _ => none }
def FnExactReasonProofWrongFalsely : Prop := fnExactReasonProofRow.holds Try.pinned (OpenSpec.ofChange fnExactReasonProofWrong)

/-- 'laws.FnExactCaseOk': WHATEVER THE INPUT: true; the input reads as it did. -/
def fnExactCaseOkSpec : ChangeSpec := { name := "fnExactCaseOk", fn := fun _ => fun
  | [d] => { results := [.lit (.bool true)], args := [d] }
  | _ => none }
def fnExactCaseOkRow : OpenClaim := { program := "ytcglkfhphinfaaa", sum := "f17daf5040fa3581797b92f2f5d7bb745db145c616adc8c5b9c9b5baf3077e41", func := "loop.example/g00126/laws.FnExactCaseOk", spec := "fnExactCaseOk", apart := false }
def FnExactCaseOkSaid : Prop := fnExactCaseOkRow.holds Try.pinned (OpenSpec.ofChange fnExactCaseOkSpec)

/-- ITS FALSE NEIGHBOUR: 'it returns false'. Refute it at one input. -/
def fnExactCaseOkWrong : ChangeSpec := { name := "fnExactCaseOk", fn := fun _ => fun
  | [d] => { results := [.lit (.bool false)], args := [d] }
  | _ => none }
def FnExactCaseOkWrongFalsely : Prop := fnExactCaseOkRow.holds Try.pinned (OpenSpec.ofChange fnExactCaseOkWrong)

/-- 'laws.FnExactCaseStart': WHATEVER THE INPUT: true; the input reads as it did. -/
def fnExactCaseStartSpec : ChangeSpec := { name := "fnExactCaseStart", fn := fun _ => fun
  | [d1, d2, d3, d4, d5] => { results := [.lit (.bool true)], args := [d1, d2, d3, d4, d5] }
  | _ => none }
def fnExactCaseStartRow : OpenClaim := { program := "ytcglkfhphinfaaa", sum := "f17daf5040fa3581797b92f2f5d7bb745db145c616adc8c5b9c9b5baf3077e41", func := "loop.example/g00126/laws.FnExactCaseStart", spec := "fnExactCaseStart", apart := false }
def FnExactCaseStartSaid : Prop := fnExactCaseStartRow.holds Try.pinned (OpenSpec.ofChange fnExactCaseStartSpec)

/-- ITS FALSE NEIGHBOUR: 'it returns false'. Refute it at one input. -/
def fnExactCaseStartWrong : ChangeSpec := { name := "fnExactCaseStart", fn := fun _ => fun
  | [d1, d2, d3, d4, d5] => { results := [.lit (.bool false)], args := [d1, d2, d3, d4, d5] }
  | _ => none }
def FnExactCaseStartWrongFalsely : Prop := fnExactCaseStartRow.holds Try.pinned (OpenSpec.ofChange fnExactCaseStartWrong)

/-- 'laws.FnExactCaseNet': WHATEVER THE INPUT: true; the input reads as it did. -/
def fnExactCaseNetSpec : ChangeSpec := { name := "fnExactCaseNet", fn := fun _ => fun
  | [d] => { results := [.lit (.bool true)], args := [d] }
  | _ => none }
def fnExactCaseNetRow : OpenClaim := { program := "ytcglkfhphinfaaa", sum := "f17daf5040fa3581797b92f2f5d7bb745db145c616adc8c5b9c9b5baf3077e41", func := "loop.example/g00126/laws.FnExactCaseNet", spec := "fnExactCaseNet", apart := false }
def FnExactCaseNetSaid : Prop := fnExactCaseNetRow.holds Try.pinned (OpenSpec.ofChange fnExactCaseNetSpec)

/-- ITS FALSE NEIGHBOUR: 'it returns false'. Refute it at one input. -/
def fnExactCaseNetWrong : ChangeSpec := { name := "fnExactCaseNet", fn := fun _ => fun
  | [d] => { results := [.lit (.bool false)], args := [d] }
  | _ => none }
def FnExactCaseNetWrongFalsely : Prop := fnExactCaseNetRow.holds Try.pinned (OpenSpec.ofChange fnExactCaseNetWrong)

/- THE SECOND FORM. 'bulk': how many values and letters a reading holds, each counted each time it is reached (what is shared counts as often as it is met; a slice's spare places count too). A statement '..UptoSaid' is the law's where the arguments, and the package variables that the reading takes, are together of bulk at most 1048576: NARROWER than '..Said'. Prove '..Said' where nothing that the law and all that it calls make is longer than what came in: it says more and counts as full. Else prove '..UptoSaid'. A law counts once. -/
mutual
def uptoBulk {H : Type} : DataW H → Nat
  | .lit (.string bytes) => bytes.length + 1
  | .lit _ => 1
  | .nil => 1
  | .ptr d => uptoBulk d + 1
  | .slice elems spare => uptoBulkAll elems + uptoBulkAll spare + 1
  | .agg parts => uptoBulkAll parts + 1
  | .iface _ d => uptoBulk d + 1
  | .map entries => uptoBulkEntries entries + 1
  | .held _ => 1
def uptoBulkAll {H : Type} : List (DataW H) → Nat
  | [] => 0
  | d :: r => uptoBulk d + uptoBulkAll r
def uptoBulkEntries {H : Type} : List (Lit × DataW H) → Nat
  | [] => 0
  | x :: r => uptoBulkEntry x + uptoBulkEntries r
def uptoBulkEntry {H : Type} : Lit × DataW H → Nat
  | (.string bytes, d) => bytes.length + uptoBulk d + 1
  | (_, d) => uptoBulk d + 1
 end
def uptoSmall : (H : Type) → List (DataW H) → Bool := fun _ ds => decide (uptoBulkAll ds ≤ 1048576)
def OpenSpec.upto (s : _root_.Go.ChangeSpec) : _root_.Go.OpenSpec := { _root_.Go.OpenSpec.ofChange s with cond := some uptoSmall }

/-- 'laws.FnExactReasonOk', WHERE WHAT IT READS IS OF BULK AT MOST 1048576: true; the input reads as it did. -/
def fnExactReasonOkUptoRow : OpenClaim := { program := "ytcglkfhphinfaaa", sum := "f17daf5040fa3581797b92f2f5d7bb745db145c616adc8c5b9c9b5baf3077e41", func := "loop.example/g00126/laws.FnExactReasonOk", spec := "fnExactReasonOk", apart := false, narrowed := true }
def FnExactReasonOkUptoSaid : Prop := fnExactReasonOkUptoRow.holds Try.pinned (OpenSpec.upto fnExactReasonOkSpec)

/-- 'laws.FnExactReasonDays', WHERE WHAT IT READS IS OF BULK AT MOST 1048576: true; the input reads as it did. -/
def fnExactReasonDaysUptoRow : OpenClaim := { program := "ytcglkfhphinfaaa", sum := "f17daf5040fa3581797b92f2f5d7bb745db145c616adc8c5b9c9b5baf3077e41", func := "loop.example/g00126/laws.FnExactReasonDays", spec := "fnExactReasonDays", apart := false, narrowed := true }
def FnExactReasonDaysUptoSaid : Prop := fnExactReasonDaysUptoRow.holds Try.pinned (OpenSpec.upto fnExactReasonDaysSpec)

/-- 'laws.FnExactReasonPart', WHERE WHAT IT READS IS OF BULK AT MOST 1048576: true; the input reads as it did. -/
def fnExactReasonPartUptoRow : OpenClaim := { program := "ytcglkfhphinfaaa", sum := "f17daf5040fa3581797b92f2f5d7bb745db145c616adc8c5b9c9b5baf3077e41", func := "loop.example/g00126/laws.FnExactReasonPart", spec := "fnExactReasonPart", apart := false, narrowed := true }
def FnExactReasonPartUptoSaid : Prop := fnExactReasonPartUptoRow.holds Try.pinned (OpenSpec.upto fnExactReasonPartSpec)

/-- 'laws.FnExactReasonProof', WHERE WHAT IT READS IS OF BULK AT MOST 1048576: true; the input reads as it did. -/
def fnExactReasonProofUptoRow : OpenClaim := { program := "ytcglkfhphinfaaa", sum := "f17daf5040fa3581797b92f2f5d7bb745db145c616adc8c5b9c9b5baf3077e41", func := "loop.example/g00126/laws.FnExactReasonProof", spec := "fnExactReasonProof", apart := false, narrowed := true }
def FnExactReasonProofUptoSaid : Prop := fnExactReasonProofUptoRow.holds Try.pinned (OpenSpec.upto fnExactReasonProofSpec)

/-- 'laws.FnExactCaseOk', WHERE WHAT IT READS IS OF BULK AT MOST 1048576: true; the input reads as it did. -/
def fnExactCaseOkUptoRow : OpenClaim := { program := "ytcglkfhphinfaaa", sum := "f17daf5040fa3581797b92f2f5d7bb745db145c616adc8c5b9c9b5baf3077e41", func := "loop.example/g00126/laws.FnExactCaseOk", spec := "fnExactCaseOk", apart := false, narrowed := true }
def FnExactCaseOkUptoSaid : Prop := fnExactCaseOkUptoRow.holds Try.pinned (OpenSpec.upto fnExactCaseOkSpec)

/-- 'laws.FnExactCaseStart', WHERE WHAT IT READS IS OF BULK AT MOST 1048576: true; the input reads as it did. -/
def fnExactCaseStartUptoRow : OpenClaim := { program := "ytcglkfhphinfaaa", sum := "f17daf5040fa3581797b92f2f5d7bb745db145c616adc8c5b9c9b5baf3077e41", func := "loop.example/g00126/laws.FnExactCaseStart", spec := "fnExactCaseStart", apart := false, narrowed := true }
def FnExactCaseStartUptoSaid : Prop := fnExactCaseStartUptoRow.holds Try.pinned (OpenSpec.upto fnExactCaseStartSpec)

/-- 'laws.FnExactCaseNet', WHERE WHAT IT READS IS OF BULK AT MOST 1048576: true; the input reads as it did. -/
def fnExactCaseNetUptoRow : OpenClaim := { program := "ytcglkfhphinfaaa", sum := "f17daf5040fa3581797b92f2f5d7bb745db145c616adc8c5b9c9b5baf3077e41", func := "loop.example/g00126/laws.FnExactCaseNet", spec := "fnExactCaseNet", apart := false, narrowed := true }
def FnExactCaseNetUptoSaid : Prop := fnExactCaseNetUptoRow.holds Try.pinned (OpenSpec.upto fnExactCaseNetSpec)

end Rows
end Go.Proofs.Ytcglkfhphinfaaa
