/-
  No cell of these rows narrows 'for every input' (looked for: loops, veiled, ifaces, maps, wideKeys, modest, calm, conditions, laid).
  DERIVED. THE GIVEN ROWS OF THIS SEAT. 11 by the template 'for every input the law returns true; each argument reads behind the call as it read before'; 0 by the template 'total and deterministic' (their statements: YtkhohbkdfgnmnaaTotals.lean).
  GIVEN WITH THE SEED: the statements are not yours to turn. If you find one false, say at which input.
  Laid BY PROGRAM, IN A SANDBOX (cutbox-rows.mjs): the forced cells as the released guide's own fill.sh prints them over the translation 7211f3f4208338aa… (all of the seat's roots in one cut). By AI agents, Wed Nov 11 2026. No macro, syntax, notation, axiom, sorry.
-/
import Derived.Test.YtkhohbkdfgnmnaaChecked
import GoSem.Claim
import GoSem.ClaimJoined
import GoSem.ClaimMapViews
import Derived.JoinedTies
import Derived.KernelRfl
namespace Go.Proofs.Ytkhohbkdfgnmnaa
/- THE CELL 'sum', in the pinned program and in every row, IS THE sha256 OF THE DUMP (.gsa) THAT YtkhohbkdfgnmnaaProg.lean LOADS. Nothing in Lean hashes anything: it is a label: what it is worth is what the hold of that sum in a sandbox is worth. -/
noncomputable def Try.pinned : Pinned := { name := "ytkhohbkdfgnmnaa", sum := "7211f3f4208338aa39fe3643ffe7b887c0207991aaa8ed186f1d2c42217b0ee7", checked := Try.checked }
namespace Rows
def none {H : Type} : Left H := { results := [], args := [] }

/-- 'laws.FnPlus': WHATEVER THE INPUT: true; the input reads as it did. -/
def fnPlusSpec : ChangeSpec := { name := "fnPlus", fn := fun _ => fun
  | [d] => { results := [.lit (.bool true)], args := [d] }
  | _ => none }
def fnPlusRow : OpenClaim := { program := "ytkhohbkdfgnmnaa", sum := "7211f3f4208338aa39fe3643ffe7b887c0207991aaa8ed186f1d2c42217b0ee7", func := "loop.example/g00126/laws.FnPlus", spec := "fnPlus", apart := false }
def FnPlusSaid : Prop := fnPlusRow.holds Try.pinned (OpenSpec.ofChange fnPlusSpec)

/-- ITS FALSE NEIGHBOUR: 'it returns false'. Refute it at one input. -/
def fnPlusWrong : ChangeSpec := { name := "fnPlus", fn := fun _ => fun
  | [d] => { results := [.lit (.bool false)], args := [d] }
  | _ => none }
def FnPlusWrongFalsely : Prop := fnPlusRow.holds Try.pinned (OpenSpec.ofChange fnPlusWrong)

/-- 'laws.FnScale': WHATEVER THE INPUT: true; the input reads as it did. -/
def fnScaleSpec : ChangeSpec := { name := "fnScale", fn := fun _ => fun
  | [d] => { results := [.lit (.bool true)], args := [d] }
  | _ => none }
def fnScaleRow : OpenClaim := { program := "ytkhohbkdfgnmnaa", sum := "7211f3f4208338aa39fe3643ffe7b887c0207991aaa8ed186f1d2c42217b0ee7", func := "loop.example/g00126/laws.FnScale", spec := "fnScale", apart := false }
def FnScaleSaid : Prop := fnScaleRow.holds Try.pinned (OpenSpec.ofChange fnScaleSpec)

/-- ITS FALSE NEIGHBOUR: 'it returns false'. Refute it at one input. -/
def fnScaleWrong : ChangeSpec := { name := "fnScale", fn := fun _ => fun
  | [d] => { results := [.lit (.bool false)], args := [d] }
  | _ => none }
def FnScaleWrongFalsely : Prop := fnScaleRow.holds Try.pinned (OpenSpec.ofChange fnScaleWrong)

/-- 'laws.FnSplit': WHATEVER THE INPUT: true; the input reads as it did. -/
def fnSplitSpec : ChangeSpec := { name := "fnSplit", fn := fun _ => fun
  | [d] => { results := [.lit (.bool true)], args := [d] }
  | _ => none }
def fnSplitRow : OpenClaim := { program := "ytkhohbkdfgnmnaa", sum := "7211f3f4208338aa39fe3643ffe7b887c0207991aaa8ed186f1d2c42217b0ee7", func := "loop.example/g00126/laws.FnSplit", spec := "fnSplit", apart := false }
def FnSplitSaid : Prop := fnSplitRow.holds Try.pinned (OpenSpec.ofChange fnSplitSpec)

/-- ITS FALSE NEIGHBOUR: 'it returns false'. Refute it at one input. -/
def fnSplitWrong : ChangeSpec := { name := "fnSplit", fn := fun _ => fun
  | [d] => { results := [.lit (.bool false)], args := [d] }
  | _ => none }
def FnSplitWrongFalsely : Prop := fnSplitRow.holds Try.pinned (OpenSpec.ofChange fnSplitWrong)

/-- 'laws.FnConvert': WHATEVER THE INPUT: true; the input reads as it did. -/
def fnConvertSpec : ChangeSpec := { name := "fnConvert", fn := fun _ => fun
  | [d] => { results := [.lit (.bool true)], args := [d] }
  | _ => none }
def fnConvertRow : OpenClaim := { program := "ytkhohbkdfgnmnaa", sum := "7211f3f4208338aa39fe3643ffe7b887c0207991aaa8ed186f1d2c42217b0ee7", func := "loop.example/g00126/laws.FnConvert", spec := "fnConvert", apart := false }
def FnConvertSaid : Prop := fnConvertRow.holds Try.pinned (OpenSpec.ofChange fnConvertSpec)

/-- ITS FALSE NEIGHBOUR: 'it returns false'. Refute it at one input. -/
def fnConvertWrong : ChangeSpec := { name := "fnConvert", fn := fun _ => fun
  | [d] => { results := [.lit (.bool false)], args := [d] }
  | _ => none }
def FnConvertWrongFalsely : Prop := fnConvertRow.holds Try.pinned (OpenSpec.ofChange fnConvertWrong)

/-- 'laws.FnExactMoneyOk': WHATEVER THE INPUT: true; the input reads as it did. -/
def fnExactMoneyOkSpec : ChangeSpec := { name := "fnExactMoneyOk", fn := fun _ => fun
  | [d] => { results := [.lit (.bool true)], args := [d] }
  | _ => none }
def fnExactMoneyOkRow : OpenClaim := { program := "ytkhohbkdfgnmnaa", sum := "7211f3f4208338aa39fe3643ffe7b887c0207991aaa8ed186f1d2c42217b0ee7", func := "loop.example/g00126/laws.FnExactMoneyOk", spec := "fnExactMoneyOk", apart := false }
def FnExactMoneyOkSaid : Prop := fnExactMoneyOkRow.holds Try.pinned (OpenSpec.ofChange fnExactMoneyOkSpec)

/-- ITS FALSE NEIGHBOUR: 'it returns false'. Refute it at one input. -/
def fnExactMoneyOkWrong : ChangeSpec := { name := "fnExactMoneyOk", fn := fun _ => fun
  | [d] => { results := [.lit (.bool false)], args := [d] }
  | _ => none }
def FnExactMoneyOkWrongFalsely : Prop := fnExactMoneyOkRow.holds Try.pinned (OpenSpec.ofChange fnExactMoneyOkWrong)

/-- 'laws.FnExactDigits': WHATEVER THE INPUT: true; the input reads as it did. -/
def fnExactDigitsSpec : ChangeSpec := { name := "fnExactDigits", fn := fun _ => fun
  | [d] => { results := [.lit (.bool true)], args := [d] }
  | _ => none }
def fnExactDigitsRow : OpenClaim := { program := "ytkhohbkdfgnmnaa", sum := "7211f3f4208338aa39fe3643ffe7b887c0207991aaa8ed186f1d2c42217b0ee7", func := "loop.example/g00126/laws.FnExactDigits", spec := "fnExactDigits", apart := false }
def FnExactDigitsSaid : Prop := fnExactDigitsRow.holds Try.pinned (OpenSpec.ofChange fnExactDigitsSpec)

/-- ITS FALSE NEIGHBOUR: 'it returns false'. Refute it at one input. -/
def fnExactDigitsWrong : ChangeSpec := { name := "fnExactDigits", fn := fun _ => fun
  | [d] => { results := [.lit (.bool false)], args := [d] }
  | _ => none }
def FnExactDigitsWrongFalsely : Prop := fnExactDigitsRow.holds Try.pinned (OpenSpec.ofChange fnExactDigitsWrong)

/-- 'laws.FnExactPlus': WHATEVER THE INPUT: true; the input reads as it did. -/
def fnExactPlusSpec : ChangeSpec := { name := "fnExactPlus", fn := fun _ => fun
  | [d1, d2] => { results := [.lit (.bool true)], args := [d1, d2] }
  | _ => none }
def fnExactPlusRow : OpenClaim := { program := "ytkhohbkdfgnmnaa", sum := "7211f3f4208338aa39fe3643ffe7b887c0207991aaa8ed186f1d2c42217b0ee7", func := "loop.example/g00126/laws.FnExactPlus", spec := "fnExactPlus", apart := false }
def FnExactPlusSaid : Prop := fnExactPlusRow.holds Try.pinned (OpenSpec.ofChange fnExactPlusSpec)

/-- ITS FALSE NEIGHBOUR: 'it returns false'. Refute it at one input. -/
def fnExactPlusWrong : ChangeSpec := { name := "fnExactPlus", fn := fun _ => fun
  | [d1, d2] => { results := [.lit (.bool false)], args := [d1, d2] }
  | _ => none }
def FnExactPlusWrongFalsely : Prop := fnExactPlusRow.holds Try.pinned (OpenSpec.ofChange fnExactPlusWrong)

/-- 'laws.FnExactTotal': WHATEVER THE INPUT: true; the input reads as it did. -/
def fnExactTotalSpec : ChangeSpec := { name := "fnExactTotal", fn := fun _ => fun
  | [d] => { results := [.lit (.bool true)], args := [d] }
  | _ => none }
def fnExactTotalRow : OpenClaim := { program := "ytkhohbkdfgnmnaa", sum := "7211f3f4208338aa39fe3643ffe7b887c0207991aaa8ed186f1d2c42217b0ee7", func := "loop.example/g00126/laws.FnExactTotal", spec := "fnExactTotal", apart := false }
def FnExactTotalSaid : Prop := fnExactTotalRow.holds Try.pinned (OpenSpec.ofChange fnExactTotalSpec)

/-- ITS FALSE NEIGHBOUR: 'it returns false'. Refute it at one input. -/
def fnExactTotalWrong : ChangeSpec := { name := "fnExactTotal", fn := fun _ => fun
  | [d] => { results := [.lit (.bool false)], args := [d] }
  | _ => none }
def FnExactTotalWrongFalsely : Prop := fnExactTotalRow.holds Try.pinned (OpenSpec.ofChange fnExactTotalWrong)

/-- 'laws.FnExactScale': WHATEVER THE INPUT: true; the input reads as it did. -/
def fnExactScaleSpec : ChangeSpec := { name := "fnExactScale", fn := fun _ => fun
  | [d1, d2, d3] => { results := [.lit (.bool true)], args := [d1, d2, d3] }
  | _ => none }
def fnExactScaleRow : OpenClaim := { program := "ytkhohbkdfgnmnaa", sum := "7211f3f4208338aa39fe3643ffe7b887c0207991aaa8ed186f1d2c42217b0ee7", func := "loop.example/g00126/laws.FnExactScale", spec := "fnExactScale", apart := false }
def FnExactScaleSaid : Prop := fnExactScaleRow.holds Try.pinned (OpenSpec.ofChange fnExactScaleSpec)

/-- ITS FALSE NEIGHBOUR: 'it returns false'. Refute it at one input. -/
def fnExactScaleWrong : ChangeSpec := { name := "fnExactScale", fn := fun _ => fun
  | [d1, d2, d3] => { results := [.lit (.bool false)], args := [d1, d2, d3] }
  | _ => none }
def FnExactScaleWrongFalsely : Prop := fnExactScaleRow.holds Try.pinned (OpenSpec.ofChange fnExactScaleWrong)

/-- 'laws.FnExactSplit': WHATEVER THE INPUT: true; the input reads as it did. -/
def fnExactSplitSpec : ChangeSpec := { name := "fnExactSplit", fn := fun _ => fun
  | [d1, d2] => { results := [.lit (.bool true)], args := [d1, d2] }
  | _ => none }
def fnExactSplitRow : OpenClaim := { program := "ytkhohbkdfgnmnaa", sum := "7211f3f4208338aa39fe3643ffe7b887c0207991aaa8ed186f1d2c42217b0ee7", func := "loop.example/g00126/laws.FnExactSplit", spec := "fnExactSplit", apart := false }
def FnExactSplitSaid : Prop := fnExactSplitRow.holds Try.pinned (OpenSpec.ofChange fnExactSplitSpec)

/-- ITS FALSE NEIGHBOUR: 'it returns false'. Refute it at one input. -/
def fnExactSplitWrong : ChangeSpec := { name := "fnExactSplit", fn := fun _ => fun
  | [d1, d2] => { results := [.lit (.bool false)], args := [d1, d2] }
  | _ => none }
def FnExactSplitWrongFalsely : Prop := fnExactSplitRow.holds Try.pinned (OpenSpec.ofChange fnExactSplitWrong)

/-- 'laws.FnExactConvert': WHATEVER THE INPUT: true; the input reads as it did. -/
def fnExactConvertSpec : ChangeSpec := { name := "fnExactConvert", fn := fun _ => fun
  | [d1, d2, d3, d4, d5] => { results := [.lit (.bool true)], args := [d1, d2, d3, d4, d5] }
  | _ => none }
def fnExactConvertRow : OpenClaim := { program := "ytkhohbkdfgnmnaa", sum := "7211f3f4208338aa39fe3643ffe7b887c0207991aaa8ed186f1d2c42217b0ee7", func := "loop.example/g00126/laws.FnExactConvert", spec := "fnExactConvert", apart := false }
def FnExactConvertSaid : Prop := fnExactConvertRow.holds Try.pinned (OpenSpec.ofChange fnExactConvertSpec)

/-- ITS FALSE NEIGHBOUR: 'it returns false'. Refute it at one input. -/
def fnExactConvertWrong : ChangeSpec := { name := "fnExactConvert", fn := fun _ => fun
  | [d1, d2, d3, d4, d5] => { results := [.lit (.bool false)], args := [d1, d2, d3, d4, d5] }
  | _ => none }
def FnExactConvertWrongFalsely : Prop := fnExactConvertRow.holds Try.pinned (OpenSpec.ofChange fnExactConvertWrong)

/- THE SECOND FORM. 'bulk': how many values and letters a reading holds, each counted each time it is reached (what is shared counts as often as it is met; a slice's spare places count too). A statement '..UptoSaid' is the law's where the arguments, and the package variables that the reading takes, are together of bulk at most 1048576: NARROWER than '..Said'. Prove '..Said' where nothing that the law and all that it calls make is longer than what came in: it says more and counts as full. Else prove '..UptoSaid'. A law counts once. -/
mutual
def uptoBulk {H : Type} : DataW H → Nat
  | .lit (.string bytes) => bytes.length + 1
  | .lit _ => 1
  | .nil => 1
  | .ptr d => uptoBulk d + 1
  | .slice elems spare => uptoBulkAll elems + uptoBulkAll spare + 1
  | .agg parts => uptoBulkAll parts + 1
  | .iface _ d => uptoBulk d + 1
  | .map entries => uptoBulkEntries entries + 1
  | .held _ => 1
def uptoBulkAll {H : Type} : List (DataW H) → Nat
  | [] => 0
  | d :: r => uptoBulk d + uptoBulkAll r
def uptoBulkEntries {H : Type} : List (Lit × DataW H) → Nat
  | [] => 0
  | x :: r => uptoBulkEntry x + uptoBulkEntries r
def uptoBulkEntry {H : Type} : Lit × DataW H → Nat
  | (.string bytes, d) => bytes.length + uptoBulk d + 1
  | (_, d) => uptoBulk d + 1
 end
def uptoSmall : (H : Type) → List (DataW H) → Bool := fun _ ds => decide (uptoBulkAll ds ≤ 1048576)
def OpenSpec.upto (s : _root_.Go.ChangeSpec) : _root_.Go.OpenSpec := { _root_.Go.OpenSpec.ofChange s with cond := some uptoSmall }

/-- 'laws.FnPlus', WHERE WHAT IT READS IS OF BULK AT MOST 1048576: true; the input reads as it did. -/
def fnPlusUptoRow : OpenClaim := { program := "ytkhohbkdfgnmnaa", sum := "7211f3f4208338aa39fe3643ffe7b887c0207991aaa8ed186f1d2c42217b0ee7", func := "loop.example/g00126/laws.FnPlus", spec := "fnPlus", apart := false, narrowed := true }
def FnPlusUptoSaid : Prop := fnPlusUptoRow.holds Try.pinned (OpenSpec.upto fnPlusSpec)

/-- 'laws.FnScale', WHERE WHAT IT READS IS OF BULK AT MOST 1048576: true; the input reads as it did. -/
def fnScaleUptoRow : OpenClaim := { program := "ytkhohbkdfgnmnaa", sum := "7211f3f4208338aa39fe3643ffe7b887c0207991aaa8ed186f1d2c42217b0ee7", func := "loop.example/g00126/laws.FnScale", spec := "fnScale", apart := false, narrowed := true }
def FnScaleUptoSaid : Prop := fnScaleUptoRow.holds Try.pinned (OpenSpec.upto fnScaleSpec)

/-- 'laws.FnSplit', WHERE WHAT IT READS IS OF BULK AT MOST 1048576: true; the input reads as it did. -/
def fnSplitUptoRow : OpenClaim := { program := "ytkhohbkdfgnmnaa", sum := "7211f3f4208338aa39fe3643ffe7b887c0207991aaa8ed186f1d2c42217b0ee7", func := "loop.example/g00126/laws.FnSplit", spec := "fnSplit", apart := false, narrowed := true }
def FnSplitUptoSaid : Prop := fnSplitUptoRow.holds Try.pinned (OpenSpec.upto fnSplitSpec)

/-- 'laws.FnConvert', WHERE WHAT IT READS IS OF BULK AT MOST 1048576: true; the input reads as it did. -/
def fnConvertUptoRow : OpenClaim := { program := "ytkhohbkdfgnmnaa", sum := "7211f3f4208338aa39fe3643ffe7b887c0207991aaa8ed186f1d2c42217b0ee7", func := "loop.example/g00126/laws.FnConvert", spec := "fnConvert", apart := false, narrowed := true }
def FnConvertUptoSaid : Prop := fnConvertUptoRow.holds Try.pinned (OpenSpec.upto fnConvertSpec)

/-- 'laws.FnExactMoneyOk', WHERE WHAT IT READS IS OF BULK AT MOST 1048576: true; the input reads as it did. -/
def fnExactMoneyOkUptoRow : OpenClaim := { program := "ytkhohbkdfgnmnaa", sum := "7211f3f4208338aa39fe3643ffe7b887c0207991aaa8ed186f1d2c42217b0ee7", func := "loop.example/g00126/laws.FnExactMoneyOk", spec := "fnExactMoneyOk", apart := false, narrowed := true }
def FnExactMoneyOkUptoSaid : Prop := fnExactMoneyOkUptoRow.holds Try.pinned (OpenSpec.upto fnExactMoneyOkSpec)

/-- 'laws.FnExactDigits', WHERE WHAT IT READS IS OF BULK AT MOST 1048576: true; the input reads as it did. -/
def fnExactDigitsUptoRow : OpenClaim := { program := "ytkhohbkdfgnmnaa", sum := "7211f3f4208338aa39fe3643ffe7b887c0207991aaa8ed186f1d2c42217b0ee7", func := "loop.example/g00126/laws.FnExactDigits", spec := "fnExactDigits", apart := false, narrowed := true }
def FnExactDigitsUptoSaid : Prop := fnExactDigitsUptoRow.holds Try.pinned (OpenSpec.upto fnExactDigitsSpec)

/-- 'laws.FnExactPlus', WHERE WHAT IT READS IS OF BULK AT MOST 1048576: true; the input reads as it did. -/
def fnExactPlusUptoRow : OpenClaim := { program := "ytkhohbkdfgnmnaa", sum := "7211f3f4208338aa39fe3643ffe7b887c0207991aaa8ed186f1d2c42217b0ee7", func := "loop.example/g00126/laws.FnExactPlus", spec := "fnExactPlus", apart := false, narrowed := true }
def FnExactPlusUptoSaid : Prop := fnExactPlusUptoRow.holds Try.pinned (OpenSpec.upto fnExactPlusSpec)

/-- 'laws.FnExactTotal', WHERE WHAT IT READS IS OF BULK AT MOST 1048576: true; the input reads as it did. -/
def fnExactTotalUptoRow : OpenClaim := { program := "ytkhohbkdfgnmnaa", sum := "7211f3f4208338aa39fe3643ffe7b887c0207991aaa8ed186f1d2c42217b0ee7", func := "loop.example/g00126/laws.FnExactTotal", spec := "fnExactTotal", apart := false, narrowed := true }
def FnExactTotalUptoSaid : Prop := fnExactTotalUptoRow.holds Try.pinned (OpenSpec.upto fnExactTotalSpec)

/-- 'laws.FnExactScale', WHERE WHAT IT READS IS OF BULK AT MOST 1048576: true; the input reads as it did. -/
def fnExactScaleUptoRow : OpenClaim := { program := "ytkhohbkdfgnmnaa", sum := "7211f3f4208338aa39fe3643ffe7b887c0207991aaa8ed186f1d2c42217b0ee7", func := "loop.example/g00126/laws.FnExactScale", spec := "fnExactScale", apart := false, narrowed := true }
def FnExactScaleUptoSaid : Prop := fnExactScaleUptoRow.holds Try.pinned (OpenSpec.upto fnExactScaleSpec)

/-- 'laws.FnExactSplit', WHERE WHAT IT READS IS OF BULK AT MOST 1048576: true; the input reads as it did. -/
def fnExactSplitUptoRow : OpenClaim := { program := "ytkhohbkdfgnmnaa", sum := "7211f3f4208338aa39fe3643ffe7b887c0207991aaa8ed186f1d2c42217b0ee7", func := "loop.example/g00126/laws.FnExactSplit", spec := "fnExactSplit", apart := false, narrowed := true }
def FnExactSplitUptoSaid : Prop := fnExactSplitUptoRow.holds Try.pinned (OpenSpec.upto fnExactSplitSpec)

/-- 'laws.FnExactConvert', WHERE WHAT IT READS IS OF BULK AT MOST 1048576: true; the input reads as it did. -/
def fnExactConvertUptoRow : OpenClaim := { program := "ytkhohbkdfgnmnaa", sum := "7211f3f4208338aa39fe3643ffe7b887c0207991aaa8ed186f1d2c42217b0ee7", func := "loop.example/g00126/laws.FnExactConvert", spec := "fnExactConvert", apart := false, narrowed := true }
def FnExactConvertUptoSaid : Prop := fnExactConvertUptoRow.holds Try.pinned (OpenSpec.upto fnExactConvertSpec)

end Rows
end Go.Proofs.Ytkhohbkdfgnmnaa
