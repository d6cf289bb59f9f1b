/-
  No cell of these rows narrows 'for every input' (looked for: loops, veiled, ifaces, maps, wideKeys, modest, calm, conditions, laid).
  DERIVED. THE GIVEN ROWS OF THIS SEAT. 6 by the template 'for every input the law returns true; each argument reads behind the call as it read before'; 0 by the template 'total and deterministic' (their statements: YtkdodamdjajbiaaTotals.lean).
  GIVEN WITH THE SEED: the statements are not yours to turn. If you find one false, say at which input.
  Laid BY PROGRAM, IN A SANDBOX (cutbox-rows.mjs): the forced cells as the released guide's own fill.sh prints them over the translation 531b7f5f22eaf76e… (all of the seat's roots in one cut). By AI agents, Wed Nov 11 2026. No macro, syntax, notation, axiom, sorry.
-/
import Derived.Test.YtkdodamdjajbiaaChecked
import GoSem.Claim
import GoSem.ClaimJoined
import GoSem.ClaimMapViews
import Derived.JoinedTies
import Derived.KernelRfl
namespace Go.Proofs.Ytkdodamdjajbiaa
/- THE CELL 'sum', in the pinned program and in every row, IS THE sha256 OF THE DUMP (.gsa) THAT YtkdodamdjajbiaaProg.lean LOADS. Nothing in Lean hashes anything: it is a label: what it is worth is what the hold of that sum in a sandbox is worth. -/
noncomputable def Try.pinned : Pinned := { name := "ytkdodamdjajbiaa", sum := "531b7f5f22eaf76e46a5de7595e8e7fa91f5b1d5cc3eb865086e923371b286d7", checked := Try.checked }
namespace Rows
def none {H : Type} : Left H := { results := [], args := [] }

/-- 'laws.FnExactExpected': WHATEVER THE INPUT: true; the input reads as it did. -/
def fnExactExpectedSpec : ChangeSpec := { name := "fnExactExpected", fn := fun _ => fun
  | [d1, d2, d3] => { results := [.lit (.bool true)], args := [d1, d2, d3] }
  | _ => none }
def fnExactExpectedRow : OpenClaim := { program := "ytkdodamdjajbiaa", sum := "531b7f5f22eaf76e46a5de7595e8e7fa91f5b1d5cc3eb865086e923371b286d7", func := "loop.example/g00126/laws.FnExactExpected", spec := "fnExactExpected", unfollowed := true, recurses := true, apart := false }
def FnExactExpectedSaid : Prop := fnExactExpectedRow.holds Try.pinned (OpenSpec.ofChange fnExactExpectedSpec)

/-- ITS FALSE NEIGHBOUR: 'it returns false'. Refute it at one input. -/
def fnExactExpectedWrong : ChangeSpec := { name := "fnExactExpected", fn := fun _ => fun
  | [d1, d2, d3] => { results := [.lit (.bool false)], args := [d1, d2, d3] }
  | _ => none }
def FnExactExpectedWrongFalsely : Prop := fnExactExpectedRow.holds Try.pinned (OpenSpec.ofChange fnExactExpectedWrong)

/-- 'laws.FnExactCounts': WHATEVER THE INPUT: true; the input reads as it did. -/
def fnExactCountsSpec : ChangeSpec := { name := "fnExactCounts", fn := fun _ => fun
  | [d] => { results := [.lit (.bool true)], args := [d] }
  | _ => none }
def fnExactCountsRow : OpenClaim := { program := "ytkdodamdjajbiaa", sum := "531b7f5f22eaf76e46a5de7595e8e7fa91f5b1d5cc3eb865086e923371b286d7", func := "loop.example/g00126/laws.FnExactCounts", spec := "fnExactCounts", apart := false }
def FnExactCountsSaid : Prop := fnExactCountsRow.holds Try.pinned (OpenSpec.ofChange fnExactCountsSpec)

/-- ITS FALSE NEIGHBOUR: 'it returns false'. Refute it at one input. -/
def fnExactCountsWrong : ChangeSpec := { name := "fnExactCounts", fn := fun _ => fun
  | [d] => { results := [.lit (.bool false)], args := [d] }
  | _ => none }
def FnExactCountsWrongFalsely : Prop := fnExactCountsRow.holds Try.pinned (OpenSpec.ofChange fnExactCountsWrong)

/-- 'laws.FnExactOpen': WHATEVER THE INPUT: true; the input reads as it did. -/
def fnExactOpenSpec : ChangeSpec := { name := "fnExactOpen", fn := fun _ => fun
  | [d1, d2] => { results := [.lit (.bool true)], args := [d1, d2] }
  | _ => none }
def fnExactOpenRow : OpenClaim := { program := "ytkdodamdjajbiaa", sum := "531b7f5f22eaf76e46a5de7595e8e7fa91f5b1d5cc3eb865086e923371b286d7", func := "loop.example/g00126/laws.FnExactOpen", spec := "fnExactOpen", unfollowed := true, recurses := true, apart := false }
def FnExactOpenSaid : Prop := fnExactOpenRow.holds Try.pinned (OpenSpec.ofChange fnExactOpenSpec)

/-- ITS FALSE NEIGHBOUR: 'it returns false'. Refute it at one input. -/
def fnExactOpenWrong : ChangeSpec := { name := "fnExactOpen", fn := fun _ => fun
  | [d1, d2] => { results := [.lit (.bool false)], args := [d1, d2] }
  | _ => none }
def FnExactOpenWrongFalsely : Prop := fnExactOpenRow.holds Try.pinned (OpenSpec.ofChange fnExactOpenWrong)

/-- 'laws.FnExactGiven': WHATEVER THE INPUT: true; the input reads as it did. -/
def fnExactGivenSpec : ChangeSpec := { name := "fnExactGiven", fn := fun _ => fun
  | [d1, d2] => { results := [.lit (.bool true)], args := [d1, d2] }
  | _ => none }
def fnExactGivenRow : OpenClaim := { program := "ytkdodamdjajbiaa", sum := "531b7f5f22eaf76e46a5de7595e8e7fa91f5b1d5cc3eb865086e923371b286d7", func := "loop.example/g00126/laws.FnExactGiven", spec := "fnExactGiven", unfollowed := true, recurses := true, apart := false }
def FnExactGivenSaid : Prop := fnExactGivenRow.holds Try.pinned (OpenSpec.ofChange fnExactGivenSpec)

/-- ITS FALSE NEIGHBOUR: 'it returns false'. Refute it at one input. -/
def fnExactGivenWrong : ChangeSpec := { name := "fnExactGiven", fn := fun _ => fun
  | [d1, d2] => { results := [.lit (.bool false)], args := [d1, d2] }
  | _ => none }
def FnExactGivenWrongFalsely : Prop := fnExactGivenRow.holds Try.pinned (OpenSpec.ofChange fnExactGivenWrong)

/-- 'laws.FnExactBusiest': WHATEVER THE INPUT: true; the input reads as it did. -/
def fnExactBusiestSpec : ChangeSpec := { name := "fnExactBusiest", fn := fun _ => fun
  | [d] => { results := [.lit (.bool true)], args := [d] }
  | _ => none }
def fnExactBusiestRow : OpenClaim := { program := "ytkdodamdjajbiaa", sum := "531b7f5f22eaf76e46a5de7595e8e7fa91f5b1d5cc3eb865086e923371b286d7", func := "loop.example/g00126/laws.FnExactBusiest", spec := "fnExactBusiest", unfollowed := true, recurses := true, apart := false }
def FnExactBusiestSaid : Prop := fnExactBusiestRow.holds Try.pinned (OpenSpec.ofChange fnExactBusiestSpec)

/-- ITS FALSE NEIGHBOUR: 'it returns false'. Refute it at one input. -/
def fnExactBusiestWrong : ChangeSpec := { name := "fnExactBusiest", fn := fun _ => fun
  | [d] => { results := [.lit (.bool false)], args := [d] }
  | _ => none }
def FnExactBusiestWrongFalsely : Prop := fnExactBusiestRow.holds Try.pinned (OpenSpec.ofChange fnExactBusiestWrong)

/-- 'laws.FnExactBookText': WHATEVER THE INPUT: true; the input reads as it did. -/
def fnExactBookTextSpec : ChangeSpec := { name := "fnExactBookText", fn := fun _ => fun
  | [d] => { results := [.lit (.bool true)], args := [d] }
  | _ => none }
def fnExactBookTextRow : OpenClaim := { program := "ytkdodamdjajbiaa", sum := "531b7f5f22eaf76e46a5de7595e8e7fa91f5b1d5cc3eb865086e923371b286d7", func := "loop.example/g00126/laws.FnExactBookText", spec := "fnExactBookText", inPlace := ["internal/abi.NoEscape", "internal/bytealg.MakeNoZero"], apart := false }
def FnExactBookTextSaid : Prop := fnExactBookTextRow.holds Try.pinned (OpenSpec.ofChange fnExactBookTextSpec)

/-- ITS FALSE NEIGHBOUR: 'it returns false'. Refute it at one input. -/
def fnExactBookTextWrong : ChangeSpec := { name := "fnExactBookText", fn := fun _ => fun
  | [d] => { results := [.lit (.bool false)], args := [d] }
  | _ => none }
def FnExactBookTextWrongFalsely : Prop := fnExactBookTextRow.holds Try.pinned (OpenSpec.ofChange fnExactBookTextWrong)

/- THE SECOND FORM. 'bulk': how many values and letters a reading holds, each counted each time it is reached (what is shared counts as often as it is met; a slice's spare places count too). A statement '..UptoSaid' is the law's where the arguments, and the package variables that the reading takes, are together of bulk at most 1048576: NARROWER than '..Said'. Prove '..Said' where nothing that the law and all that it calls make is longer than what came in: it says more and counts as full. Else prove '..UptoSaid'. A law counts once. -/
mutual
def uptoBulk {H : Type} : DataW H → Nat
  | .lit (.string bytes) => bytes.length + 1
  | .lit _ => 1
  | .nil => 1
  | .ptr d => uptoBulk d + 1
  | .slice elems spare => uptoBulkAll elems + uptoBulkAll spare + 1
  | .agg parts => uptoBulkAll parts + 1
  | .iface _ d => uptoBulk d + 1
  | .map entries => uptoBulkEntries entries + 1
  | .held _ => 1
def uptoBulkAll {H : Type} : List (DataW H) → Nat
  | [] => 0
  | d :: r => uptoBulk d + uptoBulkAll r
def uptoBulkEntries {H : Type} : List (Lit × DataW H) → Nat
  | [] => 0
  | x :: r => uptoBulkEntry x + uptoBulkEntries r
def uptoBulkEntry {H : Type} : Lit × DataW H → Nat
  | (.string bytes, d) => bytes.length + uptoBulk d + 1
  | (_, d) => uptoBulk d + 1
 end
def uptoSmall : (H : Type) → List (DataW H) → Bool := fun _ ds => decide (uptoBulkAll ds ≤ 1048576)
def OpenSpec.upto (s : _root_.Go.ChangeSpec) : _root_.Go.OpenSpec := { _root_.Go.OpenSpec.ofChange s with cond := some uptoSmall }

/-- 'laws.FnExactExpected', WHERE WHAT IT READS IS OF BULK AT MOST 1048576: true; the input reads as it did. -/
def fnExactExpectedUptoRow : OpenClaim := { program := "ytkdodamdjajbiaa", sum := "531b7f5f22eaf76e46a5de7595e8e7fa91f5b1d5cc3eb865086e923371b286d7", func := "loop.example/g00126/laws.FnExactExpected", spec := "fnExactExpected", unfollowed := true, recurses := true, apart := false, narrowed := true }
def FnExactExpectedUptoSaid : Prop := fnExactExpectedUptoRow.holds Try.pinned (OpenSpec.upto fnExactExpectedSpec)

/-- 'laws.FnExactCounts', WHERE WHAT IT READS IS OF BULK AT MOST 1048576: true; the input reads as it did. -/
def fnExactCountsUptoRow : OpenClaim := { program := "ytkdodamdjajbiaa", sum := "531b7f5f22eaf76e46a5de7595e8e7fa91f5b1d5cc3eb865086e923371b286d7", func := "loop.example/g00126/laws.FnExactCounts", spec := "fnExactCounts", apart := false, narrowed := true }
def FnExactCountsUptoSaid : Prop := fnExactCountsUptoRow.holds Try.pinned (OpenSpec.upto fnExactCountsSpec)

/-- 'laws.FnExactOpen', WHERE WHAT IT READS IS OF BULK AT MOST 1048576: true; the input reads as it did. -/
def fnExactOpenUptoRow : OpenClaim := { program := "ytkdodamdjajbiaa", sum := "531b7f5f22eaf76e46a5de7595e8e7fa91f5b1d5cc3eb865086e923371b286d7", func := "loop.example/g00126/laws.FnExactOpen", spec := "fnExactOpen", unfollowed := true, recurses := true, apart := false, narrowed := true }
def FnExactOpenUptoSaid : Prop := fnExactOpenUptoRow.holds Try.pinned (OpenSpec.upto fnExactOpenSpec)

/-- 'laws.FnExactGiven', WHERE WHAT IT READS IS OF BULK AT MOST 1048576: true; the input reads as it did. -/
def fnExactGivenUptoRow : OpenClaim := { program := "ytkdodamdjajbiaa", sum := "531b7f5f22eaf76e46a5de7595e8e7fa91f5b1d5cc3eb865086e923371b286d7", func := "loop.example/g00126/laws.FnExactGiven", spec := "fnExactGiven", unfollowed := true, recurses := true, apart := false, narrowed := true }
def FnExactGivenUptoSaid : Prop := fnExactGivenUptoRow.holds Try.pinned (OpenSpec.upto fnExactGivenSpec)

/-- 'laws.FnExactBusiest', WHERE WHAT IT READS IS OF BULK AT MOST 1048576: true; the input reads as it did. -/
def fnExactBusiestUptoRow : OpenClaim := { program := "ytkdodamdjajbiaa", sum := "531b7f5f22eaf76e46a5de7595e8e7fa91f5b1d5cc3eb865086e923371b286d7", func := "loop.example/g00126/laws.FnExactBusiest", spec := "fnExactBusiest", unfollowed := true, recurses := true, apart := false, narrowed := true }
def FnExactBusiestUptoSaid : Prop := fnExactBusiestUptoRow.holds Try.pinned (OpenSpec.upto fnExactBusiestSpec)

/-- 'laws.FnExactBookText', WHERE WHAT IT READS IS OF BULK AT MOST 1048576: true; the input reads as it did. -/
def fnExactBookTextUptoRow : OpenClaim := { program := "ytkdodamdjajbiaa", sum := "531b7f5f22eaf76e46a5de7595e8e7fa91f5b1d5cc3eb865086e923371b286d7", func := "loop.example/g00126/laws.FnExactBookText", spec := "fnExactBookText", inPlace := ["internal/abi.NoEscape", "internal/bytealg.MakeNoZero"], apart := false, narrowed := true }
def FnExactBookTextUptoSaid : Prop := fnExactBookTextUptoRow.holds Try.pinned (OpenSpec.upto fnExactBookTextSpec)

end Rows
end Go.Proofs.Ytkdodamdjajbiaa
