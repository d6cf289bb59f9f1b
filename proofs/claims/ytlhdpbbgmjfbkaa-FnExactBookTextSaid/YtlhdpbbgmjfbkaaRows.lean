/-
  No cell of these rows narrows 'for every input' (looked for: loops, veiled, ifaces, maps, wideKeys, modest, calm, conditions, laid).
  DERIVED. THE GIVEN ROWS OF THIS SEAT. 4 by the template 'for every input the law returns true; each argument reads behind the call as it read before'; 0 by the template 'total and deterministic' (their statements: YtlhdpbbgmjfbkaaTotals.lean).
  GIVEN WITH THE SEED: the statements are not yours to turn. If you find one false, say at which input.
  Laid BY PROGRAM, IN A SANDBOX (cutbox-rows.mjs): the forced cells as the released guide's own fill.sh prints them over the translation 71404389cb9d6d73… (all of the seat's roots in one cut). By AI agents, Wed Nov 11 2026. No macro, syntax, notation, axiom, sorry.
-/
import Derived.Test.YtlhdpbbgmjfbkaaChecked
import GoSem.Claim
import GoSem.ClaimJoined
import GoSem.ClaimMapViews
import Derived.JoinedTies
import Derived.KernelRfl
namespace Go.Proofs.Ytlhdpbbgmjfbkaa
/- THE CELL 'sum', in the pinned program and in every row, IS THE sha256 OF THE DUMP (.gsa) THAT YtlhdpbbgmjfbkaaProg.lean LOADS. Nothing in Lean hashes anything: it is a label: what it is worth is what the hold of that sum in a sandbox is worth. -/
noncomputable def Try.pinned : Pinned := { name := "ytlhdpbbgmjfbkaa", sum := "71404389cb9d6d737a42d1e6f5a35c010579d03ff59e967c3e37d1d983e423a0", checked := Try.checked }
namespace Rows
def none {H : Type} : Left H := { results := [], args := [] }

/-- 'laws.FnExactBookOpen': WHATEVER THE INPUT: true; the input reads as it did. -/
def fnExactBookOpenSpec : ChangeSpec := { name := "fnExactBookOpen", fn := fun _ => fun
  | [d] => { results := [.lit (.bool true)], args := [d] }
  | _ => none }
def fnExactBookOpenRow : OpenClaim := { program := "ytlhdpbbgmjfbkaa", sum := "71404389cb9d6d737a42d1e6f5a35c010579d03ff59e967c3e37d1d983e423a0", func := "loop.example/g00126/laws.FnExactBookOpen", spec := "fnExactBookOpen", unfollowed := true, recurses := true, apart := false }
def FnExactBookOpenSaid : Prop := fnExactBookOpenRow.holds Try.pinned (OpenSpec.ofChange fnExactBookOpenSpec)

/-- ITS FALSE NEIGHBOUR: 'it returns false'. Refute it at one input. -/
def fnExactBookOpenWrong : ChangeSpec := { name := "fnExactBookOpen", fn := fun _ => fun
  | [d] => { results := [.lit (.bool false)], args := [d] }
  | _ => none }
def FnExactBookOpenWrongFalsely : Prop := fnExactBookOpenRow.holds Try.pinned (OpenSpec.ofChange fnExactBookOpenWrong)

/-- 'laws.FnExactBookDue': WHATEVER THE INPUT: true; the input reads as it did. -/
def fnExactBookDueSpec : ChangeSpec := { name := "fnExactBookDue", fn := fun _ => fun
  | [d] => { results := [.lit (.bool true)], args := [d] }
  | _ => none }
def fnExactBookDueRow : OpenClaim := { program := "ytlhdpbbgmjfbkaa", sum := "71404389cb9d6d737a42d1e6f5a35c010579d03ff59e967c3e37d1d983e423a0", func := "loop.example/g00126/laws.FnExactBookDue", spec := "fnExactBookDue", unfollowed := true, recurses := true, apart := false }
def FnExactBookDueSaid : Prop := fnExactBookDueRow.holds Try.pinned (OpenSpec.ofChange fnExactBookDueSpec)

/-- ITS FALSE NEIGHBOUR: 'it returns false'. Refute it at one input. -/
def fnExactBookDueWrong : ChangeSpec := { name := "fnExactBookDue", fn := fun _ => fun
  | [d] => { results := [.lit (.bool false)], args := [d] }
  | _ => none }
def FnExactBookDueWrongFalsely : Prop := fnExactBookDueRow.holds Try.pinned (OpenSpec.ofChange fnExactBookDueWrong)

/-- 'laws.FnExactBookText': WHATEVER THE INPUT: true; the input reads as it did. -/
def fnExactBookTextSpec : ChangeSpec := { name := "fnExactBookText", fn := fun _ => fun
  | [d] => { results := [.lit (.bool true)], args := [d] }
  | _ => none }
def fnExactBookTextRow : OpenClaim := { program := "ytlhdpbbgmjfbkaa", sum := "71404389cb9d6d737a42d1e6f5a35c010579d03ff59e967c3e37d1d983e423a0", func := "loop.example/g00126/laws.FnExactBookText", spec := "fnExactBookText", inPlace := ["internal/abi.NoEscape", "internal/bytealg.MakeNoZero"], apart := false }
def FnExactBookTextSaid : Prop := fnExactBookTextRow.holds Try.pinned (OpenSpec.ofChange fnExactBookTextSpec)

/-- ITS FALSE NEIGHBOUR: 'it returns false'. Refute it at one input. -/
def fnExactBookTextWrong : ChangeSpec := { name := "fnExactBookText", fn := fun _ => fun
  | [d] => { results := [.lit (.bool false)], args := [d] }
  | _ => none }
def FnExactBookTextWrongFalsely : Prop := fnExactBookTextRow.holds Try.pinned (OpenSpec.ofChange fnExactBookTextWrong)

/-- 'laws.FnNone': WHATEVER THE INPUT: true; the input reads as it did. -/
def fnNoneSpec : ChangeSpec := { name := "fnNone", fn := fun _ => fun
  | [d] => { results := [.lit (.bool true)], args := [d] }
  | _ => none }
def fnNoneRow : OpenClaim := { program := "ytlhdpbbgmjfbkaa", sum := "71404389cb9d6d737a42d1e6f5a35c010579d03ff59e967c3e37d1d983e423a0", func := "loop.example/g00126/laws.FnNone", spec := "fnNone", recurses := true, apart := false }
def FnNoneSaid : Prop := fnNoneRow.holds Try.pinned (OpenSpec.ofChange fnNoneSpec)

/-- ITS FALSE NEIGHBOUR: 'it returns false'. Refute it at one input. -/
def fnNoneWrong : ChangeSpec := { name := "fnNone", fn := fun _ => fun
  | [d] => { results := [.lit (.bool false)], args := [d] }
  | _ => none }
def FnNoneWrongFalsely : Prop := fnNoneRow.holds Try.pinned (OpenSpec.ofChange fnNoneWrong)

/- THE SECOND FORM. 'bulk': how many values and letters a reading holds, each counted each time it is reached (what is shared counts as often as it is met; a slice's spare places count too). A statement '..UptoSaid' is the law's where the arguments, and the package variables that the reading takes, are together of bulk at most 1048576: NARROWER than '..Said'. Prove '..Said' where nothing that the law and all that it calls make is longer than what came in: it says more and counts as full. Else prove '..UptoSaid'. A law counts once. -/
mutual
def uptoBulk {H : Type} : DataW H → Nat
  | .lit (.string bytes) => bytes.length + 1
  | .lit _ => 1
  | .nil => 1
  | .ptr d => uptoBulk d + 1
  | .slice elems spare => uptoBulkAll elems + uptoBulkAll spare + 1
  | .agg parts => uptoBulkAll parts + 1
  | .iface _ d => uptoBulk d + 1
  | .map entries => uptoBulkEntries entries + 1
  | .held _ => 1
def uptoBulkAll {H : Type} : List (DataW H) → Nat
  | [] => 0
  | d :: r => uptoBulk d + uptoBulkAll r
def uptoBulkEntries {H : Type} : List (Lit × DataW H) → Nat
  | [] => 0
  | x :: r => uptoBulkEntry x + uptoBulkEntries r
def uptoBulkEntry {H : Type} : Lit × DataW H → Nat
  | (.string bytes, d) => bytes.length + uptoBulk d + 1
  | (_, d) => uptoBulk d + 1
 end
def uptoSmall : (H : Type) → List (DataW H) → Bool := fun _ ds => decide (uptoBulkAll ds ≤ 1048576)
def OpenSpec.upto (s : _root_.Go.ChangeSpec) : _root_.Go.OpenSpec := { _root_.Go.OpenSpec.ofChange s with cond := some uptoSmall }

/-- 'laws.FnExactBookOpen', WHERE WHAT IT READS IS OF BULK AT MOST 1048576: true; the input reads as it did. -/
def fnExactBookOpenUptoRow : OpenClaim := { program := "ytlhdpbbgmjfbkaa", sum := "71404389cb9d6d737a42d1e6f5a35c010579d03ff59e967c3e37d1d983e423a0", func := "loop.example/g00126/laws.FnExactBookOpen", spec := "fnExactBookOpen", unfollowed := true, recurses := true, apart := false, narrowed := true }
def FnExactBookOpenUptoSaid : Prop := fnExactBookOpenUptoRow.holds Try.pinned (OpenSpec.upto fnExactBookOpenSpec)

/-- 'laws.FnExactBookDue', WHERE WHAT IT READS IS OF BULK AT MOST 1048576: true; the input reads as it did. -/
def fnExactBookDueUptoRow : OpenClaim := { program := "ytlhdpbbgmjfbkaa", sum := "71404389cb9d6d737a42d1e6f5a35c010579d03ff59e967c3e37d1d983e423a0", func := "loop.example/g00126/laws.FnExactBookDue", spec := "fnExactBookDue", unfollowed := true, recurses := true, apart := false, narrowed := true }
def FnExactBookDueUptoSaid : Prop := fnExactBookDueUptoRow.holds Try.pinned (OpenSpec.upto fnExactBookDueSpec)

/-- 'laws.FnExactBookText', WHERE WHAT IT READS IS OF BULK AT MOST 1048576: true; the input reads as it did. -/
def fnExactBookTextUptoRow : OpenClaim := { program := "ytlhdpbbgmjfbkaa", sum := "71404389cb9d6d737a42d1e6f5a35c010579d03ff59e967c3e37d1d983e423a0", func := "loop.example/g00126/laws.FnExactBookText", spec := "fnExactBookText", inPlace := ["internal/abi.NoEscape", "internal/bytealg.MakeNoZero"], apart := false, narrowed := true }
def FnExactBookTextUptoSaid : Prop := fnExactBookTextUptoRow.holds Try.pinned (OpenSpec.upto fnExactBookTextSpec)

/-- 'laws.FnNone', WHERE WHAT IT READS IS OF BULK AT MOST 1048576: true; the input reads as it did. -/
def fnNoneUptoRow : OpenClaim := { program := "ytlhdpbbgmjfbkaa", sum := "71404389cb9d6d737a42d1e6f5a35c010579d03ff59e967c3e37d1d983e423a0", func := "loop.example/g00126/laws.FnNone", spec := "fnNone", recurses := true, apart := false, narrowed := true }
def FnNoneUptoSaid : Prop := fnNoneUptoRow.holds Try.pinned (OpenSpec.upto fnNoneSpec)

end Rows
end Go.Proofs.Ytlhdpbbgmjfbkaa
