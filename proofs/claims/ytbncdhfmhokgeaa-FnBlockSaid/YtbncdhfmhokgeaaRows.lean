/-
  No cell of these rows narrows 'for every input' (looked for: loops, veiled, ifaces, maps, wideKeys, modest, calm, conditions, laid).
  DERIVED. THE GIVEN ROWS OF THIS SEAT. 3 by the template 'for every input the law returns true; each argument reads behind the call as it read before'; 0 by the template 'total and deterministic' (their statements: YtbncdhfmhokgeaaTotals.lean).
  GIVEN WITH THE SEED: the statements are not yours to turn. If you find one false, say at which input.
  Laid BY PROGRAM, IN A SANDBOX (cutbox-rows.mjs): the forced cells as the released guide's own fill.sh prints them over the translation 0efa26894edb6c77… (all of the seat's roots in one cut). By AI agents, Wed Nov 11 2026. No macro, syntax, notation, axiom, sorry.
-/
import Derived.Test.YtbncdhfmhokgeaaChecked
import GoSem.Claim
import GoSem.ClaimJoined
import GoSem.ClaimMapViews
import Derived.JoinedTies
import Derived.KernelRfl
namespace Go.Proofs.Ytbncdhfmhokgeaa
/- THE CELL 'sum', in the pinned program and in every row, IS THE sha256 OF THE DUMP (.gsa) THAT YtbncdhfmhokgeaaProg.lean LOADS. Nothing in Lean hashes anything: it is a label: what it is worth is what the hold of that sum in a sandbox is worth. -/
noncomputable def Try.pinned : Pinned := { name := "ytbncdhfmhokgeaa", sum := "0efa26894edb6c77df1c351576888b52598887181e8b0d6546256d983ef3f996", checked := Try.checked }
namespace Rows
def none {H : Type} : Left H := { results := [], args := [] }

/-- 'laws.FnBlock': WHATEVER THE INPUT: true; the input reads as it did. -/
def fnBlockSpec : ChangeSpec := { name := "fnBlock", fn := fun _ => fun
  | [d] => { results := [.lit (.bool true)], args := [d] }
  | _ => none }
def fnBlockRow : OpenClaim := { program := "ytbncdhfmhokgeaa", sum := "0efa26894edb6c77df1c351576888b52598887181e8b0d6546256d983ef3f996", func := "loop.example/g00126/laws.FnBlock", spec := "fnBlock", inPlace := ["internal/bytealg.MakeNoZero"], apart := false }
def FnBlockSaid : Prop := fnBlockRow.holds Try.pinned (OpenSpec.ofChange fnBlockSpec)

/-- ITS FALSE NEIGHBOUR: 'it returns false'. Refute it at one input. -/
def fnBlockWrong : ChangeSpec := { name := "fnBlock", fn := fun _ => fun
  | [d] => { results := [.lit (.bool false)], args := [d] }
  | _ => none }
def FnBlockWrongFalsely : Prop := fnBlockRow.holds Try.pinned (OpenSpec.ofChange fnBlockWrong)

/-- 'laws.FnExactBlock': WHATEVER THE INPUT: true; the input reads as it did. -/
def fnExactBlockSpec : ChangeSpec := { name := "fnExactBlock", fn := fun _ => fun
  | [d] => { results := [.lit (.bool true)], args := [d] }
  | _ => none }
def fnExactBlockRow : OpenClaim := { program := "ytbncdhfmhokgeaa", sum := "0efa26894edb6c77df1c351576888b52598887181e8b0d6546256d983ef3f996", func := "loop.example/g00126/laws.FnExactBlock", spec := "fnExactBlock", inPlace := ["internal/bytealg.MakeNoZero"], apart := false }
def FnExactBlockSaid : Prop := fnExactBlockRow.holds Try.pinned (OpenSpec.ofChange fnExactBlockSpec)

/-- ITS FALSE NEIGHBOUR: 'it returns false'. Refute it at one input. -/
def fnExactBlockWrong : ChangeSpec := { name := "fnExactBlock", fn := fun _ => fun
  | [d] => { results := [.lit (.bool false)], args := [d] }
  | _ => none }
def FnExactBlockWrongFalsely : Prop := fnExactBlockRow.holds Try.pinned (OpenSpec.ofChange fnExactBlockWrong)

/-- 'laws.FnExactUnblock': WHATEVER THE INPUT: true; the input reads as it did. -/
def fnExactUnblockSpec : ChangeSpec := { name := "fnExactUnblock", fn := fun _ => fun
  | [d] => { results := [.lit (.bool true)], args := [d] }
  | _ => none }
def fnExactUnblockRow : OpenClaim := { program := "ytbncdhfmhokgeaa", sum := "0efa26894edb6c77df1c351576888b52598887181e8b0d6546256d983ef3f996", func := "loop.example/g00126/laws.FnExactUnblock", spec := "fnExactUnblock", apart := false }
def FnExactUnblockSaid : Prop := fnExactUnblockRow.holds Try.pinned (OpenSpec.ofChange fnExactUnblockSpec)

/-- ITS FALSE NEIGHBOUR: 'it returns false'. Refute it at one input. -/
def fnExactUnblockWrong : ChangeSpec := { name := "fnExactUnblock", fn := fun _ => fun
  | [d] => { results := [.lit (.bool false)], args := [d] }
  | _ => none }
def FnExactUnblockWrongFalsely : Prop := fnExactUnblockRow.holds Try.pinned (OpenSpec.ofChange fnExactUnblockWrong)

/- THE SECOND FORM. 'bulk': how many values and letters a reading holds, each counted each time it is reached (what is shared counts as often as it is met; a slice's spare places count too). A statement '..UptoSaid' is the law's where the arguments, and the package variables that the reading takes, are together of bulk at most 1048576: NARROWER than '..Said'. Prove '..Said' where nothing that the law and all that it calls make is longer than what came in: it says more and counts as full. Else prove '..UptoSaid'. A law counts once. -/
mutual
def uptoBulk {H : Type} : DataW H → Nat
  | .lit (.string bytes) => bytes.length + 1
  | .lit _ => 1
  | .nil => 1
  | .ptr d => uptoBulk d + 1
  | .slice elems spare => uptoBulkAll elems + uptoBulkAll spare + 1
  | .agg parts => uptoBulkAll parts + 1
  | .iface _ d => uptoBulk d + 1
  | .map entries => uptoBulkEntries entries + 1
  | .held _ => 1
def uptoBulkAll {H : Type} : List (DataW H) → Nat
  | [] => 0
  | d :: r => uptoBulk d + uptoBulkAll r
def uptoBulkEntries {H : Type} : List (Lit × DataW H) → Nat
  | [] => 0
  | x :: r => uptoBulkEntry x + uptoBulkEntries r
def uptoBulkEntry {H : Type} : Lit × DataW H → Nat
  | (.string bytes, d) => bytes.length + uptoBulk d + 1
  | (_, d) => uptoBulk d + 1
 end
def uptoSmall : (H : Type) → List (DataW H) → Bool := fun _ ds => decide (uptoBulkAll ds ≤ 1048576)
def OpenSpec.upto (s : _root_.Go.ChangeSpec) : _root_.Go.OpenSpec := { _root_.Go.OpenSpec.ofChange s with cond := some uptoSmall }

/-- 'laws.FnBlock', WHERE WHAT IT READS IS OF BULK AT MOST 1048576: true; the input reads as it did. -/
def fnBlockUptoRow : OpenClaim := { program := "ytbncdhfmhokgeaa", sum := "0efa26894edb6c77df1c351576888b52598887181e8b0d6546256d983ef3f996", func := "loop.example/g00126/laws.FnBlock", spec := "fnBlock", inPlace := ["internal/bytealg.MakeNoZero"], apart := false, narrowed := true }
def FnBlockUptoSaid : Prop := fnBlockUptoRow.holds Try.pinned (OpenSpec.upto fnBlockSpec)

/-- 'laws.FnExactBlock', WHERE WHAT IT READS IS OF BULK AT MOST 1048576: true; the input reads as it did. -/
def fnExactBlockUptoRow : OpenClaim := { program := "ytbncdhfmhokgeaa", sum := "0efa26894edb6c77df1c351576888b52598887181e8b0d6546256d983ef3f996", func := "loop.example/g00126/laws.FnExactBlock", spec := "fnExactBlock", inPlace := ["internal/bytealg.MakeNoZero"], apart := false, narrowed := true }
def FnExactBlockUptoSaid : Prop := fnExactBlockUptoRow.holds Try.pinned (OpenSpec.upto fnExactBlockSpec)

/-- 'laws.FnExactUnblock', WHERE WHAT IT READS IS OF BULK AT MOST 1048576: true; the input reads as it did. -/
def fnExactUnblockUptoRow : OpenClaim := { program := "ytbncdhfmhokgeaa", sum := "0efa26894edb6c77df1c351576888b52598887181e8b0d6546256d983ef3f996", func := "loop.example/g00126/laws.FnExactUnblock", spec := "fnExactUnblock", apart := false, narrowed := true }
def FnExactUnblockUptoSaid : Prop := fnExactUnblockUptoRow.holds Try.pinned (OpenSpec.upto fnExactUnblockSpec)

end Rows
end Go.Proofs.Ytbncdhfmhokgeaa
