/-
  No cell of these rows narrows 'for every input' (looked for: loops, veiled, ifaces, maps, wideKeys, modest, calm, conditions, laid).
  DERIVED. THE GIVEN ROWS OF THIS SEAT. 8 by the template 'for every input the law returns true; each argument reads behind the call as it read before'; 0 by the template 'total and deterministic' (their statements: YtcaepfomhcmfpaaTotals.lean).
  GIVEN WITH THE SEED: the statements are not yours to turn. If you find one false, say at which input.
  Laid BY PROGRAM, IN A SANDBOX (cutbox-rows.mjs): the forced cells as the released guide's own fill.sh prints them over the translation a7077a66d917dc5c… (all of the seat's roots in one cut). By AI agents, Wed Nov 11 2026. No macro, syntax, notation, axiom, sorry.
-/
import Derived.Test.YtcaepfomhcmfpaaChecked
import GoSem.Claim
import GoSem.ClaimJoined
import GoSem.ClaimMapViews
import Derived.JoinedTies
import Derived.KernelRfl
namespace Go.Proofs.Ytcaepfomhcmfpaa
/- THE CELL 'sum', in the pinned program and in every row, IS THE sha256 OF THE DUMP (.gsa) THAT YtcaepfomhcmfpaaProg.lean LOADS. Nothing in Lean hashes anything: it is a label: what it is worth is what the hold of that sum in a sandbox is worth. -/
noncomputable def Try.pinned : Pinned := { name := "ytcaepfomhcmfpaa", sum := "a7077a66d917dc5c197b662e4922108d108040eb197b8e1acee4f08594f6ae3b", checked := Try.checked }
namespace Rows
def none {H : Type} : Left H := { results := [], args := [] }

/-- 'laws.FnPost': WHATEVER THE INPUT: true; the input reads as it did. -/
def fnPostSpec : ChangeSpec := { name := "fnPost", fn := fun _ => fun
  | [d] => { results := [.lit (.bool true)], args := [d] }
  | _ => none }
def fnPostRow : OpenClaim := { program := "ytcaepfomhcmfpaa", sum := "a7077a66d917dc5c197b662e4922108d108040eb197b8e1acee4f08594f6ae3b", func := "loop.example/g00126/laws.FnPost", spec := "fnPost", unfollowed := true, recurses := true, plainKeys := false, apart := false }
def FnPostSaid : Prop := fnPostRow.holds Try.pinned (OpenSpec.ofChange fnPostSpec)

/-- ITS FALSE NEIGHBOUR: 'it returns false'. Refute it at one input. -/
def fnPostWrong : ChangeSpec := { name := "fnPost", fn := fun _ => fun
  | [d] => { results := [.lit (.bool false)], args := [d] }
  | _ => none }
def FnPostWrongFalsely : Prop := fnPostRow.holds Try.pinned (OpenSpec.ofChange fnPostWrong)

/-- 'laws.FnExactLedgerOk': WHATEVER THE INPUT: true; the input reads as it did. -/
def fnExactLedgerOkSpec : ChangeSpec := { name := "fnExactLedgerOk", fn := fun _ => fun
  | [d] => { results := [.lit (.bool true)], args := [d] }
  | _ => none }
def fnExactLedgerOkRow : OpenClaim := { program := "ytcaepfomhcmfpaa", sum := "a7077a66d917dc5c197b662e4922108d108040eb197b8e1acee4f08594f6ae3b", func := "loop.example/g00126/laws.FnExactLedgerOk", spec := "fnExactLedgerOk", plainKeys := false, apart := false }
def FnExactLedgerOkSaid : Prop := fnExactLedgerOkRow.holds Try.pinned (OpenSpec.ofChange fnExactLedgerOkSpec)

/-- ITS FALSE NEIGHBOUR: 'it returns false'. Refute it at one input. -/
def fnExactLedgerOkWrong : ChangeSpec := { name := "fnExactLedgerOk", fn := fun _ => fun
  | [d] => { results := [.lit (.bool false)], args := [d] }
  | _ => none }
def FnExactLedgerOkWrongFalsely : Prop := fnExactLedgerOkRow.holds Try.pinned (OpenSpec.ofChange fnExactLedgerOkWrong)

/-- 'laws.FnExactEntryOk': WHATEVER THE INPUT: true; the input reads as it did. -/
def fnExactEntryOkSpec : ChangeSpec := { name := "fnExactEntryOk", fn := fun _ => fun
  | [d] => { results := [.lit (.bool true)], args := [d] }
  | _ => none }
def fnExactEntryOkRow : OpenClaim := { program := "ytcaepfomhcmfpaa", sum := "a7077a66d917dc5c197b662e4922108d108040eb197b8e1acee4f08594f6ae3b", func := "loop.example/g00126/laws.FnExactEntryOk", spec := "fnExactEntryOk", plainKeys := false, apart := false }
def FnExactEntryOkSaid : Prop := fnExactEntryOkRow.holds Try.pinned (OpenSpec.ofChange fnExactEntryOkSpec)

/-- ITS FALSE NEIGHBOUR: 'it returns false'. Refute it at one input. -/
def fnExactEntryOkWrong : ChangeSpec := { name := "fnExactEntryOk", fn := fun _ => fun
  | [d] => { results := [.lit (.bool false)], args := [d] }
  | _ => none }
def FnExactEntryOkWrongFalsely : Prop := fnExactEntryOkRow.holds Try.pinned (OpenSpec.ofChange fnExactEntryOkWrong)

/-- 'laws.FnExactBalanceOf': WHATEVER THE INPUT: true; the input reads as it did. -/
def fnExactBalanceOfSpec : ChangeSpec := { name := "fnExactBalanceOf", fn := fun _ => fun
  | [d1, d2, d3] => { results := [.lit (.bool true)], args := [d1, d2, d3] }
  | _ => none }
def fnExactBalanceOfRow : OpenClaim := { program := "ytcaepfomhcmfpaa", sum := "a7077a66d917dc5c197b662e4922108d108040eb197b8e1acee4f08594f6ae3b", func := "loop.example/g00126/laws.FnExactBalanceOf", spec := "fnExactBalanceOf", plainKeys := false, apart := false }
def FnExactBalanceOfSaid : Prop := fnExactBalanceOfRow.holds Try.pinned (OpenSpec.ofChange fnExactBalanceOfSpec)

/-- ITS FALSE NEIGHBOUR: 'it returns false'. Refute it at one input. -/
def fnExactBalanceOfWrong : ChangeSpec := { name := "fnExactBalanceOf", fn := fun _ => fun
  | [d1, d2, d3] => { results := [.lit (.bool false)], args := [d1, d2, d3] }
  | _ => none }
def FnExactBalanceOfWrongFalsely : Prop := fnExactBalanceOfRow.holds Try.pinned (OpenSpec.ofChange fnExactBalanceOfWrong)

/-- 'laws.FnExactPost': WHATEVER THE INPUT: true; the input reads as it did. -/
def fnExactPostSpec : ChangeSpec := { name := "fnExactPost", fn := fun _ => fun
  | [d1, d2] => { results := [.lit (.bool true)], args := [d1, d2] }
  | _ => none }
def fnExactPostRow : OpenClaim := { program := "ytcaepfomhcmfpaa", sum := "a7077a66d917dc5c197b662e4922108d108040eb197b8e1acee4f08594f6ae3b", func := "loop.example/g00126/laws.FnExactPost", spec := "fnExactPost", unfollowed := true, recurses := true, plainKeys := false, apart := false }
def FnExactPostSaid : Prop := fnExactPostRow.holds Try.pinned (OpenSpec.ofChange fnExactPostSpec)

/-- ITS FALSE NEIGHBOUR: 'it returns false'. Refute it at one input. -/
def fnExactPostWrong : ChangeSpec := { name := "fnExactPost", fn := fun _ => fun
  | [d1, d2] => { results := [.lit (.bool false)], args := [d1, d2] }
  | _ => none }
def FnExactPostWrongFalsely : Prop := fnExactPostRow.holds Try.pinned (OpenSpec.ofChange fnExactPostWrong)

/-- 'laws.FnExactPostAll': WHATEVER THE INPUT: true; the input reads as it did. -/
def fnExactPostAllSpec : ChangeSpec := { name := "fnExactPostAll", fn := fun _ => fun
  | [d1, d2] => { results := [.lit (.bool true)], args := [d1, d2] }
  | _ => none }
def fnExactPostAllRow : OpenClaim := { program := "ytcaepfomhcmfpaa", sum := "a7077a66d917dc5c197b662e4922108d108040eb197b8e1acee4f08594f6ae3b", func := "loop.example/g00126/laws.FnExactPostAll", spec := "fnExactPostAll", unfollowed := true, recurses := true, plainKeys := false, apart := false }
def FnExactPostAllSaid : Prop := fnExactPostAllRow.holds Try.pinned (OpenSpec.ofChange fnExactPostAllSpec)

/-- ITS FALSE NEIGHBOUR: 'it returns false'. Refute it at one input. -/
def fnExactPostAllWrong : ChangeSpec := { name := "fnExactPostAll", fn := fun _ => fun
  | [d1, d2] => { results := [.lit (.bool false)], args := [d1, d2] }
  | _ => none }
def FnExactPostAllWrongFalsely : Prop := fnExactPostAllRow.holds Try.pinned (OpenSpec.ofChange fnExactPostAllWrong)

/-- 'laws.FnExactBack': WHATEVER THE INPUT: true; the input reads as it did. -/
def fnExactBackSpec : ChangeSpec := { name := "fnExactBack", fn := fun _ => fun
  | [d] => { results := [.lit (.bool true)], args := [d] }
  | _ => none }
def fnExactBackRow : OpenClaim := { program := "ytcaepfomhcmfpaa", sum := "a7077a66d917dc5c197b662e4922108d108040eb197b8e1acee4f08594f6ae3b", func := "loop.example/g00126/laws.FnExactBack", spec := "fnExactBack", plainKeys := false, apart := false }
def FnExactBackSaid : Prop := fnExactBackRow.holds Try.pinned (OpenSpec.ofChange fnExactBackSpec)

/-- ITS FALSE NEIGHBOUR: 'it returns false'. Refute it at one input. -/
def fnExactBackWrong : ChangeSpec := { name := "fnExactBack", fn := fun _ => fun
  | [d] => { results := [.lit (.bool false)], args := [d] }
  | _ => none }
def FnExactBackWrongFalsely : Prop := fnExactBackRow.holds Try.pinned (OpenSpec.ofChange fnExactBackWrong)

/-- 'laws.FnExactWorth': WHATEVER THE INPUT: true; the input reads as it did. -/
def fnExactWorthSpec : ChangeSpec := { name := "fnExactWorth", fn := fun _ => fun
  | [d1, d2] => { results := [.lit (.bool true)], args := [d1, d2] }
  | _ => none }
def fnExactWorthRow : OpenClaim := { program := "ytcaepfomhcmfpaa", sum := "a7077a66d917dc5c197b662e4922108d108040eb197b8e1acee4f08594f6ae3b", func := "loop.example/g00126/laws.FnExactWorth", spec := "fnExactWorth", plainKeys := false, apart := false }
def FnExactWorthSaid : Prop := fnExactWorthRow.holds Try.pinned (OpenSpec.ofChange fnExactWorthSpec)

/-- ITS FALSE NEIGHBOUR: 'it returns false'. Refute it at one input. -/
def fnExactWorthWrong : ChangeSpec := { name := "fnExactWorth", fn := fun _ => fun
  | [d1, d2] => { results := [.lit (.bool false)], args := [d1, d2] }
  | _ => none }
def FnExactWorthWrongFalsely : Prop := fnExactWorthRow.holds Try.pinned (OpenSpec.ofChange fnExactWorthWrong)

/- THE SECOND FORM. 'bulk': how many values and letters a reading holds, each counted each time it is reached (what is shared counts as often as it is met; a slice's spare places count too). A statement '..UptoSaid' is the law's where the arguments, and the package variables that the reading takes, are together of bulk at most 1048576: NARROWER than '..Said'. Prove '..Said' where nothing that the law and all that it calls make is longer than what came in: it says more and counts as full. Else prove '..UptoSaid'. A law counts once. -/
mutual
def uptoBulk {H : Type} : DataW H → Nat
  | .lit (.string bytes) => bytes.length + 1
  | .lit _ => 1
  | .nil => 1
  | .ptr d => uptoBulk d + 1
  | .slice elems spare => uptoBulkAll elems + uptoBulkAll spare + 1
  | .agg parts => uptoBulkAll parts + 1
  | .iface _ d => uptoBulk d + 1
  | .map entries => uptoBulkEntries entries + 1
  | .held _ => 1
def uptoBulkAll {H : Type} : List (DataW H) → Nat
  | [] => 0
  | d :: r => uptoBulk d + uptoBulkAll r
def uptoBulkEntries {H : Type} : List (Lit × DataW H) → Nat
  | [] => 0
  | x :: r => uptoBulkEntry x + uptoBulkEntries r
def uptoBulkEntry {H : Type} : Lit × DataW H → Nat
  | (.string bytes, d) => bytes.length + uptoBulk d + 1
  | (_, d) => uptoBulk d + 1
 end
def uptoSmall : (H : Type) → List (DataW H) → Bool := fun _ ds => decide (uptoBulkAll ds ≤ 1048576)
def OpenSpec.upto (s : _root_.Go.ChangeSpec) : _root_.Go.OpenSpec := { _root_.Go.OpenSpec.ofChange s with cond := some uptoSmall }

/-- 'laws.FnPost', WHERE WHAT IT READS IS OF BULK AT MOST 1048576: true; the input reads as it did. -/
def fnPostUptoRow : OpenClaim := { program := "ytcaepfomhcmfpaa", sum := "a7077a66d917dc5c197b662e4922108d108040eb197b8e1acee4f08594f6ae3b", func := "loop.example/g00126/laws.FnPost", spec := "fnPost", unfollowed := true, recurses := true, plainKeys := false, apart := false, narrowed := true }
def FnPostUptoSaid : Prop := fnPostUptoRow.holds Try.pinned (OpenSpec.upto fnPostSpec)

/-- 'laws.FnExactLedgerOk', WHERE WHAT IT READS IS OF BULK AT MOST 1048576: true; the input reads as it did. -/
def fnExactLedgerOkUptoRow : OpenClaim := { program := "ytcaepfomhcmfpaa", sum := "a7077a66d917dc5c197b662e4922108d108040eb197b8e1acee4f08594f6ae3b", func := "loop.example/g00126/laws.FnExactLedgerOk", spec := "fnExactLedgerOk", plainKeys := false, apart := false, narrowed := true }
def FnExactLedgerOkUptoSaid : Prop := fnExactLedgerOkUptoRow.holds Try.pinned (OpenSpec.upto fnExactLedgerOkSpec)

/-- 'laws.FnExactEntryOk', WHERE WHAT IT READS IS OF BULK AT MOST 1048576: true; the input reads as it did. -/
def fnExactEntryOkUptoRow : OpenClaim := { program := "ytcaepfomhcmfpaa", sum := "a7077a66d917dc5c197b662e4922108d108040eb197b8e1acee4f08594f6ae3b", func := "loop.example/g00126/laws.FnExactEntryOk", spec := "fnExactEntryOk", plainKeys := false, apart := false, narrowed := true }
def FnExactEntryOkUptoSaid : Prop := fnExactEntryOkUptoRow.holds Try.pinned (OpenSpec.upto fnExactEntryOkSpec)

/-- 'laws.FnExactBalanceOf', WHERE WHAT IT READS IS OF BULK AT MOST 1048576: true; the input reads as it did. -/
def fnExactBalanceOfUptoRow : OpenClaim := { program := "ytcaepfomhcmfpaa", sum := "a7077a66d917dc5c197b662e4922108d108040eb197b8e1acee4f08594f6ae3b", func := "loop.example/g00126/laws.FnExactBalanceOf", spec := "fnExactBalanceOf", plainKeys := false, apart := false, narrowed := true }
def FnExactBalanceOfUptoSaid : Prop := fnExactBalanceOfUptoRow.holds Try.pinned (OpenSpec.upto fnExactBalanceOfSpec)

/-- 'laws.FnExactPost', WHERE WHAT IT READS IS OF BULK AT MOST 1048576: true; the input reads as it did. -/
def fnExactPostUptoRow : OpenClaim := { program := "ytcaepfomhcmfpaa", sum := "a7077a66d917dc5c197b662e4922108d108040eb197b8e1acee4f08594f6ae3b", func := "loop.example/g00126/laws.FnExactPost", spec := "fnExactPost", unfollowed := true, recurses := true, plainKeys := false, apart := false, narrowed := true }
def FnExactPostUptoSaid : Prop := fnExactPostUptoRow.holds Try.pinned (OpenSpec.upto fnExactPostSpec)

/-- 'laws.FnExactPostAll', WHERE WHAT IT READS IS OF BULK AT MOST 1048576: true; the input reads as it did. -/
def fnExactPostAllUptoRow : OpenClaim := { program := "ytcaepfomhcmfpaa", sum := "a7077a66d917dc5c197b662e4922108d108040eb197b8e1acee4f08594f6ae3b", func := "loop.example/g00126/laws.FnExactPostAll", spec := "fnExactPostAll", unfollowed := true, recurses := true, plainKeys := false, apart := false, narrowed := true }
def FnExactPostAllUptoSaid : Prop := fnExactPostAllUptoRow.holds Try.pinned (OpenSpec.upto fnExactPostAllSpec)

/-- 'laws.FnExactBack', WHERE WHAT IT READS IS OF BULK AT MOST 1048576: true; the input reads as it did. -/
def fnExactBackUptoRow : OpenClaim := { program := "ytcaepfomhcmfpaa", sum := "a7077a66d917dc5c197b662e4922108d108040eb197b8e1acee4f08594f6ae3b", func := "loop.example/g00126/laws.FnExactBack", spec := "fnExactBack", plainKeys := false, apart := false, narrowed := true }
def FnExactBackUptoSaid : Prop := fnExactBackUptoRow.holds Try.pinned (OpenSpec.upto fnExactBackSpec)

/-- 'laws.FnExactWorth', WHERE WHAT IT READS IS OF BULK AT MOST 1048576: true; the input reads as it did. -/
def fnExactWorthUptoRow : OpenClaim := { program := "ytcaepfomhcmfpaa", sum := "a7077a66d917dc5c197b662e4922108d108040eb197b8e1acee4f08594f6ae3b", func := "loop.example/g00126/laws.FnExactWorth", spec := "fnExactWorth", plainKeys := false, apart := false, narrowed := true }
def FnExactWorthUptoSaid : Prop := fnExactWorthUptoRow.holds Try.pinned (OpenSpec.upto fnExactWorthSpec)

end Rows
end Go.Proofs.Ytcaepfomhcmfpaa
