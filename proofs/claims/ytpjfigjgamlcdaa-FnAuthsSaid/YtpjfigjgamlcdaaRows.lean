/-
  No cell of these rows narrows 'for every input' (looked for: loops, veiled, ifaces, maps, wideKeys, modest, calm, conditions, laid).
  DERIVED. THE GIVEN ROWS OF THIS SEAT. 8 by the template 'for every input the law returns true; each argument reads behind the call as it read before'; 0 by the template 'total and deterministic' (their statements: YtpjfigjgamlcdaaTotals.lean).
  GIVEN WITH THE SEED: the statements are not yours to turn. If you find one false, say at which input.
  Laid BY PROGRAM, IN A SANDBOX (cutbox-rows.mjs): the forced cells as the released guide's own fill.sh prints them over the translation 64c650cb14117952… (all of the seat's roots in one cut). By AI agents, Wed Nov 11 2026. No macro, syntax, notation, axiom, sorry.
-/
import Derived.Test.YtpjfigjgamlcdaaChecked
import GoSem.Claim
import GoSem.ClaimJoined
import GoSem.ClaimMapViews
import Derived.JoinedTies
import Derived.KernelRfl
namespace Go.Proofs.Ytpjfigjgamlcdaa
/- THE CELL 'sum', in the pinned program and in every row, IS THE sha256 OF THE DUMP (.gsa) THAT YtpjfigjgamlcdaaProg.lean LOADS. Nothing in Lean hashes anything: it is a label: what it is worth is what the hold of that sum in a sandbox is worth. -/
noncomputable def Try.pinned : Pinned := { name := "ytpjfigjgamlcdaa", sum := "64c650cb14117952d4b37555c81416d67b7adc899f4668afb9dbf48db3c1accb", checked := Try.checked }
namespace Rows
def none {H : Type} : Left H := { results := [], args := [] }

/-- 'laws.FnMatch': WHATEVER THE INPUT: true; the input reads as it did. -/
def fnMatchSpec : ChangeSpec := { name := "fnMatch", fn := fun _ => fun
  | [d] => { results := [.lit (.bool true)], args := [d] }
  | _ => none }
def fnMatchRow : OpenClaim := { program := "ytpjfigjgamlcdaa", sum := "64c650cb14117952d4b37555c81416d67b7adc899f4668afb9dbf48db3c1accb", func := "loop.example/g00126/laws.FnMatch", spec := "fnMatch", inPlace := ["internal/bytealg.IndexByteString", "internal/bytealg.IndexString"], unfollowed := true, recurses := true, named := ["internal/bytealg.MaxLen"], apart := false }
def FnMatchSaid : Prop := fnMatchRow.holds Try.pinned (OpenSpec.ofChange fnMatchSpec)

/-- ITS FALSE NEIGHBOUR: 'it returns false'. Refute it at one input. -/
def fnMatchWrong : ChangeSpec := { name := "fnMatch", fn := fun _ => fun
  | [d] => { results := [.lit (.bool false)], args := [d] }
  | _ => none }
def FnMatchWrongFalsely : Prop := fnMatchRow.holds Try.pinned (OpenSpec.ofChange fnMatchWrong)

/-- 'laws.FnAuths': WHATEVER THE INPUT: true; the input reads as it did. -/
def fnAuthsSpec : ChangeSpec := { name := "fnAuths", fn := fun _ => fun
  | [d] => { results := [.lit (.bool true)], args := [d] }
  | _ => none }
def fnAuthsRow : OpenClaim := { program := "ytpjfigjgamlcdaa", sum := "64c650cb14117952d4b37555c81416d67b7adc899f4668afb9dbf48db3c1accb", func := "loop.example/g00126/laws.FnAuths", spec := "fnAuths", inPlace := ["internal/bytealg.IndexByteString", "internal/bytealg.IndexString"], unfollowed := true, recurses := true, named := ["internal/bytealg.MaxLen"], apart := false }
def FnAuthsSaid : Prop := fnAuthsRow.holds Try.pinned (OpenSpec.ofChange fnAuthsSpec)

/-- ITS FALSE NEIGHBOUR: 'it returns false'. Refute it at one input. -/
def fnAuthsWrong : ChangeSpec := { name := "fnAuths", fn := fun _ => fun
  | [d] => { results := [.lit (.bool false)], args := [d] }
  | _ => none }
def FnAuthsWrongFalsely : Prop := fnAuthsRow.holds Try.pinned (OpenSpec.ofChange fnAuthsWrong)

/-- 'laws.FnExactAuthOk': WHATEVER THE INPUT: true; the input reads as it did. -/
def fnExactAuthOkSpec : ChangeSpec := { name := "fnExactAuthOk", fn := fun _ => fun
  | [d] => { results := [.lit (.bool true)], args := [d] }
  | _ => none }
def fnExactAuthOkRow : OpenClaim := { program := "ytpjfigjgamlcdaa", sum := "64c650cb14117952d4b37555c81416d67b7adc899f4668afb9dbf48db3c1accb", func := "loop.example/g00126/laws.FnExactAuthOk", spec := "fnExactAuthOk", inPlace := ["internal/bytealg.IndexByteString", "internal/bytealg.IndexString"], named := ["internal/bytealg.MaxLen"], apart := false }
def FnExactAuthOkSaid : Prop := fnExactAuthOkRow.holds Try.pinned (OpenSpec.ofChange fnExactAuthOkSpec)

/-- ITS FALSE NEIGHBOUR: 'it returns false'. Refute it at one input. -/
def fnExactAuthOkWrong : ChangeSpec := { name := "fnExactAuthOk", fn := fun _ => fun
  | [d] => { results := [.lit (.bool false)], args := [d] }
  | _ => none }
def FnExactAuthOkWrongFalsely : Prop := fnExactAuthOkRow.holds Try.pinned (OpenSpec.ofChange fnExactAuthOkWrong)

/-- 'laws.FnExactMatchScore': WHATEVER THE INPUT: true; the input reads as it did. -/
def fnExactMatchScoreSpec : ChangeSpec := { name := "fnExactMatchScore", fn := fun _ => fun
  | [d1, d2, d3, d4, d5] => { results := [.lit (.bool true)], args := [d1, d2, d3, d4, d5] }
  | _ => none }
def fnExactMatchScoreRow : OpenClaim := { program := "ytpjfigjgamlcdaa", sum := "64c650cb14117952d4b37555c81416d67b7adc899f4668afb9dbf48db3c1accb", func := "loop.example/g00126/laws.FnExactMatchScore", spec := "fnExactMatchScore", inPlace := ["internal/bytealg.IndexByteString", "internal/bytealg.IndexString"], named := ["internal/bytealg.MaxLen"], apart := false }
def FnExactMatchScoreSaid : Prop := fnExactMatchScoreRow.holds Try.pinned (OpenSpec.ofChange fnExactMatchScoreSpec)

/-- ITS FALSE NEIGHBOUR: 'it returns false'. Refute it at one input. -/
def fnExactMatchScoreWrong : ChangeSpec := { name := "fnExactMatchScore", fn := fun _ => fun
  | [d1, d2, d3, d4, d5] => { results := [.lit (.bool false)], args := [d1, d2, d3, d4, d5] }
  | _ => none }
def FnExactMatchScoreWrongFalsely : Prop := fnExactMatchScoreRow.holds Try.pinned (OpenSpec.ofChange fnExactMatchScoreWrong)

/-- 'laws.FnExactMatchBest': WHATEVER THE INPUT: true; the input reads as it did. -/
def fnExactMatchBestSpec : ChangeSpec := { name := "fnExactMatchBest", fn := fun _ => fun
  | [d1, d2, d3, d4, d5] => { results := [.lit (.bool true)], args := [d1, d2, d3, d4, d5] }
  | _ => none }
def fnExactMatchBestRow : OpenClaim := { program := "ytpjfigjgamlcdaa", sum := "64c650cb14117952d4b37555c81416d67b7adc899f4668afb9dbf48db3c1accb", func := "loop.example/g00126/laws.FnExactMatchBest", spec := "fnExactMatchBest", inPlace := ["internal/bytealg.IndexByteString", "internal/bytealg.IndexString"], unfollowed := true, recurses := true, named := ["internal/bytealg.MaxLen"], apart := false }
def FnExactMatchBestSaid : Prop := fnExactMatchBestRow.holds Try.pinned (OpenSpec.ofChange fnExactMatchBestSpec)

/-- ITS FALSE NEIGHBOUR: 'it returns false'. Refute it at one input. -/
def fnExactMatchBestWrong : ChangeSpec := { name := "fnExactMatchBest", fn := fun _ => fun
  | [d1, d2, d3, d4, d5] => { results := [.lit (.bool false)], args := [d1, d2, d3, d4, d5] }
  | _ => none }
def FnExactMatchBestWrongFalsely : Prop := fnExactMatchBestRow.holds Try.pinned (OpenSpec.ofChange fnExactMatchBestWrong)

/-- 'laws.FnExactAuthUse': WHATEVER THE INPUT: true; the input reads as it did. -/
def fnExactAuthUseSpec : ChangeSpec := { name := "fnExactAuthUse", fn := fun _ => fun
  | [d1, d2] => { results := [.lit (.bool true)], args := [d1, d2] }
  | _ => none }
def fnExactAuthUseRow : OpenClaim := { program := "ytpjfigjgamlcdaa", sum := "64c650cb14117952d4b37555c81416d67b7adc899f4668afb9dbf48db3c1accb", func := "loop.example/g00126/laws.FnExactAuthUse", spec := "fnExactAuthUse", apart := false }
def FnExactAuthUseSaid : Prop := fnExactAuthUseRow.holds Try.pinned (OpenSpec.ofChange fnExactAuthUseSpec)

/-- ITS FALSE NEIGHBOUR: 'it returns false'. Refute it at one input. -/
def fnExactAuthUseWrong : ChangeSpec := { name := "fnExactAuthUse", fn := fun _ => fun
  | [d1, d2] => { results := [.lit (.bool false)], args := [d1, d2] }
  | _ => none }
def FnExactAuthUseWrongFalsely : Prop := fnExactAuthUseRow.holds Try.pinned (OpenSpec.ofChange fnExactAuthUseWrong)

/-- 'laws.FnExactAuthAdd': WHATEVER THE INPUT: true; the input reads as it did. -/
def fnExactAuthAddSpec : ChangeSpec := { name := "fnExactAuthAdd", fn := fun _ => fun
  | [d1, d2] => { results := [.lit (.bool true)], args := [d1, d2] }
  | _ => none }
def fnExactAuthAddRow : OpenClaim := { program := "ytpjfigjgamlcdaa", sum := "64c650cb14117952d4b37555c81416d67b7adc899f4668afb9dbf48db3c1accb", func := "loop.example/g00126/laws.FnExactAuthAdd", spec := "fnExactAuthAdd", inPlace := ["internal/bytealg.IndexByteString", "internal/bytealg.IndexString"], unfollowed := true, recurses := true, named := ["internal/bytealg.MaxLen"], apart := false }
def FnExactAuthAddSaid : Prop := fnExactAuthAddRow.holds Try.pinned (OpenSpec.ofChange fnExactAuthAddSpec)

/-- ITS FALSE NEIGHBOUR: 'it returns false'. Refute it at one input. -/
def fnExactAuthAddWrong : ChangeSpec := { name := "fnExactAuthAdd", fn := fun _ => fun
  | [d1, d2] => { results := [.lit (.bool false)], args := [d1, d2] }
  | _ => none }
def FnExactAuthAddWrongFalsely : Prop := fnExactAuthAddRow.holds Try.pinned (OpenSpec.ofChange fnExactAuthAddWrong)

/-- 'laws.FnExactAuthPrune': WHATEVER THE INPUT: true; the input reads as it did. -/
def fnExactAuthPruneSpec : ChangeSpec := { name := "fnExactAuthPrune", fn := fun _ => fun
  | [d1, d2] => { results := [.lit (.bool true)], args := [d1, d2] }
  | _ => none }
def fnExactAuthPruneRow : OpenClaim := { program := "ytpjfigjgamlcdaa", sum := "64c650cb14117952d4b37555c81416d67b7adc899f4668afb9dbf48db3c1accb", func := "loop.example/g00126/laws.FnExactAuthPrune", spec := "fnExactAuthPrune", apart := false }
def FnExactAuthPruneSaid : Prop := fnExactAuthPruneRow.holds Try.pinned (OpenSpec.ofChange fnExactAuthPruneSpec)

/-- ITS FALSE NEIGHBOUR: 'it returns false'. Refute it at one input. -/
def fnExactAuthPruneWrong : ChangeSpec := { name := "fnExactAuthPrune", fn := fun _ => fun
  | [d1, d2] => { results := [.lit (.bool false)], args := [d1, d2] }
  | _ => none }
def FnExactAuthPruneWrongFalsely : Prop := fnExactAuthPruneRow.holds Try.pinned (OpenSpec.ofChange fnExactAuthPruneWrong)

/- THE SECOND FORM. 'bulk': how many values and letters a reading holds, each counted each time it is reached (what is shared counts as often as it is met; a slice's spare places count too). A statement '..UptoSaid' is the law's where the arguments, and the package variables that the reading takes, are together of bulk at most 1048576: NARROWER than '..Said'. Prove '..Said' where nothing that the law and all that it calls make is longer than what came in: it says more and counts as full. Else prove '..UptoSaid'. A law counts once. -/
mutual
def uptoBulk {H : Type} : DataW H → Nat
  | .lit (.string bytes) => bytes.length + 1
  | .lit _ => 1
  | .nil => 1
  | .ptr d => uptoBulk d + 1
  | .slice elems spare => uptoBulkAll elems + uptoBulkAll spare + 1
  | .agg parts => uptoBulkAll parts + 1
  | .iface _ d => uptoBulk d + 1
  | .map entries => uptoBulkEntries entries + 1
  | .held _ => 1
def uptoBulkAll {H : Type} : List (DataW H) → Nat
  | [] => 0
  | d :: r => uptoBulk d + uptoBulkAll r
def uptoBulkEntries {H : Type} : List (Lit × DataW H) → Nat
  | [] => 0
  | x :: r => uptoBulkEntry x + uptoBulkEntries r
def uptoBulkEntry {H : Type} : Lit × DataW H → Nat
  | (.string bytes, d) => bytes.length + uptoBulk d + 1
  | (_, d) => uptoBulk d + 1
 end
def uptoSmall : (H : Type) → List (DataW H) → Bool := fun _ ds => decide (uptoBulkAll ds ≤ 1048576)
def OpenSpec.upto (s : _root_.Go.ChangeSpec) : _root_.Go.OpenSpec := { _root_.Go.OpenSpec.ofChange s with cond := some uptoSmall }

/-- 'laws.FnMatch', WHERE WHAT IT READS IS OF BULK AT MOST 1048576: true; the input reads as it did. -/
def fnMatchUptoRow : OpenClaim := { program := "ytpjfigjgamlcdaa", sum := "64c650cb14117952d4b37555c81416d67b7adc899f4668afb9dbf48db3c1accb", func := "loop.example/g00126/laws.FnMatch", spec := "fnMatch", inPlace := ["internal/bytealg.IndexByteString", "internal/bytealg.IndexString"], unfollowed := true, recurses := true, named := ["internal/bytealg.MaxLen"], apart := false, narrowed := true }
def FnMatchUptoSaid : Prop := fnMatchUptoRow.holds Try.pinned (OpenSpec.upto fnMatchSpec)

/-- 'laws.FnAuths', WHERE WHAT IT READS IS OF BULK AT MOST 1048576: true; the input reads as it did. -/
def fnAuthsUptoRow : OpenClaim := { program := "ytpjfigjgamlcdaa", sum := "64c650cb14117952d4b37555c81416d67b7adc899f4668afb9dbf48db3c1accb", func := "loop.example/g00126/laws.FnAuths", spec := "fnAuths", inPlace := ["internal/bytealg.IndexByteString", "internal/bytealg.IndexString"], unfollowed := true, recurses := true, named := ["internal/bytealg.MaxLen"], apart := false, narrowed := true }
def FnAuthsUptoSaid : Prop := fnAuthsUptoRow.holds Try.pinned (OpenSpec.upto fnAuthsSpec)

/-- 'laws.FnExactAuthOk', WHERE WHAT IT READS IS OF BULK AT MOST 1048576: true; the input reads as it did. -/
def fnExactAuthOkUptoRow : OpenClaim := { program := "ytpjfigjgamlcdaa", sum := "64c650cb14117952d4b37555c81416d67b7adc899f4668afb9dbf48db3c1accb", func := "loop.example/g00126/laws.FnExactAuthOk", spec := "fnExactAuthOk", inPlace := ["internal/bytealg.IndexByteString", "internal/bytealg.IndexString"], named := ["internal/bytealg.MaxLen"], apart := false, narrowed := true }
def FnExactAuthOkUptoSaid : Prop := fnExactAuthOkUptoRow.holds Try.pinned (OpenSpec.upto fnExactAuthOkSpec)

/-- 'laws.FnExactMatchScore', WHERE WHAT IT READS IS OF BULK AT MOST 1048576: true; the input reads as it did. -/
def fnExactMatchScoreUptoRow : OpenClaim := { program := "ytpjfigjgamlcdaa", sum := "64c650cb14117952d4b37555c81416d67b7adc899f4668afb9dbf48db3c1accb", func := "loop.example/g00126/laws.FnExactMatchScore", spec := "fnExactMatchScore", inPlace := ["internal/bytealg.IndexByteString", "internal/bytealg.IndexString"], named := ["internal/bytealg.MaxLen"], apart := false, narrowed := true }
def FnExactMatchScoreUptoSaid : Prop := fnExactMatchScoreUptoRow.holds Try.pinned (OpenSpec.upto fnExactMatchScoreSpec)

/-- 'laws.FnExactMatchBest', WHERE WHAT IT READS IS OF BULK AT MOST 1048576: true; the input reads as it did. -/
def fnExactMatchBestUptoRow : OpenClaim := { program := "ytpjfigjgamlcdaa", sum := "64c650cb14117952d4b37555c81416d67b7adc899f4668afb9dbf48db3c1accb", func := "loop.example/g00126/laws.FnExactMatchBest", spec := "fnExactMatchBest", inPlace := ["internal/bytealg.IndexByteString", "internal/bytealg.IndexString"], unfollowed := true, recurses := true, named := ["internal/bytealg.MaxLen"], apart := false, narrowed := true }
def FnExactMatchBestUptoSaid : Prop := fnExactMatchBestUptoRow.holds Try.pinned (OpenSpec.upto fnExactMatchBestSpec)

/-- 'laws.FnExactAuthUse', WHERE WHAT IT READS IS OF BULK AT MOST 1048576: true; the input reads as it did. -/
def fnExactAuthUseUptoRow : OpenClaim := { program := "ytpjfigjgamlcdaa", sum := "64c650cb14117952d4b37555c81416d67b7adc899f4668afb9dbf48db3c1accb", func := "loop.example/g00126/laws.FnExactAuthUse", spec := "fnExactAuthUse", apart := false, narrowed := true }
def FnExactAuthUseUptoSaid : Prop := fnExactAuthUseUptoRow.holds Try.pinned (OpenSpec.upto fnExactAuthUseSpec)

/-- 'laws.FnExactAuthAdd', WHERE WHAT IT READS IS OF BULK AT MOST 1048576: true; the input reads as it did. -/
def fnExactAuthAddUptoRow : OpenClaim := { program := "ytpjfigjgamlcdaa", sum := "64c650cb14117952d4b37555c81416d67b7adc899f4668afb9dbf48db3c1accb", func := "loop.example/g00126/laws.FnExactAuthAdd", spec := "fnExactAuthAdd", inPlace := ["internal/bytealg.IndexByteString", "internal/bytealg.IndexString"], unfollowed := true, recurses := true, named := ["internal/bytealg.MaxLen"], apart := false, narrowed := true }
def FnExactAuthAddUptoSaid : Prop := fnExactAuthAddUptoRow.holds Try.pinned (OpenSpec.upto fnExactAuthAddSpec)

/-- 'laws.FnExactAuthPrune', WHERE WHAT IT READS IS OF BULK AT MOST 1048576: true; the input reads as it did. -/
def fnExactAuthPruneUptoRow : OpenClaim := { program := "ytpjfigjgamlcdaa", sum := "64c650cb14117952d4b37555c81416d67b7adc899f4668afb9dbf48db3c1accb", func := "loop.example/g00126/laws.FnExactAuthPrune", spec := "fnExactAuthPrune", apart := false, narrowed := true }
def FnExactAuthPruneUptoSaid : Prop := fnExactAuthPruneUptoRow.holds Try.pinned (OpenSpec.upto fnExactAuthPruneSpec)

end Rows
end Go.Proofs.Ytpjfigjgamlcdaa
