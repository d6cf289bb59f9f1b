/-
  No cell of these rows narrows 'for every input' (looked for: loops, veiled, ifaces, maps, wideKeys, modest, calm, conditions, laid).
  DERIVED. THE GIVEN ROWS OF THIS SEAT. 9 by the template 'for every input the law returns true; each argument reads behind the call as it read before'; 0 by the template 'total and deterministic' (their statements: YtjjmjnbnoeaifaaTotals.lean).
  GIVEN WITH THE SEED: the statements are not yours to turn. If you find one false, say at which input.
  Laid BY PROGRAM, IN A SANDBOX (cutbox-rows.mjs): the forced cells as the released guide's own fill.sh prints them over the translation e9b22e82739d10db… (all of the seat's roots in one cut). By AI agents, Wed Nov 11 2026. No macro, syntax, notation, axiom, sorry.
-/
import Derived.Test.YtjjmjnbnoeaifaaChecked
import GoSem.Claim
import GoSem.ClaimJoined
import GoSem.ClaimMapViews
import Derived.JoinedTies
import Derived.KernelRfl
namespace Go.Proofs.Ytjjmjnbnoeaifaa
/- THE CELL 'sum', in the pinned program and in every row, IS THE sha256 OF THE DUMP (.gsa) THAT YtjjmjnbnoeaifaaProg.lean LOADS. Nothing in Lean hashes anything: it is a label: what it is worth is what the hold of that sum in a sandbox is worth. -/
noncomputable def Try.pinned : Pinned := { name := "ytjjmjnbnoeaifaa", sum := "e9b22e82739d10dbed4e0d611cf5a666797693a3001c95ebddfe15a310de41bc", checked := Try.checked }
namespace Rows
def none {H : Type} : Left H := { results := [], args := [] }

/-- 'laws.FnDigits': WHATEVER THE INPUT: true; the input reads as it did. -/
def fnDigitsSpec : ChangeSpec := { name := "fnDigits", fn := fun _ => fun
  | [d] => { results := [.lit (.bool true)], args := [d] }
  | _ => none }
def fnDigitsRow : OpenClaim := { program := "ytjjmjnbnoeaifaa", sum := "e9b22e82739d10dbed4e0d611cf5a666797693a3001c95ebddfe15a310de41bc", func := "loop.example/g00126/laws.FnDigits", spec := "fnDigits", apart := false }
def FnDigitsSaid : Prop := fnDigitsRow.holds Try.pinned (OpenSpec.ofChange fnDigitsSpec)

/-- ITS FALSE NEIGHBOUR: 'it returns false'. Refute it at one input. -/
def fnDigitsWrong : ChangeSpec := { name := "fnDigits", fn := fun _ => fun
  | [d] => { results := [.lit (.bool false)], args := [d] }
  | _ => none }
def FnDigitsWrongFalsely : Prop := fnDigitsRow.holds Try.pinned (OpenSpec.ofChange fnDigitsWrong)

/-- 'laws.FnSet': WHATEVER THE INPUT: true; the input reads as it did. -/
def fnSetSpec : ChangeSpec := { name := "fnSet", fn := fun _ => fun
  | [d] => { results := [.lit (.bool true)], args := [d] }
  | _ => none }
def fnSetRow : OpenClaim := { program := "ytjjmjnbnoeaifaa", sum := "e9b22e82739d10dbed4e0d611cf5a666797693a3001c95ebddfe15a310de41bc", func := "loop.example/g00126/laws.FnSet", spec := "fnSet", apart := false }
def FnSetSaid : Prop := fnSetRow.holds Try.pinned (OpenSpec.ofChange fnSetSpec)

/-- ITS FALSE NEIGHBOUR: 'it returns false'. Refute it at one input. -/
def fnSetWrong : ChangeSpec := { name := "fnSet", fn := fun _ => fun
  | [d] => { results := [.lit (.bool false)], args := [d] }
  | _ => none }
def FnSetWrongFalsely : Prop := fnSetRow.holds Try.pinned (OpenSpec.ofChange fnSetWrong)

/-- 'laws.FnExactPutDigits': WHATEVER THE INPUT: true; the input reads as it did. -/
def fnExactPutDigitsSpec : ChangeSpec := { name := "fnExactPutDigits", fn := fun _ => fun
  | [d] => { results := [.lit (.bool true)], args := [d] }
  | _ => none }
def fnExactPutDigitsRow : OpenClaim := { program := "ytjjmjnbnoeaifaa", sum := "e9b22e82739d10dbed4e0d611cf5a666797693a3001c95ebddfe15a310de41bc", func := "loop.example/g00126/laws.FnExactPutDigits", spec := "fnExactPutDigits", apart := false }
def FnExactPutDigitsSaid : Prop := fnExactPutDigitsRow.holds Try.pinned (OpenSpec.ofChange fnExactPutDigitsSpec)

/-- ITS FALSE NEIGHBOUR: 'it returns false'. Refute it at one input. -/
def fnExactPutDigitsWrong : ChangeSpec := { name := "fnExactPutDigits", fn := fun _ => fun
  | [d] => { results := [.lit (.bool false)], args := [d] }
  | _ => none }
def FnExactPutDigitsWrongFalsely : Prop := fnExactPutDigitsRow.holds Try.pinned (OpenSpec.ofChange fnExactPutDigitsWrong)

/-- 'laws.FnExactGetDigits': WHATEVER THE INPUT: true; the input reads as it did. -/
def fnExactGetDigitsSpec : ChangeSpec := { name := "fnExactGetDigits", fn := fun _ => fun
  | [d1, d2, d3] => { results := [.lit (.bool true)], args := [d1, d2, d3] }
  | _ => none }
def fnExactGetDigitsRow : OpenClaim := { program := "ytjjmjnbnoeaifaa", sum := "e9b22e82739d10dbed4e0d611cf5a666797693a3001c95ebddfe15a310de41bc", func := "loop.example/g00126/laws.FnExactGetDigits", spec := "fnExactGetDigits", apart := false }
def FnExactGetDigitsSaid : Prop := fnExactGetDigitsRow.holds Try.pinned (OpenSpec.ofChange fnExactGetDigitsSpec)

/-- ITS FALSE NEIGHBOUR: 'it returns false'. Refute it at one input. -/
def fnExactGetDigitsWrong : ChangeSpec := { name := "fnExactGetDigits", fn := fun _ => fun
  | [d1, d2, d3] => { results := [.lit (.bool false)], args := [d1, d2, d3] }
  | _ => none }
def FnExactGetDigitsWrongFalsely : Prop := fnExactGetDigitsRow.holds Try.pinned (OpenSpec.ofChange fnExactGetDigitsWrong)

/-- 'laws.FnExactGetVar': WHATEVER THE INPUT: true; the input reads as it did. -/
def fnExactGetVarSpec : ChangeSpec := { name := "fnExactGetVar", fn := fun _ => fun
  | [d1, d2, d3] => { results := [.lit (.bool true)], args := [d1, d2, d3] }
  | _ => none }
def fnExactGetVarRow : OpenClaim := { program := "ytjjmjnbnoeaifaa", sum := "e9b22e82739d10dbed4e0d611cf5a666797693a3001c95ebddfe15a310de41bc", func := "loop.example/g00126/laws.FnExactGetVar", spec := "fnExactGetVar", apart := false }
def FnExactGetVarSaid : Prop := fnExactGetVarRow.holds Try.pinned (OpenSpec.ofChange fnExactGetVarSpec)

/-- ITS FALSE NEIGHBOUR: 'it returns false'. Refute it at one input. -/
def fnExactGetVarWrong : ChangeSpec := { name := "fnExactGetVar", fn := fun _ => fun
  | [d1, d2, d3] => { results := [.lit (.bool false)], args := [d1, d2, d3] }
  | _ => none }
def FnExactGetVarWrongFalsely : Prop := fnExactGetVarRow.holds Try.pinned (OpenSpec.ofChange fnExactGetVarWrong)

/-- 'laws.FnExactPutSet': WHATEVER THE INPUT: true; the input reads as it did. -/
def fnExactPutSetSpec : ChangeSpec := { name := "fnExactPutSet", fn := fun _ => fun
  | [d] => { results := [.lit (.bool true)], args := [d] }
  | _ => none }
def fnExactPutSetRow : OpenClaim := { program := "ytjjmjnbnoeaifaa", sum := "e9b22e82739d10dbed4e0d611cf5a666797693a3001c95ebddfe15a310de41bc", func := "loop.example/g00126/laws.FnExactPutSet", spec := "fnExactPutSet", apart := false }
def FnExactPutSetSaid : Prop := fnExactPutSetRow.holds Try.pinned (OpenSpec.ofChange fnExactPutSetSpec)

/-- ITS FALSE NEIGHBOUR: 'it returns false'. Refute it at one input. -/
def fnExactPutSetWrong : ChangeSpec := { name := "fnExactPutSet", fn := fun _ => fun
  | [d] => { results := [.lit (.bool false)], args := [d] }
  | _ => none }
def FnExactPutSetWrongFalsely : Prop := fnExactPutSetRow.holds Try.pinned (OpenSpec.ofChange fnExactPutSetWrong)

/-- 'laws.FnExactGetSet': WHATEVER THE INPUT: true; the input reads as it did. -/
def fnExactGetSetSpec : ChangeSpec := { name := "fnExactGetSet", fn := fun _ => fun
  | [d1, d2] => { results := [.lit (.bool true)], args := [d1, d2] }
  | _ => none }
def fnExactGetSetRow : OpenClaim := { program := "ytjjmjnbnoeaifaa", sum := "e9b22e82739d10dbed4e0d611cf5a666797693a3001c95ebddfe15a310de41bc", func := "loop.example/g00126/laws.FnExactGetSet", spec := "fnExactGetSet", apart := false }
def FnExactGetSetSaid : Prop := fnExactGetSetRow.holds Try.pinned (OpenSpec.ofChange fnExactGetSetSpec)

/-- ITS FALSE NEIGHBOUR: 'it returns false'. Refute it at one input. -/
def fnExactGetSetWrong : ChangeSpec := { name := "fnExactGetSet", fn := fun _ => fun
  | [d1, d2] => { results := [.lit (.bool false)], args := [d1, d2] }
  | _ => none }
def FnExactGetSetWrongFalsely : Prop := fnExactGetSetRow.holds Try.pinned (OpenSpec.ofChange fnExactGetSetWrong)

/-- 'laws.FnExactNumOf': WHATEVER THE INPUT: true; the input reads as it did. -/
def fnExactNumOfSpec : ChangeSpec := { name := "fnExactNumOf", fn := fun _ => fun
  | [d] => { results := [.lit (.bool true)], args := [d] }
  | _ => none }
def fnExactNumOfRow : OpenClaim := { program := "ytjjmjnbnoeaifaa", sum := "e9b22e82739d10dbed4e0d611cf5a666797693a3001c95ebddfe15a310de41bc", func := "loop.example/g00126/laws.FnExactNumOf", spec := "fnExactNumOf", apart := false }
def FnExactNumOfSaid : Prop := fnExactNumOfRow.holds Try.pinned (OpenSpec.ofChange fnExactNumOfSpec)

/-- ITS FALSE NEIGHBOUR: 'it returns false'. Refute it at one input. -/
def fnExactNumOfWrong : ChangeSpec := { name := "fnExactNumOf", fn := fun _ => fun
  | [d] => { results := [.lit (.bool false)], args := [d] }
  | _ => none }
def FnExactNumOfWrongFalsely : Prop := fnExactNumOfRow.holds Try.pinned (OpenSpec.ofChange fnExactNumOfWrong)

/-- 'laws.FnExactPlain': WHATEVER THE INPUT: true; the input reads as it did. -/
def fnExactPlainSpec : ChangeSpec := { name := "fnExactPlain", fn := fun _ => fun
  | [d] => { results := [.lit (.bool true)], args := [d] }
  | _ => none }
def fnExactPlainRow : OpenClaim := { program := "ytjjmjnbnoeaifaa", sum := "e9b22e82739d10dbed4e0d611cf5a666797693a3001c95ebddfe15a310de41bc", func := "loop.example/g00126/laws.FnExactPlain", spec := "fnExactPlain", apart := false }
def FnExactPlainSaid : Prop := fnExactPlainRow.holds Try.pinned (OpenSpec.ofChange fnExactPlainSpec)

/-- ITS FALSE NEIGHBOUR: 'it returns false'. Refute it at one input. -/
def fnExactPlainWrong : ChangeSpec := { name := "fnExactPlain", fn := fun _ => fun
  | [d] => { results := [.lit (.bool false)], args := [d] }
  | _ => none }
def FnExactPlainWrongFalsely : Prop := fnExactPlainRow.holds Try.pinned (OpenSpec.ofChange fnExactPlainWrong)

/- THE SECOND FORM. 'bulk': how many values and letters a reading holds, each counted each time it is reached (what is shared counts as often as it is met; a slice's spare places count too). A statement '..UptoSaid' is the law's where the arguments, and the package variables that the reading takes, are together of bulk at most 1048576: NARROWER than '..Said'. Prove '..Said' where nothing that the law and all that it calls make is longer than what came in: it says more and counts as full. Else prove '..UptoSaid'. A law counts once. -/
mutual
def uptoBulk {H : Type} : DataW H → Nat
  | .lit (.string bytes) => bytes.length + 1
  | .lit _ => 1
  | .nil => 1
  | .ptr d => uptoBulk d + 1
  | .slice elems spare => uptoBulkAll elems + uptoBulkAll spare + 1
  | .agg parts => uptoBulkAll parts + 1
  | .iface _ d => uptoBulk d + 1
  | .map entries => uptoBulkEntries entries + 1
  | .held _ => 1
def uptoBulkAll {H : Type} : List (DataW H) → Nat
  | [] => 0
  | d :: r => uptoBulk d + uptoBulkAll r
def uptoBulkEntries {H : Type} : List (Lit × DataW H) → Nat
  | [] => 0
  | x :: r => uptoBulkEntry x + uptoBulkEntries r
def uptoBulkEntry {H : Type} : Lit × DataW H → Nat
  | (.string bytes, d) => bytes.length + uptoBulk d + 1
  | (_, d) => uptoBulk d + 1
 end
def uptoSmall : (H : Type) → List (DataW H) → Bool := fun _ ds => decide (uptoBulkAll ds ≤ 1048576)
def OpenSpec.upto (s : _root_.Go.ChangeSpec) : _root_.Go.OpenSpec := { _root_.Go.OpenSpec.ofChange s with cond := some uptoSmall }

/-- 'laws.FnDigits', WHERE WHAT IT READS IS OF BULK AT MOST 1048576: true; the input reads as it did. -/
def fnDigitsUptoRow : OpenClaim := { program := "ytjjmjnbnoeaifaa", sum := "e9b22e82739d10dbed4e0d611cf5a666797693a3001c95ebddfe15a310de41bc", func := "loop.example/g00126/laws.FnDigits", spec := "fnDigits", apart := false, narrowed := true }
def FnDigitsUptoSaid : Prop := fnDigitsUptoRow.holds Try.pinned (OpenSpec.upto fnDigitsSpec)

/-- 'laws.FnSet', WHERE WHAT IT READS IS OF BULK AT MOST 1048576: true; the input reads as it did. -/
def fnSetUptoRow : OpenClaim := { program := "ytjjmjnbnoeaifaa", sum := "e9b22e82739d10dbed4e0d611cf5a666797693a3001c95ebddfe15a310de41bc", func := "loop.example/g00126/laws.FnSet", spec := "fnSet", apart := false, narrowed := true }
def FnSetUptoSaid : Prop := fnSetUptoRow.holds Try.pinned (OpenSpec.upto fnSetSpec)

/-- 'laws.FnExactPutDigits', WHERE WHAT IT READS IS OF BULK AT MOST 1048576: true; the input reads as it did. -/
def fnExactPutDigitsUptoRow : OpenClaim := { program := "ytjjmjnbnoeaifaa", sum := "e9b22e82739d10dbed4e0d611cf5a666797693a3001c95ebddfe15a310de41bc", func := "loop.example/g00126/laws.FnExactPutDigits", spec := "fnExactPutDigits", apart := false, narrowed := true }
def FnExactPutDigitsUptoSaid : Prop := fnExactPutDigitsUptoRow.holds Try.pinned (OpenSpec.upto fnExactPutDigitsSpec)

/-- 'laws.FnExactGetDigits', WHERE WHAT IT READS IS OF BULK AT MOST 1048576: true; the input reads as it did. -/
def fnExactGetDigitsUptoRow : OpenClaim := { program := "ytjjmjnbnoeaifaa", sum := "e9b22e82739d10dbed4e0d611cf5a666797693a3001c95ebddfe15a310de41bc", func := "loop.example/g00126/laws.FnExactGetDigits", spec := "fnExactGetDigits", apart := false, narrowed := true }
def FnExactGetDigitsUptoSaid : Prop := fnExactGetDigitsUptoRow.holds Try.pinned (OpenSpec.upto fnExactGetDigitsSpec)

/-- 'laws.FnExactGetVar', WHERE WHAT IT READS IS OF BULK AT MOST 1048576: true; the input reads as it did. -/
def fnExactGetVarUptoRow : OpenClaim := { program := "ytjjmjnbnoeaifaa", sum := "e9b22e82739d10dbed4e0d611cf5a666797693a3001c95ebddfe15a310de41bc", func := "loop.example/g00126/laws.FnExactGetVar", spec := "fnExactGetVar", apart := false, narrowed := true }
def FnExactGetVarUptoSaid : Prop := fnExactGetVarUptoRow.holds Try.pinned (OpenSpec.upto fnExactGetVarSpec)

/-- 'laws.FnExactPutSet', WHERE WHAT IT READS IS OF BULK AT MOST 1048576: true; the input reads as it did. -/
def fnExactPutSetUptoRow : OpenClaim := { program := "ytjjmjnbnoeaifaa", sum := "e9b22e82739d10dbed4e0d611cf5a666797693a3001c95ebddfe15a310de41bc", func := "loop.example/g00126/laws.FnExactPutSet", spec := "fnExactPutSet", apart := false, narrowed := true }
def FnExactPutSetUptoSaid : Prop := fnExactPutSetUptoRow.holds Try.pinned (OpenSpec.upto fnExactPutSetSpec)

/-- 'laws.FnExactGetSet', WHERE WHAT IT READS IS OF BULK AT MOST 1048576: true; the input reads as it did. -/
def fnExactGetSetUptoRow : OpenClaim := { program := "ytjjmjnbnoeaifaa", sum := "e9b22e82739d10dbed4e0d611cf5a666797693a3001c95ebddfe15a310de41bc", func := "loop.example/g00126/laws.FnExactGetSet", spec := "fnExactGetSet", apart := false, narrowed := true }
def FnExactGetSetUptoSaid : Prop := fnExactGetSetUptoRow.holds Try.pinned (OpenSpec.upto fnExactGetSetSpec)

/-- 'laws.FnExactNumOf', WHERE WHAT IT READS IS OF BULK AT MOST 1048576: true; the input reads as it did. -/
def fnExactNumOfUptoRow : OpenClaim := { program := "ytjjmjnbnoeaifaa", sum := "e9b22e82739d10dbed4e0d611cf5a666797693a3001c95ebddfe15a310de41bc", func := "loop.example/g00126/laws.FnExactNumOf", spec := "fnExactNumOf", apart := false, narrowed := true }
def FnExactNumOfUptoSaid : Prop := fnExactNumOfUptoRow.holds Try.pinned (OpenSpec.upto fnExactNumOfSpec)

/-- 'laws.FnExactPlain', WHERE WHAT IT READS IS OF BULK AT MOST 1048576: true; the input reads as it did. -/
def fnExactPlainUptoRow : OpenClaim := { program := "ytjjmjnbnoeaifaa", sum := "e9b22e82739d10dbed4e0d611cf5a666797693a3001c95ebddfe15a310de41bc", func := "loop.example/g00126/laws.FnExactPlain", spec := "fnExactPlain", apart := false, narrowed := true }
def FnExactPlainUptoSaid : Prop := fnExactPlainUptoRow.holds Try.pinned (OpenSpec.upto fnExactPlainSpec)

end Rows
end Go.Proofs.Ytjjmjnbnoeaifaa
