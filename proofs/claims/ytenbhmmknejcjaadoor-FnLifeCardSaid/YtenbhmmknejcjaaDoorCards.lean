/-
  DERIVED. GIVEN WITH THE SEED: THE CARDS: each row of YtenbhmmknejcjaaDoorRows.lean that lists a variable, with what it lists TIED to the program's text (the seventh form; the later family's looks); each row that meets fmt, with fmt's text TOLD by the authors' own Lean function (tested against real Go, not proved from fmt's source: count such statements apart). THE CARD IS WHAT COUNTS. Prove the row's statement (the work); the ties are given (YtenbhmmknejcjaaDoorTie.lean); close each card by the builder's one call (the guide's Derived/Test/ToyasCard.lean, 'card_holds'). Laid BY PROGRAM, IN A SANDBOX (cutbox-door.mjs). By AI agents, Wed Nov 11 2026. No macro, syntax, notation, axiom, sorry.
-/
import Derived.Test.YtenbhmmknejcjaaDoorRows
import GoSem.ClaimSeven
namespace Go.Proofs.YtenbhmmknejcjaaDoor
namespace Rows

/-- THE TIED CARD OF 'laws.FnCase'. -/
def fnCaseCard : Claim7 := { stood := { row := fnCaseRow, standIns := [], harness := (true, "26927e5cb00fe6f8ebd22d93c5bb6b221c034d5be77f99c84c9aa27ac8cb3b13"), looks := false }, kinds := [], alts := [], laidByText := true, laidKinds := [.data], laidTests := true, laidLooks := .later }
def FnCaseCardSaid : Prop := Claim7.holds Tryd.pinned (.plain (OpenSpec.ofChange fnCaseSpec)) fnCaseCard

/-- THE TIED CARD OF 'laws.FnLife'. -/
def fnLifeCard : Claim7 := { stood := { row := fnLifeRow, standIns := [], harness := (true, "26927e5cb00fe6f8ebd22d93c5bb6b221c034d5be77f99c84c9aa27ac8cb3b13"), looks := false }, kinds := [], alts := [], laidByText := true, laidKinds := [.data], laidTests := true, laidLooks := .later }
def FnLifeCardSaid : Prop := Claim7.holds Tryd.pinned (.plain (OpenSpec.ofChange fnLifeSpec)) fnLifeCard

/-- THE TIED CARD OF 'laws.FnTimes'. -/
def fnTimesCard : Claim7 := { stood := { row := fnTimesRow, standIns := [], harness := (true, "26927e5cb00fe6f8ebd22d93c5bb6b221c034d5be77f99c84c9aa27ac8cb3b13"), looks := false }, kinds := [], alts := [], laidByText := true, laidKinds := [.data], laidTests := true, laidLooks := .later }
def FnTimesCardSaid : Prop := Claim7.holds Tryd.pinned (.plain (OpenSpec.ofChange fnTimesSpec)) fnTimesCard

/-- THE TIED CARD OF 'laws.FnRuled'. -/
def fnRuledCard : Claim7 := { stood := { row := fnRuledRow, standIns := [], harness := (true, "26927e5cb00fe6f8ebd22d93c5bb6b221c034d5be77f99c84c9aa27ac8cb3b13"), looks := false }, kinds := [], alts := [], laidByText := true, laidKinds := [.data], laidTests := true, laidLooks := .later }
def FnRuledCardSaid : Prop := Claim7.holds Tryd.pinned (.plain (OpenSpec.ofChange fnRuledSpec)) fnRuledCard

/-- THE TIED CARD OF 'laws.FnCharged'. -/
def fnChargedCard : Claim7 := { stood := { row := fnChargedRow, standIns := [], harness := (true, "26927e5cb00fe6f8ebd22d93c5bb6b221c034d5be77f99c84c9aa27ac8cb3b13"), looks := false }, kinds := [], alts := [], laidByText := true, laidKinds := [.data], laidTests := true, laidLooks := .later }
def FnChargedCardSaid : Prop := Claim7.holds Tryd.pinned (.plain (OpenSpec.ofChange fnChargedSpec)) fnChargedCard

/-- THE SECOND FORM's CARD OF 'laws.FnCase'. -/
def fnCaseUptoCard : Claim7 := { stood := { row := fnCaseUptoRow, standIns := [], harness := (true, "26927e5cb00fe6f8ebd22d93c5bb6b221c034d5be77f99c84c9aa27ac8cb3b13"), looks := false }, kinds := [], alts := [], laidByText := true, laidKinds := [.data], laidTests := true, laidLooks := .later }
def FnCaseUptoCardSaid : Prop := Claim7.holds Tryd.pinned (.plain (OpenSpec.upto fnCaseSpec)) fnCaseUptoCard

/-- THE SECOND FORM's CARD OF 'laws.FnLife'. -/
def fnLifeUptoCard : Claim7 := { stood := { row := fnLifeUptoRow, standIns := [], harness := (true, "26927e5cb00fe6f8ebd22d93c5bb6b221c034d5be77f99c84c9aa27ac8cb3b13"), looks := false }, kinds := [], alts := [], laidByText := true, laidKinds := [.data], laidTests := true, laidLooks := .later }
def FnLifeUptoCardSaid : Prop := Claim7.holds Tryd.pinned (.plain (OpenSpec.upto fnLifeSpec)) fnLifeUptoCard

/-- THE SECOND FORM's CARD OF 'laws.FnTimes'. -/
def fnTimesUptoCard : Claim7 := { stood := { row := fnTimesUptoRow, standIns := [], harness := (true, "26927e5cb00fe6f8ebd22d93c5bb6b221c034d5be77f99c84c9aa27ac8cb3b13"), looks := false }, kinds := [], alts := [], laidByText := true, laidKinds := [.data], laidTests := true, laidLooks := .later }
def FnTimesUptoCardSaid : Prop := Claim7.holds Tryd.pinned (.plain (OpenSpec.upto fnTimesSpec)) fnTimesUptoCard

/-- THE SECOND FORM's CARD OF 'laws.FnRuled'. -/
def fnRuledUptoCard : Claim7 := { stood := { row := fnRuledUptoRow, standIns := [], harness := (true, "26927e5cb00fe6f8ebd22d93c5bb6b221c034d5be77f99c84c9aa27ac8cb3b13"), looks := false }, kinds := [], alts := [], laidByText := true, laidKinds := [.data], laidTests := true, laidLooks := .later }
def FnRuledUptoCardSaid : Prop := Claim7.holds Tryd.pinned (.plain (OpenSpec.upto fnRuledSpec)) fnRuledUptoCard

/-- THE SECOND FORM's CARD OF 'laws.FnCharged'. -/
def fnChargedUptoCard : Claim7 := { stood := { row := fnChargedUptoRow, standIns := [], harness := (true, "26927e5cb00fe6f8ebd22d93c5bb6b221c034d5be77f99c84c9aa27ac8cb3b13"), looks := false }, kinds := [], alts := [], laidByText := true, laidKinds := [.data], laidTests := true, laidLooks := .later }
def FnChargedUptoCardSaid : Prop := Claim7.holds Tryd.pinned (.plain (OpenSpec.upto fnChargedSpec)) fnChargedUptoCard
end Rows
end Go.Proofs.YtenbhmmknejcjaaDoor
