/-
  DERIVED. GIVEN WITH THE SEED: THE CARDS: each row of YtjjmjnbnoeaifaaDoorRows.lean that lists a variable, with what it lists TIED to the program's text (the seventh form; the later family's looks); each row that meets fmt, with fmt's text TOLD by the authors' own Lean function (tested against real Go, not proved from fmt's source: count such statements apart). THE CARD IS WHAT COUNTS. Prove the row's statement (the work); the ties are given (YtjjmjnbnoeaifaaDoorTie.lean); close each card by the builder's one call (the guide's Derived/Test/ToyasCard.lean, 'card_holds'). Laid BY PROGRAM, IN A SANDBOX (cutbox-door.mjs). By AI agents, Wed Nov 11 2026. No macro, syntax, notation, axiom, sorry.
-/
import Derived.Test.YtjjmjnbnoeaifaaDoorRows
import GoSem.ClaimSeven
namespace Go.Proofs.YtjjmjnbnoeaifaaDoor
namespace Rows

/-- THE TIED CARD OF 'laws.FnVar'. -/
def fnVarCard : Claim7 := { stood := { row := fnVarRow, standIns := [], harness := (true, "ef2c8aa7e4e8e3090cb94c205b25594a4d54c5aa71a863207117df552e9d1a02"), looks := false }, kinds := [], alts := [], laidByText := true, laidKinds := [.data, .data, .data], laidTests := true, laidLooks := .later }
def FnVarCardSaid : Prop := Claim7.holds Tryd.pinned (.plain (OpenSpec.ofChange fnVarSpec)) fnVarCard

/-- THE TIED CARD OF 'laws.FnPad'. -/
def fnPadCard : Claim7 := { stood := { row := fnPadRow, standIns := [], harness := (true, "ef2c8aa7e4e8e3090cb94c205b25594a4d54c5aa71a863207117df552e9d1a02"), looks := false }, kinds := [], alts := [], laidByText := true, laidKinds := [.data, .data, .data], laidTests := true, laidLooks := .later }
def FnPadCardSaid : Prop := Claim7.holds Tryd.pinned (.plain (OpenSpec.ofChange fnPadSpec)) fnPadCard

/-- THE TIED CARD OF 'laws.FnExactPutVar'. -/
def fnExactPutVarCard : Claim7 := { stood := { row := fnExactPutVarRow, standIns := [], harness := (true, "ef2c8aa7e4e8e3090cb94c205b25594a4d54c5aa71a863207117df552e9d1a02"), looks := false }, kinds := [], alts := [], laidByText := true, laidKinds := [.data, .data, .data], laidTests := true, laidLooks := .later }
def FnExactPutVarCardSaid : Prop := Claim7.holds Tryd.pinned (.plain (OpenSpec.ofChange fnExactPutVarSpec)) fnExactPutVarCard

/-- THE TIED CARD OF 'laws.FnExactPadNum'. -/
def fnExactPadNumCard : Claim7 := { stood := { row := fnExactPadNumRow, standIns := [], harness := (true, "ef2c8aa7e4e8e3090cb94c205b25594a4d54c5aa71a863207117df552e9d1a02"), looks := false }, kinds := [], alts := [], laidByText := true, laidKinds := [.data, .data, .data], laidTests := true, laidLooks := .later }
def FnExactPadNumCardSaid : Prop := Claim7.holds Tryd.pinned (.plain (OpenSpec.ofChange fnExactPadNumSpec)) fnExactPadNumCard

/-- THE SECOND FORM's CARD OF 'laws.FnVar'. -/
def fnVarUptoCard : Claim7 := { stood := { row := fnVarUptoRow, standIns := [], harness := (true, "ef2c8aa7e4e8e3090cb94c205b25594a4d54c5aa71a863207117df552e9d1a02"), looks := false }, kinds := [], alts := [], laidByText := true, laidKinds := [.data, .data, .data], laidTests := true, laidLooks := .later }
def FnVarUptoCardSaid : Prop := Claim7.holds Tryd.pinned (.plain (OpenSpec.upto fnVarSpec)) fnVarUptoCard

/-- THE SECOND FORM's CARD OF 'laws.FnPad'. -/
def fnPadUptoCard : Claim7 := { stood := { row := fnPadUptoRow, standIns := [], harness := (true, "ef2c8aa7e4e8e3090cb94c205b25594a4d54c5aa71a863207117df552e9d1a02"), looks := false }, kinds := [], alts := [], laidByText := true, laidKinds := [.data, .data, .data], laidTests := true, laidLooks := .later }
def FnPadUptoCardSaid : Prop := Claim7.holds Tryd.pinned (.plain (OpenSpec.upto fnPadSpec)) fnPadUptoCard

/-- THE SECOND FORM's CARD OF 'laws.FnExactPutVar'. -/
def fnExactPutVarUptoCard : Claim7 := { stood := { row := fnExactPutVarUptoRow, standIns := [], harness := (true, "ef2c8aa7e4e8e3090cb94c205b25594a4d54c5aa71a863207117df552e9d1a02"), looks := false }, kinds := [], alts := [], laidByText := true, laidKinds := [.data, .data, .data], laidTests := true, laidLooks := .later }
def FnExactPutVarUptoCardSaid : Prop := Claim7.holds Tryd.pinned (.plain (OpenSpec.upto fnExactPutVarSpec)) fnExactPutVarUptoCard

/-- THE SECOND FORM's CARD OF 'laws.FnExactPadNum'. -/
def fnExactPadNumUptoCard : Claim7 := { stood := { row := fnExactPadNumUptoRow, standIns := [], harness := (true, "ef2c8aa7e4e8e3090cb94c205b25594a4d54c5aa71a863207117df552e9d1a02"), looks := false }, kinds := [], alts := [], laidByText := true, laidKinds := [.data, .data, .data], laidTests := true, laidLooks := .later }
def FnExactPadNumUptoCardSaid : Prop := Claim7.holds Tryd.pinned (.plain (OpenSpec.upto fnExactPadNumSpec)) fnExactPadNumUptoCard
end Rows
end Go.Proofs.YtjjmjnbnoeaifaaDoor
