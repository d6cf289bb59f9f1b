/-
  DERIVED. GIVEN WITH THE SEED: THE CARDS: each row of YtpenkpiffdbdmaaGreatDoorRows.lean that lists a variable, with what it lists TIED to the program's text (the seventh form; the later family's looks); each row that meets fmt, with fmt's text TOLD by the authors' own Lean function (tested against real Go, not proved from fmt's source: count such statements apart). THE CARD IS WHAT COUNTS. Prove the row's statement (the work); the ties are given (YtpenkpiffdbdmaaGreatDoorTie.lean); close each card by the builder's one call (the guide's Derived/Test/ToyasCard.lean, 'card_holds'). Laid BY PROGRAM, IN A SANDBOX (cutbox-door.mjs). By AI agents, Wed Nov 11 2026. No macro, syntax, notation, axiom, sorry.
-/
import Derived.Test.YtpenkpiffdbdmaaGreatDoorRows
import GoSem.ClaimSeven
namespace Go.Proofs.YtpenkpiffdbdmaaGreatDoor
namespace Rows

/-- THE TIED CARD OF 'laws.FnExactSwitchLine'. -/
def fnExactSwitchLineCard : Claim7 := { stood := { row := fnExactSwitchLineRow, standIns := [], harness := (true, "b846adc0139d20877063250720ef0c5d38c465c8bff2d355125df4e692405a81"), looks := false }, kinds := [], alts := [], laidByText := true, laidKinds := [.data, .data, .data, .data, .data, .pinned], laidTests := true, laidLooks := .later }
def FnExactSwitchLineCardSaid : Prop := Claim7.holds Tryz.pinned (.plain (OpenSpec.ofChange fnExactSwitchLineSpec)) fnExactSwitchLineCard

/-- THE SECOND FORM's CARD OF 'laws.FnExactSwitchLine'. -/
def fnExactSwitchLineUptoCard : Claim7 := { stood := { row := fnExactSwitchLineUptoRow, standIns := [], harness := (true, "b846adc0139d20877063250720ef0c5d38c465c8bff2d355125df4e692405a81"), looks := false }, kinds := [], alts := [], laidByText := true, laidKinds := [.data, .data, .data, .data, .data, .pinned], laidTests := true, laidLooks := .later }
def FnExactSwitchLineUptoCardSaid : Prop := Claim7.holds Tryz.pinned (.plain (OpenSpec.upto fnExactSwitchLineSpec)) fnExactSwitchLineUptoCard
end Rows
end Go.Proofs.YtpenkpiffdbdmaaGreatDoor
