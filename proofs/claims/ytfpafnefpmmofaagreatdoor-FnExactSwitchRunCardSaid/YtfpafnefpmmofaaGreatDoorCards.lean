/-
  DERIVED. GIVEN WITH THE SEED: THE CARDS: each row of YtfpafnefpmmofaaGreatDoorRows.lean that lists a variable, with what it lists TIED to the program's text (the seventh form; the later family's looks); each row that meets fmt, with fmt's text TOLD by the authors' own Lean function (tested against real Go, not proved from fmt's source: count such statements apart). THE CARD IS WHAT COUNTS. Prove the row's statement (the work); the ties are given (YtfpafnefpmmofaaGreatDoorTie.lean); close each card by the builder's one call (the guide's Derived/Test/ToyasCard.lean, 'card_holds'). Laid BY PROGRAM, IN A SANDBOX (cutbox-door.mjs). By AI agents, Wed Nov 11 2026. No macro, syntax, notation, axiom, sorry.
-/
import Derived.Test.YtfpafnefpmmofaaGreatDoorRows
import GoSem.ClaimSeven
namespace Go.Proofs.YtfpafnefpmmofaaGreatDoor
namespace Rows

/-- THE TIED CARD OF 'laws.FnExactSwitchRun'. -/
def fnExactSwitchRunCard : Claim7 := { stood := { row := fnExactSwitchRunRow, standIns := [], harness := (true, "30427309e54e10a1acb258812089522dc15d60cb23763ac871b2dfcf0f08e966"), looks := true }, kinds := [], alts := [], laidByText := true, laidKinds := [.data, .data, .data, .data, .handle, .data, .sentinel, .sentinel, .sentinel, .sentinel, .sentinel, .sentinel, .sentinel, .sentinel, .data, .pinned], laidTests := true, laidLooks := .later }
def FnExactSwitchRunCardSaid : Prop := Claim7.holds Tryz.pinned (.plain (OpenSpec.ofChange fnExactSwitchRunSpec)) fnExactSwitchRunCard

/-- THE SECOND FORM's CARD OF 'laws.FnExactSwitchRun'. -/
def fnExactSwitchRunUptoCard : Claim7 := { stood := { row := fnExactSwitchRunUptoRow, standIns := [], harness := (true, "30427309e54e10a1acb258812089522dc15d60cb23763ac871b2dfcf0f08e966"), looks := true }, kinds := [], alts := [], laidByText := true, laidKinds := [.data, .data, .data, .data, .handle, .data, .sentinel, .sentinel, .sentinel, .sentinel, .sentinel, .sentinel, .sentinel, .sentinel, .data, .pinned], laidTests := true, laidLooks := .later }
def FnExactSwitchRunUptoCardSaid : Prop := Claim7.holds Tryz.pinned (.plain (OpenSpec.upto fnExactSwitchRunSpec)) fnExactSwitchRunUptoCard
end Rows
end Go.Proofs.YtfpafnefpmmofaaGreatDoor
