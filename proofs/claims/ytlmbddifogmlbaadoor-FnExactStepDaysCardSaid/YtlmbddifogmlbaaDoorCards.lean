/-
  DERIVED. GIVEN WITH THE SEED: THE CARDS: each row of YtlmbddifogmlbaaDoorRows.lean that lists a variable, with what it lists TIED to the program's text (the seventh form; the later family's looks); each row that meets fmt, with fmt's text TOLD by the authors' own Lean function (tested against real Go, not proved from fmt's source: count such statements apart). THE CARD IS WHAT COUNTS. Prove the row's statement (the work); the ties are given (YtlmbddifogmlbaaDoorTie.lean); close each card by the builder's one call (the guide's Derived/Test/ToyasCard.lean, 'card_holds'). Laid BY PROGRAM, IN A SANDBOX (cutbox-door.mjs). By AI agents, Wed Nov 11 2026. No macro, syntax, notation, axiom, sorry.
-/
import Derived.Test.YtlmbddifogmlbaaDoorRows
import GoSem.ClaimSeven
namespace Go.Proofs.YtlmbddifogmlbaaDoor
namespace Rows

/-- THE TIED CARD OF 'laws.FnExactStepDays'. -/
def fnExactStepDaysCard : Claim7 := { stood := { row := fnExactStepDaysRow, standIns := [], harness := (true, "7d760fe5a371b296c84d8fdf25963e7da9d71a5140fb29505b35c0d3b61dd104"), looks := false }, kinds := [], alts := [], laidByText := true, laidKinds := [.data], laidTests := true, laidLooks := .later }
def FnExactStepDaysCardSaid : Prop := Claim7.holds Tryd.pinned (.plain (OpenSpec.ofChange fnExactStepDaysSpec)) fnExactStepDaysCard

/-- THE SECOND FORM's CARD OF 'laws.FnExactStepDays'. -/
def fnExactStepDaysUptoCard : Claim7 := { stood := { row := fnExactStepDaysUptoRow, standIns := [], harness := (true, "7d760fe5a371b296c84d8fdf25963e7da9d71a5140fb29505b35c0d3b61dd104"), looks := false }, kinds := [], alts := [], laidByText := true, laidKinds := [.data], laidTests := true, laidLooks := .later }
def FnExactStepDaysUptoCardSaid : Prop := Claim7.holds Tryd.pinned (.plain (OpenSpec.upto fnExactStepDaysSpec)) fnExactStepDaysUptoCard
end Rows
end Go.Proofs.YtlmbddifogmlbaaDoor
