/-
  DERIVED. GIVEN WITH THE SEED: THE CARDS: each row of YtddffpihacolkaaDoorRows.lean that lists a variable, with what it lists TIED to the program's text (the seventh form; the later family's looks); each row that meets fmt, with fmt's text TOLD by the authors' own Lean function (tested against real Go, not proved from fmt's source: count such statements apart). THE CARD IS WHAT COUNTS. Prove the row's statement (the work); the ties are given (YtddffpihacolkaaDoorTie.lean); close each card by the builder's one call (the guide's Derived/Test/ToyasCard.lean, 'card_holds'). Laid BY PROGRAM, IN A SANDBOX (cutbox-door.mjs). By AI agents, Wed Nov 11 2026. No macro, syntax, notation, axiom, sorry.
-/
import Derived.Test.YtddffpihacolkaaDoorRows
import GoSem.ClaimSeven
namespace Go.Proofs.YtddffpihacolkaaDoor
namespace Rows

/-- THE TIED CARD OF 'laws.FnExactCaseText'. -/
def fnExactCaseTextCard : Claim7 := { stood := { row := fnExactCaseTextRow, standIns := [], harness := (true, "89353372366f0d38c002abfa767253a0ef01882a2009d5e0ba8d374e87fe6c79"), looks := false }, kinds := [], alts := [], laidByText := true, laidKinds := [.data, .data, .data, .data, .data], laidTests := true, laidLooks := .later }
def FnExactCaseTextCardSaid : Prop := Claim7.holds Tryd.pinned (.plain (OpenSpec.ofChange fnExactCaseTextSpec)) fnExactCaseTextCard

/-- THE SECOND FORM's CARD OF 'laws.FnExactCaseText'. -/
def fnExactCaseTextUptoCard : Claim7 := { stood := { row := fnExactCaseTextUptoRow, standIns := [], harness := (true, "89353372366f0d38c002abfa767253a0ef01882a2009d5e0ba8d374e87fe6c79"), looks := false }, kinds := [], alts := [], laidByText := true, laidKinds := [.data, .data, .data, .data, .data], laidTests := true, laidLooks := .later }
def FnExactCaseTextUptoCardSaid : Prop := Claim7.holds Tryd.pinned (.plain (OpenSpec.upto fnExactCaseTextSpec)) fnExactCaseTextUptoCard
end Rows
end Go.Proofs.YtddffpihacolkaaDoor
