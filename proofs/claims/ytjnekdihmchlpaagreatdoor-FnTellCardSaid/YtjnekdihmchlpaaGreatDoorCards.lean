/-
  DERIVED. GIVEN WITH THE SEED: THE CARDS: each row of YtjnekdihmchlpaaGreatDoorRows.lean that lists a variable, with what it lists TIED to the program's text (the seventh form; the later family's looks); each row that meets fmt, with fmt's text TOLD by the authors' own Lean function (tested against real Go, not proved from fmt's source: count such statements apart). THE CARD IS WHAT COUNTS. Prove the row's statement (the work); the ties are given (YtjnekdihmchlpaaGreatDoorTie.lean); close each card by the builder's one call (the guide's Derived/Test/ToyasCard.lean, 'card_holds'). Laid BY PROGRAM, IN A SANDBOX (cutbox-door.mjs). By AI agents, Wed Nov 11 2026. No macro, syntax, notation, axiom, sorry.
-/
import Derived.Test.YtjnekdihmchlpaaGreatDoorRows
import GoSem.ClaimSeven
namespace Go.Proofs.YtjnekdihmchlpaaGreatDoor
namespace Rows

/-- THE TIED CARD OF 'laws.FnTell'. -/
def fnTellCard : Claim7 := { stood := { row := fnTellRow, standIns := [], harness := (true, "31264349ead2b86c933863b614389e3bd339f17e675a80f2ac5a1d59f6d8507c"), looks := true }, kinds := [], alts := [], laidByText := true, laidKinds := [.data, .data, .data, .data, .handle, .sentinel, .sentinel, .data, .pinned], laidTests := true, laidLooks := .later }
def FnTellCardSaid : Prop := Claim7.holds Tryz.pinned (.plain (OpenSpec.ofChange fnTellSpec)) fnTellCard

/-- THE SECOND FORM's CARD OF 'laws.FnTell'. -/
def fnTellUptoCard : Claim7 := { stood := { row := fnTellUptoRow, standIns := [], harness := (true, "31264349ead2b86c933863b614389e3bd339f17e675a80f2ac5a1d59f6d8507c"), looks := true }, kinds := [], alts := [], laidByText := true, laidKinds := [.data, .data, .data, .data, .handle, .sentinel, .sentinel, .data, .pinned], laidTests := true, laidLooks := .later }
def FnTellUptoCardSaid : Prop := Claim7.holds Tryz.pinned (.plain (OpenSpec.upto fnTellSpec)) fnTellUptoCard
end Rows
end Go.Proofs.YtjnekdihmchlpaaGreatDoor
