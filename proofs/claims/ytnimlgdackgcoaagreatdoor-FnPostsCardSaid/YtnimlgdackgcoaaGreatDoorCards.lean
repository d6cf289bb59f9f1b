/-
  DERIVED. GIVEN WITH THE SEED: THE CARDS: each row of YtnimlgdackgcoaaGreatDoorRows.lean that lists a variable, with what it lists TIED to the program's text (the seventh form; the later family's looks); each row that meets fmt, with fmt's text TOLD by the authors' own Lean function (tested against real Go, not proved from fmt's source: count such statements apart). THE CARD IS WHAT COUNTS. Prove the row's statement (the work); the ties are given (YtnimlgdackgcoaaGreatDoorTie.lean); close each card by the builder's one call (the guide's Derived/Test/ToyasCard.lean, 'card_holds'). Laid BY PROGRAM, IN A SANDBOX (cutbox-door.mjs). By AI agents, Wed Nov 11 2026. No macro, syntax, notation, axiom, sorry.
-/
import Derived.Test.YtnimlgdackgcoaaGreatDoorRows
import GoSem.ClaimSeven
namespace Go.Proofs.YtnimlgdackgcoaaGreatDoor
namespace Rows

/-- THE TIED CARD OF 'laws.FnPosts'. -/
def fnPostsCard : Claim7 := { stood := { row := fnPostsRow, standIns := [], harness := (true, "d2fd2a67f4d5463550b0c3acdaed0c67334bbdcaa06c67bd982ba3f8b6665775"), looks := false }, kinds := [], alts := [], laidByText := true, laidKinds := [.data, .data, .data], laidTests := true, laidLooks := .later }
def FnPostsCardSaid : Prop := Claim7.holds Tryz.pinned (.plain (OpenSpec.ofChange fnPostsSpec)) fnPostsCard

/-- THE SECOND FORM's CARD OF 'laws.FnPosts'. -/
def fnPostsUptoCard : Claim7 := { stood := { row := fnPostsUptoRow, standIns := [], harness := (true, "d2fd2a67f4d5463550b0c3acdaed0c67334bbdcaa06c67bd982ba3f8b6665775"), looks := false }, kinds := [], alts := [], laidByText := true, laidKinds := [.data, .data, .data], laidTests := true, laidLooks := .later }
def FnPostsUptoCardSaid : Prop := Claim7.holds Tryz.pinned (.plain (OpenSpec.upto fnPostsSpec)) fnPostsUptoCard
end Rows
end Go.Proofs.YtnimlgdackgcoaaGreatDoor
