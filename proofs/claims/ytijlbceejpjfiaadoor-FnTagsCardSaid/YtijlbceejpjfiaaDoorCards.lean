/-
  DERIVED. GIVEN WITH THE SEED: THE CARDS: each row of YtijlbceejpjfiaaDoorRows.lean that lists a variable, with what it lists TIED to the program's text (the seventh form; the later family's looks); each row that meets fmt, with fmt's text TOLD by the authors' own Lean function (tested against real Go, not proved from fmt's source: count such statements apart). THE CARD IS WHAT COUNTS. Prove the row's statement (the work); the ties are given (YtijlbceejpjfiaaDoorTie.lean); close each card by the builder's one call (the guide's Derived/Test/ToyasCard.lean, 'card_holds'). Laid BY PROGRAM, IN A SANDBOX (cutbox-door.mjs). By AI agents, Wed Nov 11 2026. No macro, syntax, notation, axiom, sorry.
-/
import Derived.Test.YtijlbceejpjfiaaDoorRows
import GoSem.ClaimSeven
namespace Go.Proofs.YtijlbceejpjfiaaDoor
namespace Rows

/-- THE TIED CARD OF 'laws.FnTags'. -/
def fnTagsCard : Claim7 := { stood := { row := fnTagsRow, standIns := [], harness := (true, "284bf4060ed7c066ea286746132d9de026a7c5a0aa7dccad475069fe8eeaf438"), looks := false }, kinds := [], alts := [], laidByText := true, laidKinds := [.data, .data, .data], laidTests := true, laidLooks := .later }
def FnTagsCardSaid : Prop := Claim7.holds Tryd.pinned (.plain (OpenSpec.ofChange fnTagsSpec)) fnTagsCard

/-- THE TIED CARD OF 'laws.FnExactPutTags'. -/
def fnExactPutTagsCard : Claim7 := { stood := { row := fnExactPutTagsRow, standIns := [], harness := (true, "284bf4060ed7c066ea286746132d9de026a7c5a0aa7dccad475069fe8eeaf438"), looks := false }, kinds := [], alts := [], laidByText := true, laidKinds := [.data, .data, .data], laidTests := true, laidLooks := .later }
def FnExactPutTagsCardSaid : Prop := Claim7.holds Tryd.pinned (.plain (OpenSpec.ofChange fnExactPutTagsSpec)) fnExactPutTagsCard

/-- THE TIED CARD OF 'laws.FnExactGetTags'. -/
def fnExactGetTagsCard : Claim7 := { stood := { row := fnExactGetTagsRow, standIns := [], harness := (true, "284bf4060ed7c066ea286746132d9de026a7c5a0aa7dccad475069fe8eeaf438"), looks := false }, kinds := [], alts := [], laidByText := true, laidKinds := [.data, .data, .data], laidTests := true, laidLooks := .later }
def FnExactGetTagsCardSaid : Prop := Claim7.holds Tryd.pinned (.plain (OpenSpec.ofChange fnExactGetTagsSpec)) fnExactGetTagsCard

/-- THE SECOND FORM's CARD OF 'laws.FnTags'. -/
def fnTagsUptoCard : Claim7 := { stood := { row := fnTagsUptoRow, standIns := [], harness := (true, "284bf4060ed7c066ea286746132d9de026a7c5a0aa7dccad475069fe8eeaf438"), looks := false }, kinds := [], alts := [], laidByText := true, laidKinds := [.data, .data, .data], laidTests := true, laidLooks := .later }
def FnTagsUptoCardSaid : Prop := Claim7.holds Tryd.pinned (.plain (OpenSpec.upto fnTagsSpec)) fnTagsUptoCard

/-- THE SECOND FORM's CARD OF 'laws.FnExactPutTags'. -/
def fnExactPutTagsUptoCard : Claim7 := { stood := { row := fnExactPutTagsUptoRow, standIns := [], harness := (true, "284bf4060ed7c066ea286746132d9de026a7c5a0aa7dccad475069fe8eeaf438"), looks := false }, kinds := [], alts := [], laidByText := true, laidKinds := [.data, .data, .data], laidTests := true, laidLooks := .later }
def FnExactPutTagsUptoCardSaid : Prop := Claim7.holds Tryd.pinned (.plain (OpenSpec.upto fnExactPutTagsSpec)) fnExactPutTagsUptoCard

/-- THE SECOND FORM's CARD OF 'laws.FnExactGetTags'. -/
def fnExactGetTagsUptoCard : Claim7 := { stood := { row := fnExactGetTagsUptoRow, standIns := [], harness := (true, "284bf4060ed7c066ea286746132d9de026a7c5a0aa7dccad475069fe8eeaf438"), looks := false }, kinds := [], alts := [], laidByText := true, laidKinds := [.data, .data, .data], laidTests := true, laidLooks := .later }
def FnExactGetTagsUptoCardSaid : Prop := Claim7.holds Tryd.pinned (.plain (OpenSpec.upto fnExactGetTagsSpec)) fnExactGetTagsUptoCard
end Rows
end Go.Proofs.YtijlbceejpjfiaaDoor
