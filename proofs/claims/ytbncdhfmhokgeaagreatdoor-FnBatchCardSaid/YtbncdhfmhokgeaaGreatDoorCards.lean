/-
  DERIVED. GIVEN WITH THE SEED: THE CARDS: each row of YtbncdhfmhokgeaaGreatDoorRows.lean that lists a variable, with what it lists TIED to the program's text (the seventh form; the later family's looks); each row that meets fmt, with fmt's text TOLD by the authors' own Lean function (tested against real Go, not proved from fmt's source: count such statements apart). THE CARD IS WHAT COUNTS. Prove the row's statement (the work); the ties are given (YtbncdhfmhokgeaaGreatDoorTie.lean); close each card by the builder's one call (the guide's Derived/Test/ToyasCard.lean, 'card_holds'). Laid BY PROGRAM, IN A SANDBOX (cutbox-door.mjs). By AI agents, Wed Nov 11 2026. No macro, syntax, notation, axiom, sorry.
-/
import Derived.Test.YtbncdhfmhokgeaaGreatDoorRows
import GoSem.ClaimSeven
namespace Go.Proofs.YtbncdhfmhokgeaaGreatDoor
namespace Rows

/-- THE TIED CARD OF 'laws.FnMessage'. -/
def fnMessageCard : Claim7 := { stood := { row := fnMessageRow, standIns := [], harness := (true, "5531c7211d14006463c8a6634e45e32556c48046fbfd838474771586618b2807"), looks := true }, kinds := [], alts := [], laidByText := true, laidKinds := [.data, .data, .data, .data, .handle, .pinned], laidTests := true, laidLooks := .later }
def FnMessageCardSaid : Prop := Claim7.holds Tryz.pinned (.plain (OpenSpec.ofChange fnMessageSpec)) fnMessageCard

/-- THE TIED CARD OF 'laws.FnBatch'. -/
def fnBatchCard : Claim7 := { stood := { row := fnBatchRow, standIns := [], harness := (true, "5531c7211d14006463c8a6634e45e32556c48046fbfd838474771586618b2807"), looks := true }, kinds := [], alts := [], laidByText := true, laidKinds := [.data, .data, .data, .handle], laidTests := true, laidLooks := .later }
def FnBatchCardSaid : Prop := Claim7.holds Tryz.pinned (.plain (OpenSpec.ofChange fnBatchSpec)) fnBatchCard

/-- THE TIED CARD OF 'laws.FnExactBatch'. -/
def fnExactBatchCard : Claim7 := { stood := { row := fnExactBatchRow, standIns := [], harness := (true, "5531c7211d14006463c8a6634e45e32556c48046fbfd838474771586618b2807"), looks := true }, kinds := [], alts := [], laidByText := true, laidKinds := [.data, .data, .data], laidTests := true, laidLooks := .later }
def FnExactBatchCardSaid : Prop := Claim7.holds Tryz.pinned (.plain (OpenSpec.ofChange fnExactBatchSpec)) fnExactBatchCard

/-- THE TIED CARD OF 'laws.FnExactReadBatch'. -/
def fnExactReadBatchCard : Claim7 := { stood := { row := fnExactReadBatchRow, standIns := [], harness := (true, "5531c7211d14006463c8a6634e45e32556c48046fbfd838474771586618b2807"), looks := true }, kinds := [], alts := [], laidByText := true, laidKinds := [.data, .data, .data, .handle], laidTests := true, laidLooks := .later }
def FnExactReadBatchCardSaid : Prop := Claim7.holds Tryz.pinned (.plain (OpenSpec.ofChange fnExactReadBatchSpec)) fnExactReadBatchCard

/-- THE SECOND FORM's CARD OF 'laws.FnMessage'. -/
def fnMessageUptoCard : Claim7 := { stood := { row := fnMessageUptoRow, standIns := [], harness := (true, "5531c7211d14006463c8a6634e45e32556c48046fbfd838474771586618b2807"), looks := true }, kinds := [], alts := [], laidByText := true, laidKinds := [.data, .data, .data, .data, .handle, .pinned], laidTests := true, laidLooks := .later }
def FnMessageUptoCardSaid : Prop := Claim7.holds Tryz.pinned (.plain (OpenSpec.upto fnMessageSpec)) fnMessageUptoCard

/-- THE SECOND FORM's CARD OF 'laws.FnBatch'. -/
def fnBatchUptoCard : Claim7 := { stood := { row := fnBatchUptoRow, standIns := [], harness := (true, "5531c7211d14006463c8a6634e45e32556c48046fbfd838474771586618b2807"), looks := true }, kinds := [], alts := [], laidByText := true, laidKinds := [.data, .data, .data, .handle], laidTests := true, laidLooks := .later }
def FnBatchUptoCardSaid : Prop := Claim7.holds Tryz.pinned (.plain (OpenSpec.upto fnBatchSpec)) fnBatchUptoCard

/-- THE SECOND FORM's CARD OF 'laws.FnExactBatch'. -/
def fnExactBatchUptoCard : Claim7 := { stood := { row := fnExactBatchUptoRow, standIns := [], harness := (true, "5531c7211d14006463c8a6634e45e32556c48046fbfd838474771586618b2807"), looks := true }, kinds := [], alts := [], laidByText := true, laidKinds := [.data, .data, .data], laidTests := true, laidLooks := .later }
def FnExactBatchUptoCardSaid : Prop := Claim7.holds Tryz.pinned (.plain (OpenSpec.upto fnExactBatchSpec)) fnExactBatchUptoCard

/-- THE SECOND FORM's CARD OF 'laws.FnExactReadBatch'. -/
def fnExactReadBatchUptoCard : Claim7 := { stood := { row := fnExactReadBatchUptoRow, standIns := [], harness := (true, "5531c7211d14006463c8a6634e45e32556c48046fbfd838474771586618b2807"), looks := true }, kinds := [], alts := [], laidByText := true, laidKinds := [.data, .data, .data, .handle], laidTests := true, laidLooks := .later }
def FnExactReadBatchUptoCardSaid : Prop := Claim7.holds Tryz.pinned (.plain (OpenSpec.upto fnExactReadBatchSpec)) fnExactReadBatchUptoCard
end Rows
end Go.Proofs.YtbncdhfmhokgeaaGreatDoor
