/-
  DERIVED. GIVEN WITH THE SEED: THE CARDS: each row of YtomiclakhjncbaaGreatDoorRows.lean that lists a variable, with what it lists TIED to the program's text (the seventh form; the later family's looks); each row that meets fmt, with fmt's text TOLD by the authors' own Lean function (tested against real Go, not proved from fmt's source: count such statements apart). THE CARD IS WHAT COUNTS. Prove the row's statement (the work); the ties are given (YtomiclakhjncbaaGreatDoorTie.lean); close each card by the builder's one call (the guide's Derived/Test/ToyasCard.lean, 'card_holds'). Laid BY PROGRAM, IN A SANDBOX (cutbox-door.mjs). By AI agents, Wed Nov 11 2026. No macro, syntax, notation, axiom, sorry.
-/
import Derived.Test.YtomiclakhjncbaaGreatDoorRows
import GoSem.ClaimSeven
namespace Go.Proofs.YtomiclakhjncbaaGreatDoor
namespace Rows

/-- THE TIED CARD OF 'laws.FnExactBookAll'. -/
def fnExactBookAllCard : Claim7 := { stood := { row := fnExactBookAllRow, standIns := [], harness := (true, "02baee576294665a9eeee5e56448d0c865c7ec4eecf3c28d6b8f750caaee3a72"), looks := true }, kinds := [], alts := [], laidByText := true, laidKinds := [.data, .data, .data, .data, .data, .sentinel, .sentinel, .sentinel, .sentinel, .sentinel, .sentinel, .sentinel, .sentinel, .data, .pinned], laidTests := true, laidLooks := .later }
def FnExactBookAllCardSaid : Prop := Claim7.holds Tryz.pinned (.plain (OpenSpec.ofChange fnExactBookAllSpec)) fnExactBookAllCard

/-- THE TIED CARD OF 'laws.FnExactBookRead'. -/
def fnExactBookReadCard : Claim7 := { stood := { row := fnExactBookReadRow, standIns := [], harness := (true, "02baee576294665a9eeee5e56448d0c865c7ec4eecf3c28d6b8f750caaee3a72"), looks := true }, kinds := [], alts := [], laidByText := true, laidKinds := [.data, .data, .data, .data, .data, .sentinel, .sentinel, .sentinel, .sentinel, .sentinel, .sentinel, .sentinel, .sentinel, .data, .pinned], laidTests := true, laidLooks := .later }
def FnExactBookReadCardSaid : Prop := Claim7.holds Tryz.pinned (.plain (OpenSpec.ofChange fnExactBookReadSpec)) fnExactBookReadCard

/-- THE TIED CARD OF 'laws.FnExactBookExpire'. -/
def fnExactBookExpireCard : Claim7 := { stood := { row := fnExactBookExpireRow, standIns := [], harness := (true, "02baee576294665a9eeee5e56448d0c865c7ec4eecf3c28d6b8f750caaee3a72"), looks := true }, kinds := [], alts := [], laidByText := true, laidKinds := [.data, .data, .data, .data, .data, .sentinel, .sentinel, .sentinel, .sentinel, .sentinel, .sentinel, .sentinel, .sentinel, .data, .pinned], laidTests := true, laidLooks := .later }
def FnExactBookExpireCardSaid : Prop := Claim7.holds Tryz.pinned (.plain (OpenSpec.ofChange fnExactBookExpireSpec)) fnExactBookExpireCard

/-- THE TIED CARD OF 'laws.FnLines'. -/
def fnLinesCard : Claim7 := { stood := { row := fnLinesRow, standIns := [], harness := (true, "02baee576294665a9eeee5e56448d0c865c7ec4eecf3c28d6b8f750caaee3a72"), looks := true }, kinds := [], alts := [], laidByText := true, laidKinds := [.data, .data, .data, .data, .handle, .data, .sentinel, .sentinel, .sentinel, .sentinel, .sentinel, .sentinel, .sentinel, .sentinel, .data, .pinned], laidTests := true, laidLooks := .later }
def FnLinesCardSaid : Prop := Claim7.holds Tryz.pinned (.plain (OpenSpec.ofChange fnLinesSpec)) fnLinesCard

/-- THE TIED CARD OF 'laws.FnExpire'. -/
def fnExpireCard : Claim7 := { stood := { row := fnExpireRow, standIns := [], harness := (true, "02baee576294665a9eeee5e56448d0c865c7ec4eecf3c28d6b8f750caaee3a72"), looks := true }, kinds := [], alts := [], laidByText := true, laidKinds := [.data, .data, .data, .data, .data, .sentinel, .sentinel, .sentinel, .sentinel, .sentinel, .sentinel, .sentinel, .sentinel, .data, .pinned], laidTests := true, laidLooks := .later }
def FnExpireCardSaid : Prop := Claim7.holds Tryz.pinned (.plain (OpenSpec.ofChange fnExpireSpec)) fnExpireCard

/-- THE TIED CARD OF 'laws.FnCutOff'. -/
def fnCutOffCard : Claim7 := { stood := { row := fnCutOffRow, standIns := [], harness := (true, "02baee576294665a9eeee5e56448d0c865c7ec4eecf3c28d6b8f750caaee3a72"), looks := true }, kinds := [], alts := [], laidByText := true, laidKinds := [.data, .data, .data, .data, .handle, .data, .sentinel, .sentinel, .sentinel, .sentinel, .sentinel, .sentinel, .sentinel, .sentinel, .data, .pinned], laidTests := true, laidLooks := .later }
def FnCutOffCardSaid : Prop := Claim7.holds Tryz.pinned (.plain (OpenSpec.ofChange fnCutOffSpec)) fnCutOffCard

/-- THE TIED CARD OF 'laws.FnTop'. -/
def fnTopCard : Claim7 := { stood := { row := fnTopRow, standIns := [], harness := (true, "02baee576294665a9eeee5e56448d0c865c7ec4eecf3c28d6b8f750caaee3a72"), looks := true }, kinds := [], alts := [], laidByText := true, laidKinds := [.data, .data, .data, .data, .handle, .data, .sentinel, .sentinel, .sentinel, .sentinel, .sentinel, .sentinel, .sentinel, .sentinel, .data, .pinned], laidTests := true, laidLooks := .later }
def FnTopCardSaid : Prop := Claim7.holds Tryz.pinned (.plain (OpenSpec.ofChange fnTopSpec)) fnTopCard

/-- THE SECOND FORM's CARD OF 'laws.FnExactBookAll'. -/
def fnExactBookAllUptoCard : Claim7 := { stood := { row := fnExactBookAllUptoRow, standIns := [], harness := (true, "02baee576294665a9eeee5e56448d0c865c7ec4eecf3c28d6b8f750caaee3a72"), looks := true }, kinds := [], alts := [], laidByText := true, laidKinds := [.data, .data, .data, .data, .data, .sentinel, .sentinel, .sentinel, .sentinel, .sentinel, .sentinel, .sentinel, .sentinel, .data, .pinned], laidTests := true, laidLooks := .later }
def FnExactBookAllUptoCardSaid : Prop := Claim7.holds Tryz.pinned (.plain (OpenSpec.upto fnExactBookAllSpec)) fnExactBookAllUptoCard

/-- THE SECOND FORM's CARD OF 'laws.FnExactBookRead'. -/
def fnExactBookReadUptoCard : Claim7 := { stood := { row := fnExactBookReadUptoRow, standIns := [], harness := (true, "02baee576294665a9eeee5e56448d0c865c7ec4eecf3c28d6b8f750caaee3a72"), looks := true }, kinds := [], alts := [], laidByText := true, laidKinds := [.data, .data, .data, .data, .data, .sentinel, .sentinel, .sentinel, .sentinel, .sentinel, .sentinel, .sentinel, .sentinel, .data, .pinned], laidTests := true, laidLooks := .later }
def FnExactBookReadUptoCardSaid : Prop := Claim7.holds Tryz.pinned (.plain (OpenSpec.upto fnExactBookReadSpec)) fnExactBookReadUptoCard

/-- THE SECOND FORM's CARD OF 'laws.FnExactBookExpire'. -/
def fnExactBookExpireUptoCard : Claim7 := { stood := { row := fnExactBookExpireUptoRow, standIns := [], harness := (true, "02baee576294665a9eeee5e56448d0c865c7ec4eecf3c28d6b8f750caaee3a72"), looks := true }, kinds := [], alts := [], laidByText := true, laidKinds := [.data, .data, .data, .data, .data, .sentinel, .sentinel, .sentinel, .sentinel, .sentinel, .sentinel, .sentinel, .sentinel, .data, .pinned], laidTests := true, laidLooks := .later }
def FnExactBookExpireUptoCardSaid : Prop := Claim7.holds Tryz.pinned (.plain (OpenSpec.upto fnExactBookExpireSpec)) fnExactBookExpireUptoCard

/-- THE SECOND FORM's CARD OF 'laws.FnLines'. -/
def fnLinesUptoCard : Claim7 := { stood := { row := fnLinesUptoRow, standIns := [], harness := (true, "02baee576294665a9eeee5e56448d0c865c7ec4eecf3c28d6b8f750caaee3a72"), looks := true }, kinds := [], alts := [], laidByText := true, laidKinds := [.data, .data, .data, .data, .handle, .data, .sentinel, .sentinel, .sentinel, .sentinel, .sentinel, .sentinel, .sentinel, .sentinel, .data, .pinned], laidTests := true, laidLooks := .later }
def FnLinesUptoCardSaid : Prop := Claim7.holds Tryz.pinned (.plain (OpenSpec.upto fnLinesSpec)) fnLinesUptoCard

/-- THE SECOND FORM's CARD OF 'laws.FnExpire'. -/
def fnExpireUptoCard : Claim7 := { stood := { row := fnExpireUptoRow, standIns := [], harness := (true, "02baee576294665a9eeee5e56448d0c865c7ec4eecf3c28d6b8f750caaee3a72"), looks := true }, kinds := [], alts := [], laidByText := true, laidKinds := [.data, .data, .data, .data, .data, .sentinel, .sentinel, .sentinel, .sentinel, .sentinel, .sentinel, .sentinel, .sentinel, .data, .pinned], laidTests := true, laidLooks := .later }
def FnExpireUptoCardSaid : Prop := Claim7.holds Tryz.pinned (.plain (OpenSpec.upto fnExpireSpec)) fnExpireUptoCard

/-- THE SECOND FORM's CARD OF 'laws.FnCutOff'. -/
def fnCutOffUptoCard : Claim7 := { stood := { row := fnCutOffUptoRow, standIns := [], harness := (true, "02baee576294665a9eeee5e56448d0c865c7ec4eecf3c28d6b8f750caaee3a72"), looks := true }, kinds := [], alts := [], laidByText := true, laidKinds := [.data, .data, .data, .data, .handle, .data, .sentinel, .sentinel, .sentinel, .sentinel, .sentinel, .sentinel, .sentinel, .sentinel, .data, .pinned], laidTests := true, laidLooks := .later }
def FnCutOffUptoCardSaid : Prop := Claim7.holds Tryz.pinned (.plain (OpenSpec.upto fnCutOffSpec)) fnCutOffUptoCard

/-- THE SECOND FORM's CARD OF 'laws.FnTop'. -/
def fnTopUptoCard : Claim7 := { stood := { row := fnTopUptoRow, standIns := [], harness := (true, "02baee576294665a9eeee5e56448d0c865c7ec4eecf3c28d6b8f750caaee3a72"), looks := true }, kinds := [], alts := [], laidByText := true, laidKinds := [.data, .data, .data, .data, .handle, .data, .sentinel, .sentinel, .sentinel, .sentinel, .sentinel, .sentinel, .sentinel, .sentinel, .data, .pinned], laidTests := true, laidLooks := .later }
def FnTopUptoCardSaid : Prop := Claim7.holds Tryz.pinned (.plain (OpenSpec.upto fnTopSpec)) fnTopUptoCard
end Rows
end Go.Proofs.YtomiclakhjncbaaGreatDoor
