/-
  DERIVED. GIVEN WITH THE SEED: THE CARDS: each row of YtopgcfgomappjaaDoorRows.lean that lists a variable, with what it lists TIED to the program's text (the seventh form; the later family's looks); each row that meets fmt, with fmt's text TOLD by the authors' own Lean function (tested against real Go, not proved from fmt's source: count such statements apart). THE CARD IS WHAT COUNTS. Prove the row's statement (the work); the ties are given (YtopgcfgomappjaaDoorTie.lean); close each card by the builder's one call (the guide's Derived/Test/ToyasCard.lean, 'card_holds'). Laid BY PROGRAM, IN A SANDBOX (cutbox-door.mjs). By AI agents, Wed Nov 11 2026. No macro, syntax, notation, axiom, sorry.
-/
import Derived.Test.YtopgcfgomappjaaDoorRows
import GoSem.ClaimSeven
namespace Go.Proofs.YtopgcfgomappjaaDoor
namespace Rows

/-- THE TIED CARD OF 'laws.FnExactPackMessage'. -/
def fnExactPackMessageCard : Claim7 := { stood := { row := fnExactPackMessageRow, standIns := [], harness := (true, "ce5196d818d676f871522b15286fb2f4525a4c4485641f1d6db66f11a1649137"), looks := true }, kinds := [], alts := [], laidByText := true, laidKinds := [.data, .data, .data], laidTests := true, laidLooks := .later }
def FnExactPackMessageCardSaid : Prop := Claim7.holds Tryd.pinned (.plain (OpenSpec.ofChange fnExactPackMessageSpec)) fnExactPackMessageCard

/-- THE TIED CARD OF 'laws.FnExactUnpackMessage'. -/
def fnExactUnpackMessageCard : Claim7 := { stood := { row := fnExactUnpackMessageRow, standIns := [], harness := (true, "ce5196d818d676f871522b15286fb2f4525a4c4485641f1d6db66f11a1649137"), looks := true }, kinds := [], alts := [], laidByText := true, laidKinds := [.handle], laidTests := true, laidLooks := .later }
def FnExactUnpackMessageCardSaid : Prop := Claim7.holds Tryd.pinned (.plain (OpenSpec.ofChange fnExactUnpackMessageSpec)) fnExactUnpackMessageCard

/-- THE TIED CARD OF 'laws.FnExactMessageText'. -/
def fnExactMessageTextCard : Claim7 := { stood := { row := fnExactMessageTextRow, standIns := [], harness := (true, "ce5196d818d676f871522b15286fb2f4525a4c4485641f1d6db66f11a1649137"), looks := true }, kinds := [], alts := [], laidByText := true, laidKinds := [.data, .data, .data, .data, .pinned], laidTests := true, laidLooks := .later }
def FnExactMessageTextCardSaid : Prop := Claim7.holds Tryd.pinned (.plain (OpenSpec.ofChange fnExactMessageTextSpec)) fnExactMessageTextCard

/-- THE SECOND FORM's CARD OF 'laws.FnExactPackMessage'. -/
def fnExactPackMessageUptoCard : Claim7 := { stood := { row := fnExactPackMessageUptoRow, standIns := [], harness := (true, "ce5196d818d676f871522b15286fb2f4525a4c4485641f1d6db66f11a1649137"), looks := true }, kinds := [], alts := [], laidByText := true, laidKinds := [.data, .data, .data], laidTests := true, laidLooks := .later }
def FnExactPackMessageUptoCardSaid : Prop := Claim7.holds Tryd.pinned (.plain (OpenSpec.upto fnExactPackMessageSpec)) fnExactPackMessageUptoCard

/-- THE SECOND FORM's CARD OF 'laws.FnExactUnpackMessage'. -/
def fnExactUnpackMessageUptoCard : Claim7 := { stood := { row := fnExactUnpackMessageUptoRow, standIns := [], harness := (true, "ce5196d818d676f871522b15286fb2f4525a4c4485641f1d6db66f11a1649137"), looks := true }, kinds := [], alts := [], laidByText := true, laidKinds := [.handle], laidTests := true, laidLooks := .later }
def FnExactUnpackMessageUptoCardSaid : Prop := Claim7.holds Tryd.pinned (.plain (OpenSpec.upto fnExactUnpackMessageSpec)) fnExactUnpackMessageUptoCard

/-- THE SECOND FORM's CARD OF 'laws.FnExactMessageText'. -/
def fnExactMessageTextUptoCard : Claim7 := { stood := { row := fnExactMessageTextUptoRow, standIns := [], harness := (true, "ce5196d818d676f871522b15286fb2f4525a4c4485641f1d6db66f11a1649137"), looks := true }, kinds := [], alts := [], laidByText := true, laidKinds := [.data, .data, .data, .data, .pinned], laidTests := true, laidLooks := .later }
def FnExactMessageTextUptoCardSaid : Prop := Claim7.holds Tryd.pinned (.plain (OpenSpec.upto fnExactMessageTextSpec)) fnExactMessageTextUptoCard
end Rows
end Go.Proofs.YtopgcfgomappjaaDoor
