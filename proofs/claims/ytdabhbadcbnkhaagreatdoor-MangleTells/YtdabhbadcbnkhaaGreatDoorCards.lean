/-
  DERIVED. GIVEN WITH THE SEED: THE CARDS: each row of YtdabhbadcbnkhaaGreatDoorRows.lean that lists a variable, with what it lists TIED to the program's text (the seventh form; the later family's looks); each row that meets fmt, with fmt's text TOLD by the authors' own Lean function (tested against real Go, not proved from fmt's source: count such statements apart). THE CARD IS WHAT COUNTS. Prove the row's statement (the work); the ties are given (YtdabhbadcbnkhaaGreatDoorTie.lean); close each card by the builder's one call (the guide's Derived/Test/ToyasCard.lean, 'card_holds'). Laid BY PROGRAM, IN A SANDBOX (cutbox-door.mjs). By AI agents, Wed Nov 11 2026. No macro, syntax, notation, axiom, sorry.
-/
import Derived.Test.YtdabhbadcbnkhaaGreatDoorRows
import GoSem.ClaimSeven
namespace Go.Proofs.YtdabhbadcbnkhaaGreatDoor
namespace Rows

/-- THE TIED CARD OF 'lychgatelaw10.MangleQuotes'. -/
def mangleQuotesCard : Claim7 := { stood := { row := mangleQuotesRow, standIns := [], harness := (true, "eff683c0755c428a6a40b4fcac062e997063661b2a4556d730103993247473c1"), looks := true }, kinds := [], alts := [], laidByText := true, laidKinds := [.data], laidTests := true, laidLooks := .later }
def MangleQuotesCardSaid : Prop := Claim7.holds Tryz.pinned (.plain (OpenSpec.ofChange mangleQuotesSpec)) mangleQuotesCard

/-- THE TIED CARD OF 'lychgatelaw10.MangleTells'. -/
def mangleTellsCard : Claim7 := { stood := { row := mangleTellsRow, standIns := [], harness := (true, "eff683c0755c428a6a40b4fcac062e997063661b2a4556d730103993247473c1"), looks := true }, kinds := [], alts := [], laidByText := true, laidKinds := [.data], laidTests := true, laidLooks := .later }
def MangleTellsCardSaid : Prop := Claim7.holds Tryz.pinned (.plain (OpenSpec.ofChange mangleTellsSpec)) mangleTellsCard

/-- THE TIED CARD OF 'lychgatelaw10.MangleInner'. -/
def mangleInnerCard : Claim7 := { stood := { row := mangleInnerRow, standIns := [], harness := (true, "eff683c0755c428a6a40b4fcac062e997063661b2a4556d730103993247473c1"), looks := true }, kinds := [], alts := [], laidByText := true, laidKinds := [.data], laidTests := true, laidLooks := .later }
def MangleInnerCardSaid : Prop := Claim7.holds Tryz.pinned (.plain (OpenSpec.ofChange mangleInnerSpec)) mangleInnerCard

/-- THE SECOND FORM's CARD OF 'lychgatelaw10.MangleQuotes'. -/
def mangleQuotesUptoCard : Claim7 := { stood := { row := mangleQuotesUptoRow, standIns := [], harness := (true, "eff683c0755c428a6a40b4fcac062e997063661b2a4556d730103993247473c1"), looks := true }, kinds := [], alts := [], laidByText := true, laidKinds := [.data], laidTests := true, laidLooks := .later }
def MangleQuotesUptoCardSaid : Prop := Claim7.holds Tryz.pinned (.plain (OpenSpec.upto mangleQuotesSpec)) mangleQuotesUptoCard

/-- THE SECOND FORM's CARD OF 'lychgatelaw10.MangleTells'. -/
def mangleTellsUptoCard : Claim7 := { stood := { row := mangleTellsUptoRow, standIns := [], harness := (true, "eff683c0755c428a6a40b4fcac062e997063661b2a4556d730103993247473c1"), looks := true }, kinds := [], alts := [], laidByText := true, laidKinds := [.data], laidTests := true, laidLooks := .later }
def MangleTellsUptoCardSaid : Prop := Claim7.holds Tryz.pinned (.plain (OpenSpec.upto mangleTellsSpec)) mangleTellsUptoCard

/-- THE SECOND FORM's CARD OF 'lychgatelaw10.MangleInner'. -/
def mangleInnerUptoCard : Claim7 := { stood := { row := mangleInnerUptoRow, standIns := [], harness := (true, "eff683c0755c428a6a40b4fcac062e997063661b2a4556d730103993247473c1"), looks := true }, kinds := [], alts := [], laidByText := true, laidKinds := [.data], laidTests := true, laidLooks := .later }
def MangleInnerUptoCardSaid : Prop := Claim7.holds Tryz.pinned (.plain (OpenSpec.upto mangleInnerSpec)) mangleInnerUptoCard
end Rows
end Go.Proofs.YtdabhbadcbnkhaaGreatDoor
