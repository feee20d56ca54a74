/-
  DERIVED. GIVEN WITH THE SEED: THE CARDS: each row of YtghpakfjpdifaaaGreatDoorRows.lean that lists a variable, with what it lists TIED to the program's text (the seventh form; the later family's looks); each row that meets fmt, with fmt's text TOLD by the authors' own Lean function (tested against real Go, not proved from fmt's source: count such statements apart). THE CARD IS WHAT COUNTS. Prove the row's statement (the work); the ties are given (YtghpakfjpdifaaaGreatDoorTie.lean); close each card by the builder's one call (the guide's Derived/Test/ToyasCard.lean, 'card_holds'). Laid BY PROGRAM, IN A SANDBOX (cutbox-door.mjs). By AI agents, Wed Nov 11 2026. No macro, syntax, notation, axiom, sorry.
-/
import Derived.Test.YtghpakfjpdifaaaGreatDoorRows
import GoSem.ClaimSeven
namespace Go.Proofs.YtghpakfjpdifaaaGreatDoor
namespace Rows

/-- THE TIED CARD OF 'lychgatelaw10.MangleQuotes'. -/
def mangleQuotesCard : Claim7 := { stood := { row := mangleQuotesRow, standIns := [], harness := (true, "5f3efbb934823126d8aafe3dfd02d7ef3c01945447cf2420d0e2ac4f59d6c522"), looks := true }, kinds := [], alts := [], laidByText := true, laidKinds := [.data], laidTests := true, laidLooks := .later }
def MangleQuotesCardSaid : Prop := Claim7.holds Tryz.pinned (.plain (OpenSpec.ofChange mangleQuotesSpec)) mangleQuotesCard

/-- THE TIED CARD OF 'lychgatelaw10.MangleInner'. -/
def mangleInnerCard : Claim7 := { stood := { row := mangleInnerRow, standIns := [], harness := (true, "5f3efbb934823126d8aafe3dfd02d7ef3c01945447cf2420d0e2ac4f59d6c522"), looks := true }, kinds := [], alts := [], laidByText := true, laidKinds := [.data], laidTests := true, laidLooks := .later }
def MangleInnerCardSaid : Prop := Claim7.holds Tryz.pinned (.plain (OpenSpec.ofChange mangleInnerSpec)) mangleInnerCard

/-- THE SECOND FORM's CARD OF 'lychgatelaw10.MangleQuotes'. -/
def mangleQuotesUptoCard : Claim7 := { stood := { row := mangleQuotesUptoRow, standIns := [], harness := (true, "5f3efbb934823126d8aafe3dfd02d7ef3c01945447cf2420d0e2ac4f59d6c522"), looks := true }, kinds := [], alts := [], laidByText := true, laidKinds := [.data], laidTests := true, laidLooks := .later }
def MangleQuotesUptoCardSaid : Prop := Claim7.holds Tryz.pinned (.plain (OpenSpec.upto mangleQuotesSpec)) mangleQuotesUptoCard

/-- THE SECOND FORM's CARD OF 'lychgatelaw10.MangleInner'. -/
def mangleInnerUptoCard : Claim7 := { stood := { row := mangleInnerUptoRow, standIns := [], harness := (true, "5f3efbb934823126d8aafe3dfd02d7ef3c01945447cf2420d0e2ac4f59d6c522"), looks := true }, kinds := [], alts := [], laidByText := true, laidKinds := [.data], laidTests := true, laidLooks := .later }
def MangleInnerUptoCardSaid : Prop := Claim7.holds Tryz.pinned (.plain (OpenSpec.upto mangleInnerSpec)) mangleInnerUptoCard
end Rows
end Go.Proofs.YtghpakfjpdifaaaGreatDoor
