/-
  DERIVED. GIVEN WITH THE SEED: THE CARDS: each row of YtejkonnbpjocoadDoorRows.lean that lists a variable, with what it lists TIED to the program's text (the seventh form; the later family's looks); each row that meets fmt, with fmt's text TOLD by the authors' own Lean function (tested against real Go, not proved from fmt's source: count such statements apart). THE CARD IS WHAT COUNTS. Prove the row's statement (the work); the ties are given (YtejkonnbpjocoadDoorTie.lean); close each card by the builder's one call (the guide's Derived/Test/ToyasCard.lean, 'card_holds'). Laid BY PROGRAM, IN A SANDBOX (cutbox-door.mjs). By AI agents, Wed Nov 11 2026. No macro, syntax, notation, axiom, sorry.
-/
import Derived.Test.YtejkonnbpjocoadDoorRows
import GoSem.ClaimSeven
namespace Go.Proofs.YtejkonnbpjocoadDoor
namespace Rows

/-- THE TIED CARD OF 'lychgatelaw04.CtrlSizes'. -/
def ctrlSizesCard : Claim7 := { stood := { row := ctrlSizesRow, standIns := [], harness := (true, "8f05d1f2e1ac8c3837ced9dfde2ae0d07fbbaca5b1d6a0b8518296fe195edac2"), looks := false }, kinds := [], alts := [], laidByText := true, laidKinds := [.data], laidTests := true, laidLooks := .later }
def CtrlSizesCardSaid : Prop := Claim7.holds Tryd.pinned (.plain (OpenSpec.ofChange ctrlSizesSpec)) ctrlSizesCard

/-- THE TIED CARD OF 'lychgatelaw04.CtrlSame'. -/
def ctrlSameCard : Claim7 := { stood := { row := ctrlSameRow, standIns := [], harness := (true, "8f05d1f2e1ac8c3837ced9dfde2ae0d07fbbaca5b1d6a0b8518296fe195edac2"), looks := false }, kinds := [], alts := [], laidByText := true, laidKinds := [.data], laidTests := true, laidLooks := .later }
def CtrlSameCardSaid : Prop := Claim7.holds Tryd.pinned (.plain (OpenSpec.ofChange ctrlSameSpec)) ctrlSameCard

/-- THE SECOND FORM's CARD OF 'lychgatelaw04.CtrlSizes'. -/
def ctrlSizesUptoCard : Claim7 := { stood := { row := ctrlSizesUptoRow, standIns := [], harness := (true, "8f05d1f2e1ac8c3837ced9dfde2ae0d07fbbaca5b1d6a0b8518296fe195edac2"), looks := false }, kinds := [], alts := [], laidByText := true, laidKinds := [.data], laidTests := true, laidLooks := .later }
def CtrlSizesUptoCardSaid : Prop := Claim7.holds Tryd.pinned (.plain (OpenSpec.upto ctrlSizesSpec)) ctrlSizesUptoCard

/-- THE SECOND FORM's CARD OF 'lychgatelaw04.CtrlSame'. -/
def ctrlSameUptoCard : Claim7 := { stood := { row := ctrlSameUptoRow, standIns := [], harness := (true, "8f05d1f2e1ac8c3837ced9dfde2ae0d07fbbaca5b1d6a0b8518296fe195edac2"), looks := false }, kinds := [], alts := [], laidByText := true, laidKinds := [.data], laidTests := true, laidLooks := .later }
def CtrlSameUptoCardSaid : Prop := Claim7.holds Tryd.pinned (.plain (OpenSpec.upto ctrlSameSpec)) ctrlSameUptoCard
end Rows
end Go.Proofs.YtejkonnbpjocoadDoor
