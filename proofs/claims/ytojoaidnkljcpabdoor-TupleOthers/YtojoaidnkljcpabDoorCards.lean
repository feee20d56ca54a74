/-
  DERIVED. GIVEN WITH THE SEED: THE CARDS: each row of YtojoaidnkljcpabDoorRows.lean that lists a variable, with what it lists TIED to the program's text (the seventh form; the later family's looks); each row that meets fmt, with fmt's text TOLD by the authors' own Lean function (tested against real Go, not proved from fmt's source: count such statements apart). THE CARD IS WHAT COUNTS. Prove the row's statement (the work); the ties are given (YtojoaidnkljcpabDoorTie.lean); close each card by the builder's one call (the guide's Derived/Test/ToyasCard.lean, 'card_holds'). Laid BY PROGRAM, IN A SANDBOX (cutbox-door.mjs). By AI agents, Wed Nov 11 2026. No macro, syntax, notation, axiom, sorry.
-/
import Derived.Test.YtojoaidnkljcpabDoorRows
import GoSem.ClaimSeven
namespace Go.Proofs.YtojoaidnkljcpabDoor
namespace Rows

/-- THE TIED CARD OF 'lychgatelaw05.TupleOthers'. -/
def tupleOthersCard : Claim7 := { stood := { row := tupleOthersRow, standIns := [], harness := (true, "e38b0a65ddc5a305c058eb644f708d692bcb2bb0c31a99942e87b02d8e1dfe18"), looks := false }, kinds := [], alts := [], laidByText := true, laidKinds := [.data], laidTests := true, laidLooks := .later }
def TupleOthersCardSaid : Prop := Claim7.holds Tryd.pinned (.plain (OpenSpec.ofChange tupleOthersSpec)) tupleOthersCard

/-- THE SECOND FORM's CARD OF 'lychgatelaw05.TupleOthers'. -/
def tupleOthersUptoCard : Claim7 := { stood := { row := tupleOthersUptoRow, standIns := [], harness := (true, "e38b0a65ddc5a305c058eb644f708d692bcb2bb0c31a99942e87b02d8e1dfe18"), looks := false }, kinds := [], alts := [], laidByText := true, laidKinds := [.data], laidTests := true, laidLooks := .later }
def TupleOthersUptoCardSaid : Prop := Claim7.holds Tryd.pinned (.plain (OpenSpec.upto tupleOthersSpec)) tupleOthersUptoCard
end Rows
end Go.Proofs.YtojoaidnkljcpabDoor
