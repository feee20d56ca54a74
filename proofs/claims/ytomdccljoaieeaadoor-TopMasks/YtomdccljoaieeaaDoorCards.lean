/-
  DERIVED. GIVEN WITH THE SEED: THE CARDS: each row of YtomdccljoaieeaaDoorRows.lean that lists a variable, with what it lists TIED to the program's text (the seventh form; the later family's looks); each row that meets fmt, with fmt's text TOLD by the authors' own Lean function (tested against real Go, not proved from fmt's source: count such statements apart). THE CARD IS WHAT COUNTS. Prove the row's statement (the work); the ties are given (YtomdccljoaieeaaDoorTie.lean); close each card by the builder's one call (the guide's Derived/Test/ToyasCard.lean, 'card_holds'). Laid BY PROGRAM, IN A SANDBOX (cutbox-door.mjs). By AI agents, Wed Nov 11 2026. No macro, syntax, notation, axiom, sorry.
-/
import Derived.Test.YtomdccljoaieeaaDoorRows
import GoSem.ClaimSeven
namespace Go.Proofs.YtomdccljoaieeaaDoor
namespace Rows

/-- THE TIED CARD OF 'lychgatetop.TopMasks'. -/
def topMasksCard : Claim7 := { stood := { row := topMasksRow, standIns := [], harness := (true, "b143e97ea0437c6670e4d710db757cb178940afcd64eced6d816d6de53544a3c"), looks := false }, kinds := [], alts := [], laidByText := true, laidKinds := [.data, .data], laidTests := true, laidLooks := .later }
def TopMasksCardSaid : Prop := Claim7.holds Tryd.pinned (.plain (OpenSpec.ofChange topMasksSpec)) topMasksCard

/-- THE SECOND FORM's CARD OF 'lychgatetop.TopMasks'. -/
def topMasksUptoCard : Claim7 := { stood := { row := topMasksUptoRow, standIns := [], harness := (true, "b143e97ea0437c6670e4d710db757cb178940afcd64eced6d816d6de53544a3c"), looks := false }, kinds := [], alts := [], laidByText := true, laidKinds := [.data, .data], laidTests := true, laidLooks := .later }
def TopMasksUptoCardSaid : Prop := Claim7.holds Tryd.pinned (.plain (OpenSpec.upto topMasksSpec)) topMasksUptoCard
end Rows
end Go.Proofs.YtomdccljoaieeaaDoor
