/-
  DERIVED. GIVEN WITH THE SEED: THE CARDS: each row of YteaeilghamjjkaaGreatDoorRows.lean that lists a variable, with what it lists TIED to the program's text (the seventh form; the later family's looks); each row that meets fmt, with fmt's text TOLD by the authors' own Lean function (tested against real Go, not proved from fmt's source: count such statements apart). THE CARD IS WHAT COUNTS. Prove the row's statement (the work); the ties are given (YteaeilghamjjkaaGreatDoorTie.lean); close each card by the builder's one call (the guide's Derived/Test/ToyasCard.lean, 'card_holds'). Laid BY PROGRAM, IN A SANDBOX (cutbox-door.mjs). By AI agents, Wed Nov 11 2026. No macro, syntax, notation, axiom, sorry.
-/
import Derived.Test.YteaeilghamjjkaaGreatDoorRows
import GoSem.ClaimSeven
namespace Go.Proofs.YteaeilghamjjkaaGreatDoor
namespace Rows

/-- THE TIED CARD OF 'lychgatetop.TopFtp'. -/
def topFtpCard : Claim7 := { stood := { row := topFtpRow, standIns := [], harness := (true, "e0298853ef99864daa7e4a1e28bce8301ad95c50303d44f4548cfe096ceec885"), looks := true }, kinds := [], alts := [], laidByText := true, laidKinds := [.data, .data, .data, .data, .data, .pinned], laidTests := true, laidLooks := .later }
def TopFtpCardSaid : Prop := Claim7.holds Tryz.pinned (.plain (OpenSpec.ofChange topFtpSpec)) topFtpCard

/-- THE TIED CARD OF 'lychgatetop.TopPptp'. -/
def topPptpCard : Claim7 := { stood := { row := topPptpRow, standIns := [], harness := (true, "e0298853ef99864daa7e4a1e28bce8301ad95c50303d44f4548cfe096ceec885"), looks := true }, kinds := [], alts := [], laidByText := true, laidKinds := [.data, .data], laidTests := true, laidLooks := .later }
def TopPptpCardSaid : Prop := Claim7.holds Tryz.pinned (.plain (OpenSpec.ofChange topPptpSpec)) topPptpCard

/-- THE SECOND FORM's CARD OF 'lychgatetop.TopFtp'. -/
def topFtpUptoCard : Claim7 := { stood := { row := topFtpUptoRow, standIns := [], harness := (true, "e0298853ef99864daa7e4a1e28bce8301ad95c50303d44f4548cfe096ceec885"), looks := true }, kinds := [], alts := [], laidByText := true, laidKinds := [.data, .data, .data, .data, .data, .pinned], laidTests := true, laidLooks := .later }
def TopFtpUptoCardSaid : Prop := Claim7.holds Tryz.pinned (.plain (OpenSpec.upto topFtpSpec)) topFtpUptoCard

/-- THE SECOND FORM's CARD OF 'lychgatetop.TopPptp'. -/
def topPptpUptoCard : Claim7 := { stood := { row := topPptpUptoRow, standIns := [], harness := (true, "e0298853ef99864daa7e4a1e28bce8301ad95c50303d44f4548cfe096ceec885"), looks := true }, kinds := [], alts := [], laidByText := true, laidKinds := [.data, .data], laidTests := true, laidLooks := .later }
def TopPptpUptoCardSaid : Prop := Claim7.holds Tryz.pinned (.plain (OpenSpec.upto topPptpSpec)) topPptpUptoCard
end Rows
end Go.Proofs.YteaeilghamjjkaaGreatDoor
