/-
  DERIVED. GIVEN WITH THE SEED: THE CARDS: each row of YtcdeiakeiehaaaaDoorRows.lean that lists a variable, with what it lists TIED to the program's text (the seventh form; the later family's looks); each row that meets fmt, with fmt's text TOLD by the authors' own Lean function (tested against real Go, not proved from fmt's source: count such statements apart). THE CARD IS WHAT COUNTS. Prove the row's statement (the work); the ties are given (YtcdeiakeiehaaaaDoorTie.lean); close each card by the builder's one call (the guide's Derived/Test/ToyasCard.lean, 'card_holds'). Laid BY PROGRAM, IN A SANDBOX (cutbox-door.mjs). By AI agents, Wed Nov 11 2026. No macro, syntax, notation, axiom, sorry.
-/
import Derived.Test.YtcdeiakeiehaaaaDoorRows
import GoSem.ClaimSeven
namespace Go.Proofs.YtcdeiakeiehaaaaDoor
namespace Rows

/-- THE TIED CARD OF 'lychgatelaw04.CtrlBuilds'. -/
def ctrlBuildsCard : Claim7 := { stood := { row := ctrlBuildsRow, standIns := [], harness := (true, "8967cecfe12ab54e152e68080f5f34f198e53fd3faa40a3ef990b81bcd50a21a"), looks := false }, kinds := [], alts := [], laidByText := true, laidKinds := [.data], laidTests := true, laidLooks := .later }
def CtrlBuildsCardSaid : Prop := Claim7.holds Tryd.pinned (.plain (OpenSpec.ofChange ctrlBuildsSpec)) ctrlBuildsCard

/-- THE TIED CARD OF 'lychgatelaw04.CtrlBack'. -/
def ctrlBackCard : Claim7 := { stood := { row := ctrlBackRow, standIns := [], harness := (true, "8967cecfe12ab54e152e68080f5f34f198e53fd3faa40a3ef990b81bcd50a21a"), looks := false }, kinds := [], alts := [], laidByText := true, laidKinds := [.data], laidTests := true, laidLooks := .later }
def CtrlBackCardSaid : Prop := Claim7.holds Tryd.pinned (.plain (OpenSpec.ofChange ctrlBackSpec)) ctrlBackCard

/-- THE TIED CARD OF 'lychgatelaw04.CtrlSizes'. -/
def ctrlSizesCard : Claim7 := { stood := { row := ctrlSizesRow, standIns := [], harness := (true, "8967cecfe12ab54e152e68080f5f34f198e53fd3faa40a3ef990b81bcd50a21a"), looks := false }, kinds := [], alts := [], laidByText := true, laidKinds := [.data], laidTests := true, laidLooks := .later }
def CtrlSizesCardSaid : Prop := Claim7.holds Tryd.pinned (.plain (OpenSpec.ofChange ctrlSizesSpec)) ctrlSizesCard

/-- THE SECOND FORM's CARD OF 'lychgatelaw04.CtrlBuilds'. -/
def ctrlBuildsUptoCard : Claim7 := { stood := { row := ctrlBuildsUptoRow, standIns := [], harness := (true, "8967cecfe12ab54e152e68080f5f34f198e53fd3faa40a3ef990b81bcd50a21a"), looks := false }, kinds := [], alts := [], laidByText := true, laidKinds := [.data], laidTests := true, laidLooks := .later }
def CtrlBuildsUptoCardSaid : Prop := Claim7.holds Tryd.pinned (.plain (OpenSpec.upto ctrlBuildsSpec)) ctrlBuildsUptoCard

/-- THE SECOND FORM's CARD OF 'lychgatelaw04.CtrlBack'. -/
def ctrlBackUptoCard : Claim7 := { stood := { row := ctrlBackUptoRow, standIns := [], harness := (true, "8967cecfe12ab54e152e68080f5f34f198e53fd3faa40a3ef990b81bcd50a21a"), looks := false }, kinds := [], alts := [], laidByText := true, laidKinds := [.data], laidTests := true, laidLooks := .later }
def CtrlBackUptoCardSaid : Prop := Claim7.holds Tryd.pinned (.plain (OpenSpec.upto ctrlBackSpec)) ctrlBackUptoCard

/-- THE SECOND FORM's CARD OF 'lychgatelaw04.CtrlSizes'. -/
def ctrlSizesUptoCard : Claim7 := { stood := { row := ctrlSizesUptoRow, standIns := [], harness := (true, "8967cecfe12ab54e152e68080f5f34f198e53fd3faa40a3ef990b81bcd50a21a"), looks := false }, kinds := [], alts := [], laidByText := true, laidKinds := [.data], laidTests := true, laidLooks := .later }
def CtrlSizesUptoCardSaid : Prop := Claim7.holds Tryd.pinned (.plain (OpenSpec.upto ctrlSizesSpec)) ctrlSizesUptoCard
end Rows
end Go.Proofs.YtcdeiakeiehaaaaDoor
