/-
  DERIVED. GIVEN WITH THE SEED: THE CARDS: each row of YtejkonnbpjocoacDoorRows.lean that lists a variable, with what it lists TIED to the program's text (the seventh form; the later family's looks); each row that meets fmt, with fmt's text TOLD by the authors' own Lean function (tested against real Go, not proved from fmt's source: count such statements apart). THE CARD IS WHAT COUNTS. Prove the row's statement (the work); the ties are given (YtejkonnbpjocoacDoorTie.lean); close each card by the builder's one call (the guide's Derived/Test/ToyasCard.lean, 'card_holds'). Laid BY PROGRAM, IN A SANDBOX (cutbox-door.mjs). By AI agents, Wed Nov 11 2026. No macro, syntax, notation, axiom, sorry.
-/
import Derived.Test.YtejkonnbpjocoacDoorRows
import GoSem.ClaimSeven
namespace Go.Proofs.YtejkonnbpjocoacDoor
namespace Rows

/-- THE TIED CARD OF 'lychgatelaw04.CtrlBuilds'. -/
def ctrlBuildsCard : Claim7 := { stood := { row := ctrlBuildsRow, standIns := [], harness := (true, "808a7ee9bf337e3effe981b48223607e87cecedac308e5494865f96fb4b1a2b3"), looks := false }, kinds := [], alts := [], laidByText := true, laidKinds := [.data], laidTests := true, laidLooks := .later }
def CtrlBuildsCardSaid : Prop := Claim7.holds Tryd.pinned (.plain (OpenSpec.ofChange ctrlBuildsSpec)) ctrlBuildsCard

/-- THE TIED CARD OF 'lychgatelaw04.CtrlBack'. -/
def ctrlBackCard : Claim7 := { stood := { row := ctrlBackRow, standIns := [], harness := (true, "808a7ee9bf337e3effe981b48223607e87cecedac308e5494865f96fb4b1a2b3"), looks := false }, kinds := [], alts := [], laidByText := true, laidKinds := [.data], laidTests := true, laidLooks := .later }
def CtrlBackCardSaid : Prop := Claim7.holds Tryd.pinned (.plain (OpenSpec.ofChange ctrlBackSpec)) ctrlBackCard

/-- THE TIED CARD OF 'lychgatelaw04.CtrlKinds'. -/
def ctrlKindsCard : Claim7 := { stood := { row := ctrlKindsRow, standIns := [], harness := (true, "808a7ee9bf337e3effe981b48223607e87cecedac308e5494865f96fb4b1a2b3"), looks := false }, kinds := [], alts := [], laidByText := true, laidKinds := [.data], laidTests := true, laidLooks := .later }
def CtrlKindsCardSaid : Prop := Claim7.holds Tryd.pinned (.plain (OpenSpec.ofChange ctrlKindsSpec)) ctrlKindsCard

/-- THE TIED CARD OF 'lychgatelaw04.CtrlFlips'. -/
def ctrlFlipsCard : Claim7 := { stood := { row := ctrlFlipsRow, standIns := [], harness := (true, "808a7ee9bf337e3effe981b48223607e87cecedac308e5494865f96fb4b1a2b3"), looks := false }, kinds := [], alts := [], laidByText := true, laidKinds := [.data], laidTests := true, laidLooks := .later }
def CtrlFlipsCardSaid : Prop := Claim7.holds Tryd.pinned (.plain (OpenSpec.ofChange ctrlFlipsSpec)) ctrlFlipsCard

/-- THE TIED CARD OF 'lychgatelaw04.CtrlCuts'. -/
def ctrlCutsCard : Claim7 := { stood := { row := ctrlCutsRow, standIns := [], harness := (true, "808a7ee9bf337e3effe981b48223607e87cecedac308e5494865f96fb4b1a2b3"), looks := false }, kinds := [], alts := [], laidByText := true, laidKinds := [.data], laidTests := true, laidLooks := .later }
def CtrlCutsCardSaid : Prop := Claim7.holds Tryd.pinned (.plain (OpenSpec.ofChange ctrlCutsSpec)) ctrlCutsCard

/-- THE TIED CARD OF 'lychgatelaw04.CtrlOthers'. -/
def ctrlOthersCard : Claim7 := { stood := { row := ctrlOthersRow, standIns := [], harness := (true, "808a7ee9bf337e3effe981b48223607e87cecedac308e5494865f96fb4b1a2b3"), looks := false }, kinds := [], alts := [], laidByText := true, laidKinds := [.data], laidTests := true, laidLooks := .later }
def CtrlOthersCardSaid : Prop := Claim7.holds Tryd.pinned (.plain (OpenSpec.ofChange ctrlOthersSpec)) ctrlOthersCard

/-- THE SECOND FORM's CARD OF 'lychgatelaw04.CtrlBuilds'. -/
def ctrlBuildsUptoCard : Claim7 := { stood := { row := ctrlBuildsUptoRow, standIns := [], harness := (true, "808a7ee9bf337e3effe981b48223607e87cecedac308e5494865f96fb4b1a2b3"), looks := false }, kinds := [], alts := [], laidByText := true, laidKinds := [.data], laidTests := true, laidLooks := .later }
def CtrlBuildsUptoCardSaid : Prop := Claim7.holds Tryd.pinned (.plain (OpenSpec.upto ctrlBuildsSpec)) ctrlBuildsUptoCard

/-- THE SECOND FORM's CARD OF 'lychgatelaw04.CtrlBack'. -/
def ctrlBackUptoCard : Claim7 := { stood := { row := ctrlBackUptoRow, standIns := [], harness := (true, "808a7ee9bf337e3effe981b48223607e87cecedac308e5494865f96fb4b1a2b3"), looks := false }, kinds := [], alts := [], laidByText := true, laidKinds := [.data], laidTests := true, laidLooks := .later }
def CtrlBackUptoCardSaid : Prop := Claim7.holds Tryd.pinned (.plain (OpenSpec.upto ctrlBackSpec)) ctrlBackUptoCard

/-- THE SECOND FORM's CARD OF 'lychgatelaw04.CtrlKinds'. -/
def ctrlKindsUptoCard : Claim7 := { stood := { row := ctrlKindsUptoRow, standIns := [], harness := (true, "808a7ee9bf337e3effe981b48223607e87cecedac308e5494865f96fb4b1a2b3"), looks := false }, kinds := [], alts := [], laidByText := true, laidKinds := [.data], laidTests := true, laidLooks := .later }
def CtrlKindsUptoCardSaid : Prop := Claim7.holds Tryd.pinned (.plain (OpenSpec.upto ctrlKindsSpec)) ctrlKindsUptoCard

/-- THE SECOND FORM's CARD OF 'lychgatelaw04.CtrlFlips'. -/
def ctrlFlipsUptoCard : Claim7 := { stood := { row := ctrlFlipsUptoRow, standIns := [], harness := (true, "808a7ee9bf337e3effe981b48223607e87cecedac308e5494865f96fb4b1a2b3"), looks := false }, kinds := [], alts := [], laidByText := true, laidKinds := [.data], laidTests := true, laidLooks := .later }
def CtrlFlipsUptoCardSaid : Prop := Claim7.holds Tryd.pinned (.plain (OpenSpec.upto ctrlFlipsSpec)) ctrlFlipsUptoCard

/-- THE SECOND FORM's CARD OF 'lychgatelaw04.CtrlCuts'. -/
def ctrlCutsUptoCard : Claim7 := { stood := { row := ctrlCutsUptoRow, standIns := [], harness := (true, "808a7ee9bf337e3effe981b48223607e87cecedac308e5494865f96fb4b1a2b3"), looks := false }, kinds := [], alts := [], laidByText := true, laidKinds := [.data], laidTests := true, laidLooks := .later }
def CtrlCutsUptoCardSaid : Prop := Claim7.holds Tryd.pinned (.plain (OpenSpec.upto ctrlCutsSpec)) ctrlCutsUptoCard

/-- THE SECOND FORM's CARD OF 'lychgatelaw04.CtrlOthers'. -/
def ctrlOthersUptoCard : Claim7 := { stood := { row := ctrlOthersUptoRow, standIns := [], harness := (true, "808a7ee9bf337e3effe981b48223607e87cecedac308e5494865f96fb4b1a2b3"), looks := false }, kinds := [], alts := [], laidByText := true, laidKinds := [.data], laidTests := true, laidLooks := .later }
def CtrlOthersUptoCardSaid : Prop := Claim7.holds Tryd.pinned (.plain (OpenSpec.upto ctrlOthersSpec)) ctrlOthersUptoCard
end Rows
end Go.Proofs.YtejkonnbpjocoacDoor
