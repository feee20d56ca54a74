/-
  DERIVED. GIVEN WITH THE SEED: THE CARDS: each row of YtifdocjagnhncabDoorRows.lean that lists a variable, with what it lists TIED to the program's text (the seventh form; the later family's looks); each row that meets fmt, with fmt's text TOLD by the authors' own Lean function (tested against real Go, not proved from fmt's source: count such statements apart). THE CARD IS WHAT COUNTS. Prove the row's statement (the work); the ties are given (YtifdocjagnhncabDoorTie.lean); close each card by the builder's one call (the guide's Derived/Test/ToyasCard.lean, 'card_holds'). Laid BY PROGRAM, IN A SANDBOX (cutbox-door.mjs). By AI agents, Wed Nov 11 2026. No macro, syntax, notation, axiom, sorry.
-/
import Derived.Test.YtifdocjagnhncabDoorRows
import GoSem.ClaimSeven
namespace Go.Proofs.YtifdocjagnhncabDoor
namespace Rows

/-- THE TIED CARD OF 'lychgatelaw14.SipRight'. -/
def sipRightCard : Claim7 := { stood := { row := sipRightRow, standIns := [], harness := (true, "aae2b0030f3edc37e7d4a5216eeaaea63ed090cbc14ea25adb9b2694900b5f86"), looks := false }, kinds := [], alts := [], laidByText := true, laidKinds := [.data, .data, .data], laidTests := true, laidLooks := .later }
def SipRightCardSaid : Prop := Claim7.holds Tryd.pinned (.plain (OpenSpec.ofChange sipRightSpec)) sipRightCard

/-- THE TIED CARD OF 'lychgatelaw14.SipHides'. -/
def sipHidesCard : Claim7 := { stood := { row := sipHidesRow, standIns := [], harness := (true, "aae2b0030f3edc37e7d4a5216eeaaea63ed090cbc14ea25adb9b2694900b5f86"), looks := false }, kinds := [], alts := [], laidByText := true, laidKinds := [.data, .data, .data], laidTests := true, laidLooks := .later }
def SipHidesCardSaid : Prop := Claim7.holds Tryd.pinned (.plain (OpenSpec.ofChange sipHidesSpec)) sipHidesCard

/-- THE TIED CARD OF 'lychgatelaw14.SipOthers'. -/
def sipOthersCard : Claim7 := { stood := { row := sipOthersRow, standIns := [], harness := (true, "aae2b0030f3edc37e7d4a5216eeaaea63ed090cbc14ea25adb9b2694900b5f86"), looks := false }, kinds := [], alts := [], laidByText := true, laidKinds := [.data, .data, .data], laidTests := true, laidLooks := .later }
def SipOthersCardSaid : Prop := Claim7.holds Tryd.pinned (.plain (OpenSpec.ofChange sipOthersSpec)) sipOthersCard

/-- THE TIED CARD OF 'lychgatetop.TopCalls'. -/
def topCallsCard : Claim7 := { stood := { row := topCallsRow, standIns := [], harness := (true, "aae2b0030f3edc37e7d4a5216eeaaea63ed090cbc14ea25adb9b2694900b5f86"), looks := false }, kinds := [], alts := [], laidByText := true, laidKinds := [.data, .data, .data], laidTests := true, laidLooks := .later }
def TopCallsCardSaid : Prop := Claim7.holds Tryd.pinned (.plain (OpenSpec.ofChange topCallsSpec)) topCallsCard

/-- THE SECOND FORM's CARD OF 'lychgatelaw14.SipRight'. -/
def sipRightUptoCard : Claim7 := { stood := { row := sipRightUptoRow, standIns := [], harness := (true, "aae2b0030f3edc37e7d4a5216eeaaea63ed090cbc14ea25adb9b2694900b5f86"), looks := false }, kinds := [], alts := [], laidByText := true, laidKinds := [.data, .data, .data], laidTests := true, laidLooks := .later }
def SipRightUptoCardSaid : Prop := Claim7.holds Tryd.pinned (.plain (OpenSpec.upto sipRightSpec)) sipRightUptoCard

/-- THE SECOND FORM's CARD OF 'lychgatelaw14.SipHides'. -/
def sipHidesUptoCard : Claim7 := { stood := { row := sipHidesUptoRow, standIns := [], harness := (true, "aae2b0030f3edc37e7d4a5216eeaaea63ed090cbc14ea25adb9b2694900b5f86"), looks := false }, kinds := [], alts := [], laidByText := true, laidKinds := [.data, .data, .data], laidTests := true, laidLooks := .later }
def SipHidesUptoCardSaid : Prop := Claim7.holds Tryd.pinned (.plain (OpenSpec.upto sipHidesSpec)) sipHidesUptoCard

/-- THE SECOND FORM's CARD OF 'lychgatelaw14.SipOthers'. -/
def sipOthersUptoCard : Claim7 := { stood := { row := sipOthersUptoRow, standIns := [], harness := (true, "aae2b0030f3edc37e7d4a5216eeaaea63ed090cbc14ea25adb9b2694900b5f86"), looks := false }, kinds := [], alts := [], laidByText := true, laidKinds := [.data, .data, .data], laidTests := true, laidLooks := .later }
def SipOthersUptoCardSaid : Prop := Claim7.holds Tryd.pinned (.plain (OpenSpec.upto sipOthersSpec)) sipOthersUptoCard

/-- THE SECOND FORM's CARD OF 'lychgatetop.TopCalls'. -/
def topCallsUptoCard : Claim7 := { stood := { row := topCallsUptoRow, standIns := [], harness := (true, "aae2b0030f3edc37e7d4a5216eeaaea63ed090cbc14ea25adb9b2694900b5f86"), looks := false }, kinds := [], alts := [], laidByText := true, laidKinds := [.data, .data, .data], laidTests := true, laidLooks := .later }
def TopCallsUptoCardSaid : Prop := Claim7.holds Tryd.pinned (.plain (OpenSpec.upto topCallsSpec)) topCallsUptoCard
end Rows
end Go.Proofs.YtifdocjagnhncabDoor
