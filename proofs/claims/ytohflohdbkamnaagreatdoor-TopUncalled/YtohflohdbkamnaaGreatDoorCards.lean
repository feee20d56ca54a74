/-
  DERIVED. GIVEN WITH THE SEED: THE CARDS: each row of YtohflohdbkamnaaGreatDoorRows.lean that lists a variable, with what it lists TIED to the program's text (the seventh form; the later family's looks); each row that meets fmt, with fmt's text TOLD by the authors' own Lean function (tested against real Go, not proved from fmt's source: count such statements apart). THE CARD IS WHAT COUNTS. Prove the row's statement (the work); the ties are given (YtohflohdbkamnaaGreatDoorTie.lean); close each card by the builder's one call (the guide's Derived/Test/ToyasCard.lean, 'card_holds'). Laid BY PROGRAM, IN A SANDBOX (cutbox-door.mjs). By AI agents, Wed Nov 11 2026. No macro, syntax, notation, axiom, sorry.
-/
import Derived.Test.YtohflohdbkamnaaGreatDoorRows
import GoSem.ClaimSeven
namespace Go.Proofs.YtohflohdbkamnaaGreatDoor
namespace Rows

/-- THE TIED CARD OF 'lychgatelaw16.GateNone'. -/
def gateNoneCard : Claim7 := { stood := { row := gateNoneRow, standIns := [], harness := (true, "7eeec67c228670164a22295ca00e40211f022073438fbcffedb12c81a469a662"), looks := true }, kinds := [], alts := [], laidByText := true, laidKinds := [.data, .data], laidTests := true, laidLooks := .later }
def GateNoneCardSaid : Prop := Claim7.holds Tryz.pinned (.plain (OpenSpec.ofChange gateNoneSpec)) gateNoneCard

/-- THE TIED CARD OF 'lychgatelaw16.GateRules'. -/
def gateRulesCard : Claim7 := { stood := { row := gateRulesRow, standIns := [], harness := (true, "7eeec67c228670164a22295ca00e40211f022073438fbcffedb12c81a469a662"), looks := true }, kinds := [], alts := [], laidByText := true, laidKinds := [.data, .data], laidTests := true, laidLooks := .later }
def GateRulesCardSaid : Prop := Claim7.holds Tryz.pinned (.plain (OpenSpec.ofChange gateRulesSpec)) gateRulesCard

/-- THE TIED CARD OF 'lychgatetop.TopUncalled'. -/
def topUncalledCard : Claim7 := { stood := { row := topUncalledRow, standIns := [], harness := (true, "7eeec67c228670164a22295ca00e40211f022073438fbcffedb12c81a469a662"), looks := true }, kinds := [], alts := [], laidByText := true, laidKinds := [.data, .data], laidTests := true, laidLooks := .later }
def TopUncalledCardSaid : Prop := Claim7.holds Tryz.pinned (.plain (OpenSpec.ofChange topUncalledSpec)) topUncalledCard

/-- THE SECOND FORM's CARD OF 'lychgatelaw16.GateNone'. -/
def gateNoneUptoCard : Claim7 := { stood := { row := gateNoneUptoRow, standIns := [], harness := (true, "7eeec67c228670164a22295ca00e40211f022073438fbcffedb12c81a469a662"), looks := true }, kinds := [], alts := [], laidByText := true, laidKinds := [.data, .data], laidTests := true, laidLooks := .later }
def GateNoneUptoCardSaid : Prop := Claim7.holds Tryz.pinned (.plain (OpenSpec.upto gateNoneSpec)) gateNoneUptoCard

/-- THE SECOND FORM's CARD OF 'lychgatelaw16.GateRules'. -/
def gateRulesUptoCard : Claim7 := { stood := { row := gateRulesUptoRow, standIns := [], harness := (true, "7eeec67c228670164a22295ca00e40211f022073438fbcffedb12c81a469a662"), looks := true }, kinds := [], alts := [], laidByText := true, laidKinds := [.data, .data], laidTests := true, laidLooks := .later }
def GateRulesUptoCardSaid : Prop := Claim7.holds Tryz.pinned (.plain (OpenSpec.upto gateRulesSpec)) gateRulesUptoCard

/-- THE SECOND FORM's CARD OF 'lychgatetop.TopUncalled'. -/
def topUncalledUptoCard : Claim7 := { stood := { row := topUncalledUptoRow, standIns := [], harness := (true, "7eeec67c228670164a22295ca00e40211f022073438fbcffedb12c81a469a662"), looks := true }, kinds := [], alts := [], laidByText := true, laidKinds := [.data, .data], laidTests := true, laidLooks := .later }
def TopUncalledUptoCardSaid : Prop := Claim7.holds Tryz.pinned (.plain (OpenSpec.upto topUncalledSpec)) topUncalledUptoCard
end Rows
end Go.Proofs.YtohflohdbkamnaaGreatDoor
