/-
  DERIVED. GIVEN WITH THE SEED: THE CARDS: each row of YtnffjilmkpbelaaGreatDoorRows.lean that lists a variable, with what it lists TIED to the program's text (the seventh form; the later family's looks); each row that meets fmt, with fmt's text TOLD by the authors' own Lean function (tested against real Go, not proved from fmt's source: count such statements apart). THE CARD IS WHAT COUNTS. Prove the row's statement (the work); the ties are given (YtnffjilmkpbelaaGreatDoorTie.lean); close each card by the builder's one call (the guide's Derived/Test/ToyasCard.lean, 'card_holds'). Laid BY PROGRAM, IN A SANDBOX (cutbox-door.mjs). By AI agents, Wed Nov 11 2026. No macro, syntax, notation, axiom, sorry.
-/
import Derived.Test.YtnffjilmkpbelaaGreatDoorRows
import GoSem.ClaimSeven
namespace Go.Proofs.YtnffjilmkpbelaaGreatDoor
namespace Rows

/-- THE TIED CARD OF 'lychgatelaw16.GateNone'. -/
def gateNoneCard : Claim7 := { stood := { row := gateNoneRow, standIns := [], harness := (true, "32c4641ed10f3903c56e5f9b6735ba904386e17f2967d5ba5f2583645675a4ee"), looks := true }, kinds := [], alts := [], laidByText := true, laidKinds := [.data, .data], laidTests := true, laidLooks := .later }
def GateNoneCardSaid : Prop := Claim7.holds Tryz.pinned (.plain (OpenSpec.ofChange gateNoneSpec)) gateNoneCard

/-- THE TIED CARD OF 'lychgatelaw16.GateRules'. -/
def gateRulesCard : Claim7 := { stood := { row := gateRulesRow, standIns := [], harness := (true, "32c4641ed10f3903c56e5f9b6735ba904386e17f2967d5ba5f2583645675a4ee"), looks := true }, kinds := [], alts := [], laidByText := true, laidKinds := [.data, .data], laidTests := true, laidLooks := .later }
def GateRulesCardSaid : Prop := Claim7.holds Tryz.pinned (.plain (OpenSpec.ofChange gateRulesSpec)) gateRulesCard

/-- THE SECOND FORM's CARD OF 'lychgatelaw16.GateNone'. -/
def gateNoneUptoCard : Claim7 := { stood := { row := gateNoneUptoRow, standIns := [], harness := (true, "32c4641ed10f3903c56e5f9b6735ba904386e17f2967d5ba5f2583645675a4ee"), looks := true }, kinds := [], alts := [], laidByText := true, laidKinds := [.data, .data], laidTests := true, laidLooks := .later }
def GateNoneUptoCardSaid : Prop := Claim7.holds Tryz.pinned (.plain (OpenSpec.upto gateNoneSpec)) gateNoneUptoCard

/-- THE SECOND FORM's CARD OF 'lychgatelaw16.GateRules'. -/
def gateRulesUptoCard : Claim7 := { stood := { row := gateRulesUptoRow, standIns := [], harness := (true, "32c4641ed10f3903c56e5f9b6735ba904386e17f2967d5ba5f2583645675a4ee"), looks := true }, kinds := [], alts := [], laidByText := true, laidKinds := [.data, .data], laidTests := true, laidLooks := .later }
def GateRulesUptoCardSaid : Prop := Claim7.holds Tryz.pinned (.plain (OpenSpec.upto gateRulesSpec)) gateRulesUptoCard
end Rows
end Go.Proofs.YtnffjilmkpbelaaGreatDoor
