/-
  DERIVED. GIVEN WITH THE SEED: THE CARDS: each row of YtofknbfbmaefoaaGreatDoorRows.lean that lists a variable, with what it lists TIED to the program's text (the seventh form; the later family's looks); each row that meets fmt, with fmt's text TOLD by the authors' own Lean function (tested against real Go, not proved from fmt's source: count such statements apart). THE CARD IS WHAT COUNTS. Prove the row's statement (the work); the ties are given (YtofknbfbmaefoaaGreatDoorTie.lean); close each card by the builder's one call (the guide's Derived/Test/ToyasCard.lean, 'card_holds'). Laid BY PROGRAM, IN A SANDBOX (cutbox-door.mjs). By AI agents, Wed Nov 11 2026. No macro, syntax, notation, axiom, sorry.
-/
import Derived.Test.YtofknbfbmaefoaaGreatDoorRows
import GoSem.ClaimSeven
namespace Go.Proofs.YtofknbfbmaefoaaGreatDoor
namespace Rows

/-- THE TIED CARD OF 'lychgatelaw16.GateRules'. -/
def gateRulesCard : Claim7 := { stood := { row := gateRulesRow, standIns := [], harness := (true, "a33037ac5f4f505a234578ff9eba5d5d321f7160c56a0dfaa65d5b9a57e6d520"), looks := true }, kinds := [], alts := [], laidByText := true, laidKinds := [.data, .data], laidTests := true, laidLooks := .later }
def GateRulesCardSaid : Prop := Claim7.holds Tryz.pinned (.plain (OpenSpec.ofChange gateRulesSpec)) gateRulesCard

/-- THE TIED CARD OF 'lychgatetop.TopFull'. -/
def topFullCard : Claim7 := { stood := { row := topFullRow, standIns := [], harness := (true, "a33037ac5f4f505a234578ff9eba5d5d321f7160c56a0dfaa65d5b9a57e6d520"), looks := true }, kinds := [], alts := [], laidByText := true, laidKinds := [.data, .data], laidTests := true, laidLooks := .later }
def TopFullCardSaid : Prop := Claim7.holds Tryz.pinned (.plain (OpenSpec.ofChange topFullSpec)) topFullCard

/-- THE TIED CARD OF 'lychgatetop.TopUnreached'. -/
def topUnreachedCard : Claim7 := { stood := { row := topUnreachedRow, standIns := [], harness := (true, "a33037ac5f4f505a234578ff9eba5d5d321f7160c56a0dfaa65d5b9a57e6d520"), looks := true }, kinds := [], alts := [], laidByText := true, laidKinds := [.data, .data], laidTests := true, laidLooks := .later }
def TopUnreachedCardSaid : Prop := Claim7.holds Tryz.pinned (.plain (OpenSpec.ofChange topUnreachedSpec)) topUnreachedCard

/-- THE SECOND FORM's CARD OF 'lychgatelaw16.GateRules'. -/
def gateRulesUptoCard : Claim7 := { stood := { row := gateRulesUptoRow, standIns := [], harness := (true, "a33037ac5f4f505a234578ff9eba5d5d321f7160c56a0dfaa65d5b9a57e6d520"), looks := true }, kinds := [], alts := [], laidByText := true, laidKinds := [.data, .data], laidTests := true, laidLooks := .later }
def GateRulesUptoCardSaid : Prop := Claim7.holds Tryz.pinned (.plain (OpenSpec.upto gateRulesSpec)) gateRulesUptoCard

/-- THE SECOND FORM's CARD OF 'lychgatetop.TopFull'. -/
def topFullUptoCard : Claim7 := { stood := { row := topFullUptoRow, standIns := [], harness := (true, "a33037ac5f4f505a234578ff9eba5d5d321f7160c56a0dfaa65d5b9a57e6d520"), looks := true }, kinds := [], alts := [], laidByText := true, laidKinds := [.data, .data], laidTests := true, laidLooks := .later }
def TopFullUptoCardSaid : Prop := Claim7.holds Tryz.pinned (.plain (OpenSpec.upto topFullSpec)) topFullUptoCard

/-- THE SECOND FORM's CARD OF 'lychgatetop.TopUnreached'. -/
def topUnreachedUptoCard : Claim7 := { stood := { row := topUnreachedUptoRow, standIns := [], harness := (true, "a33037ac5f4f505a234578ff9eba5d5d321f7160c56a0dfaa65d5b9a57e6d520"), looks := true }, kinds := [], alts := [], laidByText := true, laidKinds := [.data, .data], laidTests := true, laidLooks := .later }
def TopUnreachedUptoCardSaid : Prop := Claim7.holds Tryz.pinned (.plain (OpenSpec.upto topUnreachedSpec)) topUnreachedUptoCard
end Rows
end Go.Proofs.YtofknbfbmaefoaaGreatDoor
