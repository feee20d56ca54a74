/-
  DERIVED. GIVEN WITH THE SEED: THE CARDS: each row of YtehdgndbloaljaaDoorRows.lean that lists a variable, with what it lists TIED to the program's text (the seventh form; the later family's looks); each row that meets fmt, with fmt's text TOLD by the authors' own Lean function (tested against real Go, not proved from fmt's source: count such statements apart). THE CARD IS WHAT COUNTS. Prove the row's statement (the work); the ties are given (YtehdgndbloaljaaDoorTie.lean); close each card by the builder's one call (the guide's Derived/Test/ToyasCard.lean, 'card_holds'). Laid BY PROGRAM, IN A SANDBOX (cutbox-door.mjs). By AI agents, Wed Nov 11 2026. No macro, syntax, notation, axiom, sorry.
-/
import Derived.Test.YtehdgndbloaljaaDoorRows
import GoSem.ClaimSeven
namespace Go.Proofs.YtehdgndbloaljaaDoor
namespace Rows

/-- THE TIED CARD OF 'lychgatelaw14.SipParses'. -/
def sipParsesCard : Claim7 := { stood := { row := sipParsesRow, standIns := [], harness := (true, "d4e60e96a22170254df520796031d6cf31fd6e71724c0b4593aafc7c2884a846"), looks := false }, kinds := [], alts := [], laidByText := true, laidKinds := [.data, .data, .data], laidTests := true, laidLooks := .later }
def SipParsesCardSaid : Prop := Claim7.holds Tryd.pinned (.plain (OpenSpec.ofChange sipParsesSpec)) sipParsesCard

/-- THE TIED CARD OF 'lychgatelaw14.SipBack'. -/
def sipBackCard : Claim7 := { stood := { row := sipBackRow, standIns := [], harness := (true, "d4e60e96a22170254df520796031d6cf31fd6e71724c0b4593aafc7c2884a846"), looks := false }, kinds := [], alts := [], laidByText := true, laidKinds := [.data, .data, .data], laidTests := true, laidLooks := .later }
def SipBackCardSaid : Prop := Claim7.holds Tryd.pinned (.plain (OpenSpec.ofChange sipBackSpec)) sipBackCard

/-- THE TIED CARD OF 'lychgatelaw14.SipPorts'. -/
def sipPortsCard : Claim7 := { stood := { row := sipPortsRow, standIns := [], harness := (true, "d4e60e96a22170254df520796031d6cf31fd6e71724c0b4593aafc7c2884a846"), looks := false }, kinds := [], alts := [], laidByText := true, laidKinds := [.data, .data, .data], laidTests := true, laidLooks := .later }
def SipPortsCardSaid : Prop := Claim7.holds Tryd.pinned (.plain (OpenSpec.ofChange sipPortsSpec)) sipPortsCard

/-- THE TIED CARD OF 'lychgatetop.TopCalls'. -/
def topCallsCard : Claim7 := { stood := { row := topCallsRow, standIns := [], harness := (true, "d4e60e96a22170254df520796031d6cf31fd6e71724c0b4593aafc7c2884a846"), looks := false }, kinds := [], alts := [], laidByText := true, laidKinds := [.data, .data, .data], laidTests := true, laidLooks := .later }
def TopCallsCardSaid : Prop := Claim7.holds Tryd.pinned (.plain (OpenSpec.ofChange topCallsSpec)) topCallsCard

/-- THE SECOND FORM's CARD OF 'lychgatelaw14.SipParses'. -/
def sipParsesUptoCard : Claim7 := { stood := { row := sipParsesUptoRow, standIns := [], harness := (true, "d4e60e96a22170254df520796031d6cf31fd6e71724c0b4593aafc7c2884a846"), looks := false }, kinds := [], alts := [], laidByText := true, laidKinds := [.data, .data, .data], laidTests := true, laidLooks := .later }
def SipParsesUptoCardSaid : Prop := Claim7.holds Tryd.pinned (.plain (OpenSpec.upto sipParsesSpec)) sipParsesUptoCard

/-- THE SECOND FORM's CARD OF 'lychgatelaw14.SipBack'. -/
def sipBackUptoCard : Claim7 := { stood := { row := sipBackUptoRow, standIns := [], harness := (true, "d4e60e96a22170254df520796031d6cf31fd6e71724c0b4593aafc7c2884a846"), looks := false }, kinds := [], alts := [], laidByText := true, laidKinds := [.data, .data, .data], laidTests := true, laidLooks := .later }
def SipBackUptoCardSaid : Prop := Claim7.holds Tryd.pinned (.plain (OpenSpec.upto sipBackSpec)) sipBackUptoCard

/-- THE SECOND FORM's CARD OF 'lychgatelaw14.SipPorts'. -/
def sipPortsUptoCard : Claim7 := { stood := { row := sipPortsUptoRow, standIns := [], harness := (true, "d4e60e96a22170254df520796031d6cf31fd6e71724c0b4593aafc7c2884a846"), looks := false }, kinds := [], alts := [], laidByText := true, laidKinds := [.data, .data, .data], laidTests := true, laidLooks := .later }
def SipPortsUptoCardSaid : Prop := Claim7.holds Tryd.pinned (.plain (OpenSpec.upto sipPortsSpec)) sipPortsUptoCard

/-- THE SECOND FORM's CARD OF 'lychgatetop.TopCalls'. -/
def topCallsUptoCard : Claim7 := { stood := { row := topCallsUptoRow, standIns := [], harness := (true, "d4e60e96a22170254df520796031d6cf31fd6e71724c0b4593aafc7c2884a846"), looks := false }, kinds := [], alts := [], laidByText := true, laidKinds := [.data, .data, .data], laidTests := true, laidLooks := .later }
def TopCallsUptoCardSaid : Prop := Claim7.holds Tryd.pinned (.plain (OpenSpec.upto topCallsSpec)) topCallsUptoCard
end Rows
end Go.Proofs.YtehdgndbloaljaaDoor
