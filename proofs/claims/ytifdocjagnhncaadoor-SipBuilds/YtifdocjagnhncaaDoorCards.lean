/-
  DERIVED. GIVEN WITH THE SEED: THE CARDS: each row of YtifdocjagnhncaaDoorRows.lean that lists a variable, with what it lists TIED to the program's text (the seventh form; the later family's looks); each row that meets fmt, with fmt's text TOLD by the authors' own Lean function (tested against real Go, not proved from fmt's source: count such statements apart). THE CARD IS WHAT COUNTS. Prove the row's statement (the work); the ties are given (YtifdocjagnhncaaDoorTie.lean); close each card by the builder's one call (the guide's Derived/Test/ToyasCard.lean, 'card_holds'). Laid BY PROGRAM, IN A SANDBOX (cutbox-door.mjs). By AI agents, Wed Nov 11 2026. No macro, syntax, notation, axiom, sorry.
-/
import Derived.Test.YtifdocjagnhncaaDoorRows
import GoSem.ClaimSeven
namespace Go.Proofs.YtifdocjagnhncaaDoor
namespace Rows

/-- THE TIED CARD OF 'lychgatelaw14.SipParses'. -/
def sipParsesCard : Claim7 := { stood := { row := sipParsesRow, standIns := [], harness := (true, "7045a551432f0c3afe44d127fd8c9f141c2f9372db33470006bbf782e1293062"), looks := false }, kinds := [], alts := [], laidByText := true, laidKinds := [.data, .data, .data], laidTests := true, laidLooks := .later }
def SipParsesCardSaid : Prop := Claim7.holds Tryd.pinned (.plain (OpenSpec.ofChange sipParsesSpec)) sipParsesCard

/-- THE TIED CARD OF 'lychgatelaw14.SipBuilds'. -/
def sipBuildsCard : Claim7 := { stood := { row := sipBuildsRow, standIns := [], harness := (true, "7045a551432f0c3afe44d127fd8c9f141c2f9372db33470006bbf782e1293062"), looks := false }, kinds := [], alts := [], laidByText := true, laidKinds := [.data, .data, .data], laidTests := true, laidLooks := .later }
def SipBuildsCardSaid : Prop := Claim7.holds Tryd.pinned (.plain (OpenSpec.ofChange sipBuildsSpec)) sipBuildsCard

/-- THE TIED CARD OF 'lychgatelaw14.SipBack'. -/
def sipBackCard : Claim7 := { stood := { row := sipBackRow, standIns := [], harness := (true, "7045a551432f0c3afe44d127fd8c9f141c2f9372db33470006bbf782e1293062"), looks := false }, kinds := [], alts := [], laidByText := true, laidKinds := [.data, .data, .data], laidTests := true, laidLooks := .later }
def SipBackCardSaid : Prop := Claim7.holds Tryd.pinned (.plain (OpenSpec.ofChange sipBackSpec)) sipBackCard

/-- THE TIED CARD OF 'lychgatelaw14.SipPorts'. -/
def sipPortsCard : Claim7 := { stood := { row := sipPortsRow, standIns := [], harness := (true, "7045a551432f0c3afe44d127fd8c9f141c2f9372db33470006bbf782e1293062"), looks := false }, kinds := [], alts := [], laidByText := true, laidKinds := [.data, .data, .data], laidTests := true, laidLooks := .later }
def SipPortsCardSaid : Prop := Claim7.holds Tryd.pinned (.plain (OpenSpec.ofChange sipPortsSpec)) sipPortsCard

/-- THE TIED CARD OF 'lychgatelaw14.SipSelf'. -/
def sipSelfCard : Claim7 := { stood := { row := sipSelfRow, standIns := [], harness := (true, "7045a551432f0c3afe44d127fd8c9f141c2f9372db33470006bbf782e1293062"), looks := false }, kinds := [], alts := [], laidByText := true, laidKinds := [.data, .data, .data], laidTests := true, laidLooks := .later }
def SipSelfCardSaid : Prop := Claim7.holds Tryd.pinned (.plain (OpenSpec.ofChange sipSelfSpec)) sipSelfCard

/-- THE SECOND FORM's CARD OF 'lychgatelaw14.SipParses'. -/
def sipParsesUptoCard : Claim7 := { stood := { row := sipParsesUptoRow, standIns := [], harness := (true, "7045a551432f0c3afe44d127fd8c9f141c2f9372db33470006bbf782e1293062"), looks := false }, kinds := [], alts := [], laidByText := true, laidKinds := [.data, .data, .data], laidTests := true, laidLooks := .later }
def SipParsesUptoCardSaid : Prop := Claim7.holds Tryd.pinned (.plain (OpenSpec.upto sipParsesSpec)) sipParsesUptoCard

/-- THE SECOND FORM's CARD OF 'lychgatelaw14.SipBuilds'. -/
def sipBuildsUptoCard : Claim7 := { stood := { row := sipBuildsUptoRow, standIns := [], harness := (true, "7045a551432f0c3afe44d127fd8c9f141c2f9372db33470006bbf782e1293062"), looks := false }, kinds := [], alts := [], laidByText := true, laidKinds := [.data, .data, .data], laidTests := true, laidLooks := .later }
def SipBuildsUptoCardSaid : Prop := Claim7.holds Tryd.pinned (.plain (OpenSpec.upto sipBuildsSpec)) sipBuildsUptoCard

/-- THE SECOND FORM's CARD OF 'lychgatelaw14.SipBack'. -/
def sipBackUptoCard : Claim7 := { stood := { row := sipBackUptoRow, standIns := [], harness := (true, "7045a551432f0c3afe44d127fd8c9f141c2f9372db33470006bbf782e1293062"), looks := false }, kinds := [], alts := [], laidByText := true, laidKinds := [.data, .data, .data], laidTests := true, laidLooks := .later }
def SipBackUptoCardSaid : Prop := Claim7.holds Tryd.pinned (.plain (OpenSpec.upto sipBackSpec)) sipBackUptoCard

/-- THE SECOND FORM's CARD OF 'lychgatelaw14.SipPorts'. -/
def sipPortsUptoCard : Claim7 := { stood := { row := sipPortsUptoRow, standIns := [], harness := (true, "7045a551432f0c3afe44d127fd8c9f141c2f9372db33470006bbf782e1293062"), looks := false }, kinds := [], alts := [], laidByText := true, laidKinds := [.data, .data, .data], laidTests := true, laidLooks := .later }
def SipPortsUptoCardSaid : Prop := Claim7.holds Tryd.pinned (.plain (OpenSpec.upto sipPortsSpec)) sipPortsUptoCard

/-- THE SECOND FORM's CARD OF 'lychgatelaw14.SipSelf'. -/
def sipSelfUptoCard : Claim7 := { stood := { row := sipSelfUptoRow, standIns := [], harness := (true, "7045a551432f0c3afe44d127fd8c9f141c2f9372db33470006bbf782e1293062"), looks := false }, kinds := [], alts := [], laidByText := true, laidKinds := [.data, .data, .data], laidTests := true, laidLooks := .later }
def SipSelfUptoCardSaid : Prop := Claim7.holds Tryd.pinned (.plain (OpenSpec.upto sipSelfSpec)) sipSelfUptoCard
end Rows
end Go.Proofs.YtifdocjagnhncaaDoor
