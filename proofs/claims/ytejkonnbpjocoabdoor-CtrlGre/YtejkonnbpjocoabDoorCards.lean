/-
  DERIVED. GIVEN WITH THE SEED: THE CARDS: each row of YtejkonnbpjocoabDoorRows.lean that lists a variable, with what it lists TIED to the program's text (the seventh form; the later family's looks); each row that meets fmt, with fmt's text TOLD by the authors' own Lean function (tested against real Go, not proved from fmt's source: count such statements apart). THE CARD IS WHAT COUNTS. Prove the row's statement (the work); the ties are given (YtejkonnbpjocoabDoorTie.lean); close each card by the builder's one call (the guide's Derived/Test/ToyasCard.lean, 'card_holds'). Laid BY PROGRAM, IN A SANDBOX (cutbox-door.mjs). By AI agents, Wed Nov 11 2026. No macro, syntax, notation, axiom, sorry.
-/
import Derived.Test.YtejkonnbpjocoabDoorRows
import GoSem.ClaimSeven
namespace Go.Proofs.YtejkonnbpjocoabDoor
namespace Rows

/-- THE TIED CARD OF 'lychgatelaw04.CtrlIcmp'. -/
def ctrlIcmpCard : Claim7 := { stood := { row := ctrlIcmpRow, standIns := [], harness := (true, "e95303a4c6cdf67eb043151753675686c717e3a26bf84c08ed91ec95b75e4c82"), looks := false }, kinds := [], alts := [], laidByText := true, laidKinds := [.data], laidTests := true, laidLooks := .later }
def CtrlIcmpCardSaid : Prop := Claim7.holds Tryd.pinned (.plain (OpenSpec.ofChange ctrlIcmpSpec)) ctrlIcmpCard

/-- THE TIED CARD OF 'lychgatelaw04.CtrlGre'. -/
def ctrlGreCard : Claim7 := { stood := { row := ctrlGreRow, standIns := [], harness := (true, "e95303a4c6cdf67eb043151753675686c717e3a26bf84c08ed91ec95b75e4c82"), looks := false }, kinds := [], alts := [], laidByText := true, laidKinds := [.data], laidTests := true, laidLooks := .later }
def CtrlGreCardSaid : Prop := Claim7.holds Tryd.pinned (.plain (OpenSpec.ofChange ctrlGreSpec)) ctrlGreCard

/-- THE SECOND FORM's CARD OF 'lychgatelaw04.CtrlIcmp'. -/
def ctrlIcmpUptoCard : Claim7 := { stood := { row := ctrlIcmpUptoRow, standIns := [], harness := (true, "e95303a4c6cdf67eb043151753675686c717e3a26bf84c08ed91ec95b75e4c82"), looks := false }, kinds := [], alts := [], laidByText := true, laidKinds := [.data], laidTests := true, laidLooks := .later }
def CtrlIcmpUptoCardSaid : Prop := Claim7.holds Tryd.pinned (.plain (OpenSpec.upto ctrlIcmpSpec)) ctrlIcmpUptoCard

/-- THE SECOND FORM's CARD OF 'lychgatelaw04.CtrlGre'. -/
def ctrlGreUptoCard : Claim7 := { stood := { row := ctrlGreUptoRow, standIns := [], harness := (true, "e95303a4c6cdf67eb043151753675686c717e3a26bf84c08ed91ec95b75e4c82"), looks := false }, kinds := [], alts := [], laidByText := true, laidKinds := [.data], laidTests := true, laidLooks := .later }
def CtrlGreUptoCardSaid : Prop := Claim7.holds Tryd.pinned (.plain (OpenSpec.upto ctrlGreSpec)) ctrlGreUptoCard
end Rows
end Go.Proofs.YtejkonnbpjocoabDoor
