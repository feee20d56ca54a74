/-
  DERIVED. GIVEN WITH THE SEED: THE CARDS: each row of YtibjgaelaijgpaaGreatDoorRows.lean that lists a variable, with what it lists TIED to the program's text (the seventh form; the later family's looks); each row that meets fmt, with fmt's text TOLD by the authors' own Lean function (tested against real Go, not proved from fmt's source: count such statements apart). THE CARD IS WHAT COUNTS. Prove the row's statement (the work); the ties are given (YtibjgaelaijgpaaGreatDoorTie.lean); close each card by the builder's one call (the guide's Derived/Test/ToyasCard.lean, 'card_holds'). Laid BY PROGRAM, IN A SANDBOX (cutbox-door.mjs). By AI agents, Wed Nov 11 2026. No macro, syntax, notation, axiom, sorry.
-/
import Derived.Test.YtibjgaelaijgpaaGreatDoorRows
import GoSem.ClaimSeven
namespace Go.Proofs.YtibjgaelaijgpaaGreatDoor
namespace Rows

/-- THE TIED CARD OF 'lychgatelaw14.SipRewrites'. -/
def sipRewritesCard : Claim7 := { stood := { row := sipRewritesRow, standIns := [], harness := (true, "f96b01aef55fc62e2dce1cedefa47e4a7f6fee841f680c7c19c1d72631dac274"), looks := false }, kinds := [], alts := [], laidByText := true, laidKinds := [.data, .data, .data], laidTests := true, laidLooks := .later }
def SipRewritesCardSaid : Prop := Claim7.holds Tryz.pinned (.plain (OpenSpec.ofChange sipRewritesSpec)) sipRewritesCard

/-- THE SECOND FORM's CARD OF 'lychgatelaw14.SipRewrites'. -/
def sipRewritesUptoCard : Claim7 := { stood := { row := sipRewritesUptoRow, standIns := [], harness := (true, "f96b01aef55fc62e2dce1cedefa47e4a7f6fee841f680c7c19c1d72631dac274"), looks := false }, kinds := [], alts := [], laidByText := true, laidKinds := [.data, .data, .data], laidTests := true, laidLooks := .later }
def SipRewritesUptoCardSaid : Prop := Claim7.holds Tryz.pinned (.plain (OpenSpec.upto sipRewritesSpec)) sipRewritesUptoCard
end Rows
end Go.Proofs.YtibjgaelaijgpaaGreatDoor
