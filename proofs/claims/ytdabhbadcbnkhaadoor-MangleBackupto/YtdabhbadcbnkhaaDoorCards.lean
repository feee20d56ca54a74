/-
  DERIVED. GIVEN WITH THE SEED: THE CARDS: each row of YtdabhbadcbnkhaaDoorRows.lean that lists a variable, with what it lists TIED to the program's text (the seventh form; the later family's looks); each row that meets fmt, with fmt's text TOLD by the authors' own Lean function (tested against real Go, not proved from fmt's source: count such statements apart). THE CARD IS WHAT COUNTS. Prove the row's statement (the work); the ties are given (YtdabhbadcbnkhaaDoorTie.lean); close each card by the builder's one call (the guide's Derived/Test/ToyasCard.lean, 'card_holds'). Laid BY PROGRAM, IN A SANDBOX (cutbox-door.mjs). By AI agents, Wed Nov 11 2026. No macro, syntax, notation, axiom, sorry.
-/
import Derived.Test.YtdabhbadcbnkhaaDoorRows
import GoSem.ClaimSeven
namespace Go.Proofs.YtdabhbadcbnkhaaDoor
namespace Rows

/-- THE TIED CARD OF 'lychgatelaw10.MangleTuple'. -/
def mangleTupleCard : Claim7 := { stood := { row := mangleTupleRow, standIns := [], harness := (true, "2b99f0d370ef5f26fe2baad9b539a67365527786c5bbba807a84a6f5c4daaf09"), looks := false }, kinds := [], alts := [], laidByText := true, laidKinds := [.data], laidTests := true, laidLooks := .later }
def MangleTupleCardSaid : Prop := Claim7.holds Tryd.pinned (.plain (OpenSpec.ofChange mangleTupleSpec)) mangleTupleCard

/-- THE TIED CARD OF 'lychgatelaw10.MangleSelf'. -/
def mangleSelfCard : Claim7 := { stood := { row := mangleSelfRow, standIns := [], harness := (true, "2b99f0d370ef5f26fe2baad9b539a67365527786c5bbba807a84a6f5c4daaf09"), looks := false }, kinds := [], alts := [], laidByText := true, laidKinds := [.data], laidTests := true, laidLooks := .later }
def MangleSelfCardSaid : Prop := Claim7.holds Tryd.pinned (.plain (OpenSpec.ofChange mangleSelfSpec)) mangleSelfCard

/-- THE TIED CARD OF 'lychgatelaw10.MangleBack'. -/
def mangleBackCard : Claim7 := { stood := { row := mangleBackRow, standIns := [], harness := (true, "2b99f0d370ef5f26fe2baad9b539a67365527786c5bbba807a84a6f5c4daaf09"), looks := false }, kinds := [], alts := [], laidByText := true, laidKinds := [.data], laidTests := true, laidLooks := .later }
def MangleBackCardSaid : Prop := Claim7.holds Tryd.pinned (.plain (OpenSpec.ofChange mangleBackSpec)) mangleBackCard

/-- THE SECOND FORM's CARD OF 'lychgatelaw10.MangleTuple'. -/
def mangleTupleUptoCard : Claim7 := { stood := { row := mangleTupleUptoRow, standIns := [], harness := (true, "2b99f0d370ef5f26fe2baad9b539a67365527786c5bbba807a84a6f5c4daaf09"), looks := false }, kinds := [], alts := [], laidByText := true, laidKinds := [.data], laidTests := true, laidLooks := .later }
def MangleTupleUptoCardSaid : Prop := Claim7.holds Tryd.pinned (.plain (OpenSpec.upto mangleTupleSpec)) mangleTupleUptoCard

/-- THE SECOND FORM's CARD OF 'lychgatelaw10.MangleSelf'. -/
def mangleSelfUptoCard : Claim7 := { stood := { row := mangleSelfUptoRow, standIns := [], harness := (true, "2b99f0d370ef5f26fe2baad9b539a67365527786c5bbba807a84a6f5c4daaf09"), looks := false }, kinds := [], alts := [], laidByText := true, laidKinds := [.data], laidTests := true, laidLooks := .later }
def MangleSelfUptoCardSaid : Prop := Claim7.holds Tryd.pinned (.plain (OpenSpec.upto mangleSelfSpec)) mangleSelfUptoCard

/-- THE SECOND FORM's CARD OF 'lychgatelaw10.MangleBack'. -/
def mangleBackUptoCard : Claim7 := { stood := { row := mangleBackUptoRow, standIns := [], harness := (true, "2b99f0d370ef5f26fe2baad9b539a67365527786c5bbba807a84a6f5c4daaf09"), looks := false }, kinds := [], alts := [], laidByText := true, laidKinds := [.data], laidTests := true, laidLooks := .later }
def MangleBackUptoCardSaid : Prop := Claim7.holds Tryd.pinned (.plain (OpenSpec.upto mangleBackSpec)) mangleBackUptoCard
end Rows
end Go.Proofs.YtdabhbadcbnkhaaDoor
