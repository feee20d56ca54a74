/-
  DERIVED. GIVEN WITH THE SEED: THE CARDS: each row of YtojoaidnkljcpaaDoorRows.lean that lists a variable, with what it lists TIED to the program's text (the seventh form; the later family's looks); each row that meets fmt, with fmt's text TOLD by the authors' own Lean function (tested against real Go, not proved from fmt's source: count such statements apart). THE CARD IS WHAT COUNTS. Prove the row's statement (the work); the ties are given (YtojoaidnkljcpaaDoorTie.lean); close each card by the builder's one call (the guide's Derived/Test/ToyasCard.lean, 'card_holds'). Laid BY PROGRAM, IN A SANDBOX (cutbox-door.mjs). By AI agents, Wed Nov 11 2026. No macro, syntax, notation, axiom, sorry.
-/
import Derived.Test.YtojoaidnkljcpaaDoorRows
import GoSem.ClaimSeven
namespace Go.Proofs.YtojoaidnkljcpaaDoor
namespace Rows

/-- THE TIED CARD OF 'lychgatelaw05.TupleOf'. -/
def tupleOfCard : Claim7 := { stood := { row := tupleOfRow, standIns := [], harness := (true, "be002e7fa89a47bd9f98e8ef886da5548e5028abe1526d416e9562c3a5de81b1"), looks := true }, kinds := [], alts := [], laidByText := true, laidKinds := [.data], laidTests := true, laidLooks := .later }
def TupleOfCardSaid : Prop := Claim7.holds Tryd.pinned (.plain (OpenSpec.ofChange tupleOfSpec)) tupleOfCard

/-- THE TIED CARD OF 'lychgatelaw05.TupleQuoted'. -/
def tupleQuotedCard : Claim7 := { stood := { row := tupleQuotedRow, standIns := [], harness := (true, "be002e7fa89a47bd9f98e8ef886da5548e5028abe1526d416e9562c3a5de81b1"), looks := true }, kinds := [], alts := [], laidByText := true, laidKinds := [.data], laidTests := true, laidLooks := .later }
def TupleQuotedCardSaid : Prop := Claim7.holds Tryd.pinned (.plain (OpenSpec.ofChange tupleQuotedSpec)) tupleQuotedCard

/-- THE TIED CARD OF 'lychgatelaw05.TupleTurns'. -/
def tupleTurnsCard : Claim7 := { stood := { row := tupleTurnsRow, standIns := [], harness := (true, "be002e7fa89a47bd9f98e8ef886da5548e5028abe1526d416e9562c3a5de81b1"), looks := true }, kinds := [], alts := [], laidByText := true, laidKinds := [.data], laidTests := true, laidLooks := .later }
def TupleTurnsCardSaid : Prop := Claim7.holds Tryd.pinned (.plain (OpenSpec.ofChange tupleTurnsSpec)) tupleTurnsCard

/-- THE TIED CARD OF 'lychgatelaw05.TupleTwice'. -/
def tupleTwiceCard : Claim7 := { stood := { row := tupleTwiceRow, standIns := [], harness := (true, "be002e7fa89a47bd9f98e8ef886da5548e5028abe1526d416e9562c3a5de81b1"), looks := true }, kinds := [], alts := [], laidByText := true, laidKinds := [.data], laidTests := true, laidLooks := .later }
def TupleTwiceCardSaid : Prop := Claim7.holds Tryd.pinned (.plain (OpenSpec.ofChange tupleTwiceSpec)) tupleTwiceCard

/-- THE TIED CARD OF 'lychgatelaw05.TupleTold'. -/
def tupleToldCard : Claim7 := { stood := { row := tupleToldRow, standIns := [], harness := (true, "be002e7fa89a47bd9f98e8ef886da5548e5028abe1526d416e9562c3a5de81b1"), looks := true }, kinds := [], alts := [], laidByText := true, laidKinds := [.data], laidTests := true, laidLooks := .later }
def TupleToldCardSaid : Prop := Claim7.holds Tryd.pinned (.plain (OpenSpec.ofChange tupleToldSpec)) tupleToldCard

/-- THE TIED CARD OF 'lychgatelaw05.TupleErrors'. -/
def tupleErrorsCard : Claim7 := { stood := { row := tupleErrorsRow, standIns := [], harness := (true, "be002e7fa89a47bd9f98e8ef886da5548e5028abe1526d416e9562c3a5de81b1"), looks := true }, kinds := [], alts := [], laidByText := true, laidKinds := [.data], laidTests := true, laidLooks := .later }
def TupleErrorsCardSaid : Prop := Claim7.holds Tryd.pinned (.plain (OpenSpec.ofChange tupleErrorsSpec)) tupleErrorsCard

/-- THE SECOND FORM's CARD OF 'lychgatelaw05.TupleOf'. -/
def tupleOfUptoCard : Claim7 := { stood := { row := tupleOfUptoRow, standIns := [], harness := (true, "be002e7fa89a47bd9f98e8ef886da5548e5028abe1526d416e9562c3a5de81b1"), looks := true }, kinds := [], alts := [], laidByText := true, laidKinds := [.data], laidTests := true, laidLooks := .later }
def TupleOfUptoCardSaid : Prop := Claim7.holds Tryd.pinned (.plain (OpenSpec.upto tupleOfSpec)) tupleOfUptoCard

/-- THE SECOND FORM's CARD OF 'lychgatelaw05.TupleQuoted'. -/
def tupleQuotedUptoCard : Claim7 := { stood := { row := tupleQuotedUptoRow, standIns := [], harness := (true, "be002e7fa89a47bd9f98e8ef886da5548e5028abe1526d416e9562c3a5de81b1"), looks := true }, kinds := [], alts := [], laidByText := true, laidKinds := [.data], laidTests := true, laidLooks := .later }
def TupleQuotedUptoCardSaid : Prop := Claim7.holds Tryd.pinned (.plain (OpenSpec.upto tupleQuotedSpec)) tupleQuotedUptoCard

/-- THE SECOND FORM's CARD OF 'lychgatelaw05.TupleTurns'. -/
def tupleTurnsUptoCard : Claim7 := { stood := { row := tupleTurnsUptoRow, standIns := [], harness := (true, "be002e7fa89a47bd9f98e8ef886da5548e5028abe1526d416e9562c3a5de81b1"), looks := true }, kinds := [], alts := [], laidByText := true, laidKinds := [.data], laidTests := true, laidLooks := .later }
def TupleTurnsUptoCardSaid : Prop := Claim7.holds Tryd.pinned (.plain (OpenSpec.upto tupleTurnsSpec)) tupleTurnsUptoCard

/-- THE SECOND FORM's CARD OF 'lychgatelaw05.TupleTwice'. -/
def tupleTwiceUptoCard : Claim7 := { stood := { row := tupleTwiceUptoRow, standIns := [], harness := (true, "be002e7fa89a47bd9f98e8ef886da5548e5028abe1526d416e9562c3a5de81b1"), looks := true }, kinds := [], alts := [], laidByText := true, laidKinds := [.data], laidTests := true, laidLooks := .later }
def TupleTwiceUptoCardSaid : Prop := Claim7.holds Tryd.pinned (.plain (OpenSpec.upto tupleTwiceSpec)) tupleTwiceUptoCard

/-- THE SECOND FORM's CARD OF 'lychgatelaw05.TupleTold'. -/
def tupleToldUptoCard : Claim7 := { stood := { row := tupleToldUptoRow, standIns := [], harness := (true, "be002e7fa89a47bd9f98e8ef886da5548e5028abe1526d416e9562c3a5de81b1"), looks := true }, kinds := [], alts := [], laidByText := true, laidKinds := [.data], laidTests := true, laidLooks := .later }
def TupleToldUptoCardSaid : Prop := Claim7.holds Tryd.pinned (.plain (OpenSpec.upto tupleToldSpec)) tupleToldUptoCard

/-- THE SECOND FORM's CARD OF 'lychgatelaw05.TupleErrors'. -/
def tupleErrorsUptoCard : Claim7 := { stood := { row := tupleErrorsUptoRow, standIns := [], harness := (true, "be002e7fa89a47bd9f98e8ef886da5548e5028abe1526d416e9562c3a5de81b1"), looks := true }, kinds := [], alts := [], laidByText := true, laidKinds := [.data], laidTests := true, laidLooks := .later }
def TupleErrorsUptoCardSaid : Prop := Claim7.holds Tryd.pinned (.plain (OpenSpec.upto tupleErrorsSpec)) tupleErrorsUptoCard
end Rows
end Go.Proofs.YtojoaidnkljcpaaDoor
