/-
  DERIVED. GIVEN WITH THE SEED: THE CARDS: each row of YtdjncjijgiemgaaDoorRows.lean that lists a variable, with what it lists TIED to the program's text (the seventh form; the later family's looks); each row that meets fmt, with fmt's text TOLD by the authors' own Lean function (tested against real Go, not proved from fmt's source: count such statements apart). THE CARD IS WHAT COUNTS. Prove the row's statement (the work); the ties are given (YtdjncjijgiemgaaDoorTie.lean); close each card by the builder's one call (the guide's Derived/Test/ToyasCard.lean, 'card_holds'). Laid BY PROGRAM, IN A SANDBOX (cutbox-door.mjs). By AI agents, Wed Nov 11 2026. No macro, syntax, notation, axiom, sorry.
-/
import Derived.Test.YtdjncjijgiemgaaDoorRows
import GoSem.ClaimSeven
namespace Go.Proofs.YtdjncjijgiemgaaDoor
namespace Rows

/-- THE TIED CARD OF 'lychgatelaw08.PoolPlays'. -/
def poolPlaysCard : Claim7 := { stood := { row := poolPlaysRow, standIns := [], harness := (true, "c9b223ee1a1c26aa2f66c7b0e25301b9ab8cad5758c975a1d6a29ab323930575"), looks := false }, kinds := [], alts := [], laidByText := true, laidKinds := [.data], laidTests := true, laidLooks := .later }
def PoolPlaysCardSaid : Prop := Claim7.holds Tryd.pinned (.plain (OpenSpec.ofChange poolPlaysSpec)) poolPlaysCard

/-- THE TIED CARD OF 'lychgatelaw08.PoolBack'. -/
def poolBackCard : Claim7 := { stood := { row := poolBackRow, standIns := [], harness := (true, "c9b223ee1a1c26aa2f66c7b0e25301b9ab8cad5758c975a1d6a29ab323930575"), looks := false }, kinds := [], alts := [], laidByText := true, laidKinds := [.data], laidTests := true, laidLooks := .later }
def PoolBackCardSaid : Prop := Claim7.holds Tryd.pinned (.plain (OpenSpec.ofChange poolBackSpec)) poolBackCard

/-- THE TIED CARD OF 'lychgatelaw08.PoolForks'. -/
def poolForksCard : Claim7 := { stood := { row := poolForksRow, standIns := [], harness := (true, "c9b223ee1a1c26aa2f66c7b0e25301b9ab8cad5758c975a1d6a29ab323930575"), looks := false }, kinds := [], alts := [], laidByText := true, laidKinds := [.data], laidTests := true, laidLooks := .later }
def PoolForksCardSaid : Prop := Claim7.holds Tryd.pinned (.plain (OpenSpec.ofChange poolForksSpec)) poolForksCard

/-- THE TIED CARD OF 'lychgatelaw08.PoolPairs'. -/
def poolPairsCard : Claim7 := { stood := { row := poolPairsRow, standIns := [], harness := (true, "c9b223ee1a1c26aa2f66c7b0e25301b9ab8cad5758c975a1d6a29ab323930575"), looks := false }, kinds := [], alts := [], laidByText := true, laidKinds := [.data], laidTests := true, laidLooks := .later }
def PoolPairsCardSaid : Prop := Claim7.holds Tryd.pinned (.plain (OpenSpec.ofChange poolPairsSpec)) poolPairsCard

/-- THE SECOND FORM's CARD OF 'lychgatelaw08.PoolPlays'. -/
def poolPlaysUptoCard : Claim7 := { stood := { row := poolPlaysUptoRow, standIns := [], harness := (true, "c9b223ee1a1c26aa2f66c7b0e25301b9ab8cad5758c975a1d6a29ab323930575"), looks := false }, kinds := [], alts := [], laidByText := true, laidKinds := [.data], laidTests := true, laidLooks := .later }
def PoolPlaysUptoCardSaid : Prop := Claim7.holds Tryd.pinned (.plain (OpenSpec.upto poolPlaysSpec)) poolPlaysUptoCard

/-- THE SECOND FORM's CARD OF 'lychgatelaw08.PoolBack'. -/
def poolBackUptoCard : Claim7 := { stood := { row := poolBackUptoRow, standIns := [], harness := (true, "c9b223ee1a1c26aa2f66c7b0e25301b9ab8cad5758c975a1d6a29ab323930575"), looks := false }, kinds := [], alts := [], laidByText := true, laidKinds := [.data], laidTests := true, laidLooks := .later }
def PoolBackUptoCardSaid : Prop := Claim7.holds Tryd.pinned (.plain (OpenSpec.upto poolBackSpec)) poolBackUptoCard

/-- THE SECOND FORM's CARD OF 'lychgatelaw08.PoolForks'. -/
def poolForksUptoCard : Claim7 := { stood := { row := poolForksUptoRow, standIns := [], harness := (true, "c9b223ee1a1c26aa2f66c7b0e25301b9ab8cad5758c975a1d6a29ab323930575"), looks := false }, kinds := [], alts := [], laidByText := true, laidKinds := [.data], laidTests := true, laidLooks := .later }
def PoolForksUptoCardSaid : Prop := Claim7.holds Tryd.pinned (.plain (OpenSpec.upto poolForksSpec)) poolForksUptoCard

/-- THE SECOND FORM's CARD OF 'lychgatelaw08.PoolPairs'. -/
def poolPairsUptoCard : Claim7 := { stood := { row := poolPairsUptoRow, standIns := [], harness := (true, "c9b223ee1a1c26aa2f66c7b0e25301b9ab8cad5758c975a1d6a29ab323930575"), looks := false }, kinds := [], alts := [], laidByText := true, laidKinds := [.data], laidTests := true, laidLooks := .later }
def PoolPairsUptoCardSaid : Prop := Claim7.holds Tryd.pinned (.plain (OpenSpec.upto poolPairsSpec)) poolPairsUptoCard
end Rows
end Go.Proofs.YtdjncjijgiemgaaDoor
