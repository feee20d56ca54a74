/-
  DERIVED. GIVEN WITH THE SEED: THE CARDS: each row of YtfompbpllndmfaaDoorRows.lean that lists a variable, with what it lists TIED to the program's text (the seventh form; the later family's looks); each row that meets fmt, with fmt's text TOLD by the authors' own Lean function (tested against real Go, not proved from fmt's source: count such statements apart). THE CARD IS WHAT COUNTS. Prove the row's statement (the work); the ties are given (YtfompbpllndmfaaDoorTie.lean); close each card by the builder's one call (the guide's Derived/Test/ToyasCard.lean, 'card_holds'). Laid BY PROGRAM, IN A SANDBOX (cutbox-door.mjs). By AI agents, Wed Nov 11 2026. No macro, syntax, notation, axiom, sorry.
-/
import Derived.Test.YtfompbpllndmfaaDoorRows
import GoSem.ClaimSeven
namespace Go.Proofs.YtfompbpllndmfaaDoor
namespace Rows

/-- THE TIED CARD OF 'lychgatelaw08.PoolOnce'. -/
def poolOnceCard : Claim7 := { stood := { row := poolOnceRow, standIns := [], harness := (true, "59e0d438d20434a708d03f788b07c8d2f5620ed7803b359d86177003c5f56acb"), looks := false }, kinds := [], alts := [], laidByText := true, laidKinds := [.data], laidTests := true, laidLooks := .later }
def PoolOnceCardSaid : Prop := Claim7.holds Tryd.pinned (.plain (OpenSpec.ofChange poolOnceSpec)) poolOnceCard

/-- THE TIED CARD OF 'lychgatelaw08.PoolWish'. -/
def poolWishCard : Claim7 := { stood := { row := poolWishRow, standIns := [], harness := (true, "59e0d438d20434a708d03f788b07c8d2f5620ed7803b359d86177003c5f56acb"), looks := false }, kinds := [], alts := [], laidByText := true, laidKinds := [.data], laidTests := true, laidLooks := .later }
def PoolWishCardSaid : Prop := Claim7.holds Tryd.pinned (.plain (OpenSpec.ofChange poolWishSpec)) poolWishCard

/-- THE TIED CARD OF 'lychgatelaw08.PoolNone'. -/
def poolNoneCard : Claim7 := { stood := { row := poolNoneRow, standIns := [], harness := (true, "59e0d438d20434a708d03f788b07c8d2f5620ed7803b359d86177003c5f56acb"), looks := false }, kinds := [], alts := [], laidByText := true, laidKinds := [.data], laidTests := true, laidLooks := .later }
def PoolNoneCardSaid : Prop := Claim7.holds Tryd.pinned (.plain (OpenSpec.ofChange poolNoneSpec)) poolNoneCard

/-- THE TIED CARD OF 'lychgatetop.TopPorts'. -/
def topPortsCard : Claim7 := { stood := { row := topPortsRow, standIns := [], harness := (true, "59e0d438d20434a708d03f788b07c8d2f5620ed7803b359d86177003c5f56acb"), looks := false }, kinds := [], alts := [], laidByText := true, laidKinds := [.data], laidTests := true, laidLooks := .later }
def TopPortsCardSaid : Prop := Claim7.holds Tryd.pinned (.plain (OpenSpec.ofChange topPortsSpec)) topPortsCard

/-- THE SECOND FORM's CARD OF 'lychgatelaw08.PoolOnce'. -/
def poolOnceUptoCard : Claim7 := { stood := { row := poolOnceUptoRow, standIns := [], harness := (true, "59e0d438d20434a708d03f788b07c8d2f5620ed7803b359d86177003c5f56acb"), looks := false }, kinds := [], alts := [], laidByText := true, laidKinds := [.data], laidTests := true, laidLooks := .later }
def PoolOnceUptoCardSaid : Prop := Claim7.holds Tryd.pinned (.plain (OpenSpec.upto poolOnceSpec)) poolOnceUptoCard

/-- THE SECOND FORM's CARD OF 'lychgatelaw08.PoolWish'. -/
def poolWishUptoCard : Claim7 := { stood := { row := poolWishUptoRow, standIns := [], harness := (true, "59e0d438d20434a708d03f788b07c8d2f5620ed7803b359d86177003c5f56acb"), looks := false }, kinds := [], alts := [], laidByText := true, laidKinds := [.data], laidTests := true, laidLooks := .later }
def PoolWishUptoCardSaid : Prop := Claim7.holds Tryd.pinned (.plain (OpenSpec.upto poolWishSpec)) poolWishUptoCard

/-- THE SECOND FORM's CARD OF 'lychgatelaw08.PoolNone'. -/
def poolNoneUptoCard : Claim7 := { stood := { row := poolNoneUptoRow, standIns := [], harness := (true, "59e0d438d20434a708d03f788b07c8d2f5620ed7803b359d86177003c5f56acb"), looks := false }, kinds := [], alts := [], laidByText := true, laidKinds := [.data], laidTests := true, laidLooks := .later }
def PoolNoneUptoCardSaid : Prop := Claim7.holds Tryd.pinned (.plain (OpenSpec.upto poolNoneSpec)) poolNoneUptoCard

/-- THE SECOND FORM's CARD OF 'lychgatetop.TopPorts'. -/
def topPortsUptoCard : Claim7 := { stood := { row := topPortsUptoRow, standIns := [], harness := (true, "59e0d438d20434a708d03f788b07c8d2f5620ed7803b359d86177003c5f56acb"), looks := false }, kinds := [], alts := [], laidByText := true, laidKinds := [.data], laidTests := true, laidLooks := .later }
def TopPortsUptoCardSaid : Prop := Claim7.holds Tryd.pinned (.plain (OpenSpec.upto topPortsSpec)) topPortsUptoCard
end Rows
end Go.Proofs.YtfompbpllndmfaaDoor
