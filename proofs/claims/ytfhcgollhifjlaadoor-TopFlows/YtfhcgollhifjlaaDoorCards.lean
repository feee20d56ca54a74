/-
  DERIVED. GIVEN WITH THE SEED: THE CARDS: each row of YtfhcgollhifjlaaDoorRows.lean that lists a variable, with what it lists TIED to the program's text (the seventh form; the later family's looks); each row that meets fmt, with fmt's text TOLD by the authors' own Lean function (tested against real Go, not proved from fmt's source: count such statements apart). THE CARD IS WHAT COUNTS. Prove the row's statement (the work); the ties are given (YtfhcgollhifjlaaDoorTie.lean); close each card by the builder's one call (the guide's Derived/Test/ToyasCard.lean, 'card_holds'). Laid BY PROGRAM, IN A SANDBOX (cutbox-door.mjs). By AI agents, Wed Nov 11 2026. No macro, syntax, notation, axiom, sorry.
-/
import Derived.Test.YtfhcgollhifjlaaDoorRows
import GoSem.ClaimSeven
namespace Go.Proofs.YtfhcgollhifjlaaDoor
namespace Rows

/-- THE TIED CARD OF 'lychgatetop.TopFlows'. -/
def topFlowsCard : Claim7 := { stood := { row := topFlowsRow, standIns := [], harness := (true, "54135875eebec76f2b312d2b78bc4fa28b4c3589f421209665a4cb5b8e916ff9"), looks := false }, kinds := [], alts := [], laidByText := true, laidKinds := [.data], laidTests := true, laidLooks := .later }
def TopFlowsCardSaid : Prop := Claim7.holds Tryd.pinned (.plain (OpenSpec.ofChange topFlowsSpec)) topFlowsCard

/-- THE SECOND FORM's CARD OF 'lychgatetop.TopFlows'. -/
def topFlowsUptoCard : Claim7 := { stood := { row := topFlowsUptoRow, standIns := [], harness := (true, "54135875eebec76f2b312d2b78bc4fa28b4c3589f421209665a4cb5b8e916ff9"), looks := false }, kinds := [], alts := [], laidByText := true, laidKinds := [.data], laidTests := true, laidLooks := .later }
def TopFlowsUptoCardSaid : Prop := Claim7.holds Tryd.pinned (.plain (OpenSpec.upto topFlowsSpec)) topFlowsUptoCard
end Rows
end Go.Proofs.YtfhcgollhifjlaaDoor
