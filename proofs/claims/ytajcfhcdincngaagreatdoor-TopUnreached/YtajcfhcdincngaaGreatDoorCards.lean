/-
  DERIVED. GIVEN WITH THE SEED: THE CARDS: each row of YtajcfhcdincngaaGreatDoorRows.lean that lists a variable, with what it lists TIED to the program's text (the seventh form; the later family's looks); each row that meets fmt, with fmt's text TOLD by the authors' own Lean function (tested against real Go, not proved from fmt's source: count such statements apart). THE CARD IS WHAT COUNTS. Prove the row's statement (the work); the ties are given (YtajcfhcdincngaaGreatDoorTie.lean); close each card by the builder's one call (the guide's Derived/Test/ToyasCard.lean, 'card_holds'). Laid BY PROGRAM, IN A SANDBOX (cutbox-door.mjs). By AI agents, Wed Nov 11 2026. No macro, syntax, notation, axiom, sorry.
-/
import Derived.Test.YtajcfhcdincngaaGreatDoorRows
import GoSem.ClaimSeven
namespace Go.Proofs.YtajcfhcdincngaaGreatDoor
namespace Rows

/-- THE TIED CARD OF 'lychgatetop.TopTalk'. -/
def topTalkCard : Claim7 := { stood := { row := topTalkRow, standIns := [], harness := (true, "cd8a5af5768aa4e4e38ad35d10e76c1fa9720049811a6d056a809261f6b155bf"), looks := true }, kinds := [], alts := [], laidByText := true, laidKinds := [.data, .data], laidTests := true, laidLooks := .later }
def TopTalkCardSaid : Prop := Claim7.holds Tryz.pinned (.plain (OpenSpec.ofChange topTalkSpec)) topTalkCard

/-- THE TIED CARD OF 'lychgatetop.TopFull'. -/
def topFullCard : Claim7 := { stood := { row := topFullRow, standIns := [], harness := (true, "cd8a5af5768aa4e4e38ad35d10e76c1fa9720049811a6d056a809261f6b155bf"), looks := true }, kinds := [], alts := [], laidByText := true, laidKinds := [.data, .data], laidTests := true, laidLooks := .later }
def TopFullCardSaid : Prop := Claim7.holds Tryz.pinned (.plain (OpenSpec.ofChange topFullSpec)) topFullCard

/-- THE TIED CARD OF 'lychgatetop.TopUnreached'. -/
def topUnreachedCard : Claim7 := { stood := { row := topUnreachedRow, standIns := [], harness := (true, "cd8a5af5768aa4e4e38ad35d10e76c1fa9720049811a6d056a809261f6b155bf"), looks := true }, kinds := [], alts := [], laidByText := true, laidKinds := [.data, .data], laidTests := true, laidLooks := .later }
def TopUnreachedCardSaid : Prop := Claim7.holds Tryz.pinned (.plain (OpenSpec.ofChange topUnreachedSpec)) topUnreachedCard

/-- THE SECOND FORM's CARD OF 'lychgatetop.TopTalk'. -/
def topTalkUptoCard : Claim7 := { stood := { row := topTalkUptoRow, standIns := [], harness := (true, "cd8a5af5768aa4e4e38ad35d10e76c1fa9720049811a6d056a809261f6b155bf"), looks := true }, kinds := [], alts := [], laidByText := true, laidKinds := [.data, .data], laidTests := true, laidLooks := .later }
def TopTalkUptoCardSaid : Prop := Claim7.holds Tryz.pinned (.plain (OpenSpec.upto topTalkSpec)) topTalkUptoCard

/-- THE SECOND FORM's CARD OF 'lychgatetop.TopFull'. -/
def topFullUptoCard : Claim7 := { stood := { row := topFullUptoRow, standIns := [], harness := (true, "cd8a5af5768aa4e4e38ad35d10e76c1fa9720049811a6d056a809261f6b155bf"), looks := true }, kinds := [], alts := [], laidByText := true, laidKinds := [.data, .data], laidTests := true, laidLooks := .later }
def TopFullUptoCardSaid : Prop := Claim7.holds Tryz.pinned (.plain (OpenSpec.upto topFullSpec)) topFullUptoCard

/-- THE SECOND FORM's CARD OF 'lychgatetop.TopUnreached'. -/
def topUnreachedUptoCard : Claim7 := { stood := { row := topUnreachedUptoRow, standIns := [], harness := (true, "cd8a5af5768aa4e4e38ad35d10e76c1fa9720049811a6d056a809261f6b155bf"), looks := true }, kinds := [], alts := [], laidByText := true, laidKinds := [.data, .data], laidTests := true, laidLooks := .later }
def TopUnreachedUptoCardSaid : Prop := Claim7.holds Tryz.pinned (.plain (OpenSpec.upto topUnreachedSpec)) topUnreachedUptoCard
end Rows
end Go.Proofs.YtajcfhcdincngaaGreatDoor
