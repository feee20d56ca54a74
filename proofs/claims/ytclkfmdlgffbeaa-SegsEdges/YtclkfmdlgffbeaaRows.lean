/-
  No cell of these rows narrows 'for every input' (looked for: loops, veiled, ifaces, maps, wideKeys, modest, calm, conditions, laid).
  DERIVED. THE GIVEN ROWS OF THIS SEAT. 4 by the template 'for every input the law returns true; each argument reads behind the call as it read before'; 0 by the template 'total and deterministic' (their statements: YtclkfmdlgffbeaaTotals.lean).
  GIVEN WITH THE SEED: the statements are not yours to turn. If you find one false, say at which input.
  Laid BY PROGRAM, IN A SANDBOX (cutbox-rows.mjs): the forced cells as the released guide's own fill.sh prints them over the translation 0e1f3e35053b2a20… (all of the seat's roots in one cut). By AI agents, Wed Nov 11 2026. No macro, syntax, notation, axiom, sorry.
-/
import Derived.Test.YtclkfmdlgffbeaaChecked
import GoSem.Claim
import GoSem.ClaimJoined
import GoSem.ClaimMapViews
import Derived.JoinedTies
import Derived.KernelRfl
namespace Go.Proofs.Ytclkfmdlgffbeaa
/- THE CELL 'sum', in the pinned program and in every row, IS THE sha256 OF THE DUMP (.gsa) THAT YtclkfmdlgffbeaaProg.lean LOADS. Nothing in Lean hashes anything: it is a label: what it is worth is what the hold of that sum in a sandbox is worth. -/
noncomputable def Try.pinned : Pinned := { name := "ytclkfmdlgffbeaa", sum := "0e1f3e35053b2a202e3df2d8e02d159c32be09bab1ac07779d12773021086326", checked := Try.checked }
namespace Rows
def none {H : Type} : Left H := { results := [], args := [] }

/-- 'lychgatelaw03.SegsTcp': WHATEVER THE INPUT: true; the input reads as it did. -/
def segsTcpSpec : ChangeSpec := { name := "segsTcp", fn := fun _ => fun
  | [d] => { results := [.lit (.bool true)], args := [d] }
  | _ => none }
def segsTcpRow : OpenClaim := { program := "ytclkfmdlgffbeaa", sum := "0e1f3e35053b2a202e3df2d8e02d159c32be09bab1ac07779d12773021086326", func := "lychgate/lychgatelaw03.SegsTcp", spec := "segsTcp", unfollowed := true, recurses := true, apart := false }
def SegsTcpSaid : Prop := segsTcpRow.holds Try.pinned (OpenSpec.ofChange segsTcpSpec)

/-- ITS FALSE NEIGHBOUR: 'it returns false'. Refute it at one input. -/
def segsTcpWrong : ChangeSpec := { name := "segsTcp", fn := fun _ => fun
  | [d] => { results := [.lit (.bool false)], args := [d] }
  | _ => none }
def SegsTcpWrongFalsely : Prop := segsTcpRow.holds Try.pinned (OpenSpec.ofChange segsTcpWrong)

/-- 'lychgatelaw03.SegsBuilds': WHATEVER THE INPUT: true; the input reads as it did. -/
def segsBuildsSpec : ChangeSpec := { name := "segsBuilds", fn := fun _ => fun
  | [d1, d2, d3] => { results := [.lit (.bool true)], args := [d1, d2, d3] }
  | _ => none }
def segsBuildsRow : OpenClaim := { program := "ytclkfmdlgffbeaa", sum := "0e1f3e35053b2a202e3df2d8e02d159c32be09bab1ac07779d12773021086326", func := "lychgate/lychgatelaw03.SegsBuilds", spec := "segsBuilds", unfollowed := true, recurses := true, apart := false }
def SegsBuildsSaid : Prop := segsBuildsRow.holds Try.pinned (OpenSpec.ofChange segsBuildsSpec)

/-- ITS FALSE NEIGHBOUR: 'it returns false'. Refute it at one input. -/
def segsBuildsWrong : ChangeSpec := { name := "segsBuilds", fn := fun _ => fun
  | [d1, d2, d3] => { results := [.lit (.bool false)], args := [d1, d2, d3] }
  | _ => none }
def SegsBuildsWrongFalsely : Prop := segsBuildsRow.holds Try.pinned (OpenSpec.ofChange segsBuildsWrong)

/-- 'lychgatelaw03.SegsSacks': WHATEVER THE INPUT: true; the input reads as it did. -/
def segsSacksSpec : ChangeSpec := { name := "segsSacks", fn := fun _ => fun
  | [d1, d2] => { results := [.lit (.bool true)], args := [d1, d2] }
  | _ => none }
def segsSacksRow : OpenClaim := { program := "ytclkfmdlgffbeaa", sum := "0e1f3e35053b2a202e3df2d8e02d159c32be09bab1ac07779d12773021086326", func := "lychgate/lychgatelaw03.SegsSacks", spec := "segsSacks", unfollowed := true, recurses := true, apart := false }
def SegsSacksSaid : Prop := segsSacksRow.holds Try.pinned (OpenSpec.ofChange segsSacksSpec)

/-- ITS FALSE NEIGHBOUR: 'it returns false'. Refute it at one input. -/
def segsSacksWrong : ChangeSpec := { name := "segsSacks", fn := fun _ => fun
  | [d1, d2] => { results := [.lit (.bool false)], args := [d1, d2] }
  | _ => none }
def SegsSacksWrongFalsely : Prop := segsSacksRow.holds Try.pinned (OpenSpec.ofChange segsSacksWrong)

/-- 'lychgatelaw03.SegsEdges': WHATEVER THE INPUT: true; the input reads as it did. -/
def segsEdgesSpec : ChangeSpec := { name := "segsEdges", fn := fun _ => fun
  | [d1, d2] => { results := [.lit (.bool true)], args := [d1, d2] }
  | _ => none }
def segsEdgesRow : OpenClaim := { program := "ytclkfmdlgffbeaa", sum := "0e1f3e35053b2a202e3df2d8e02d159c32be09bab1ac07779d12773021086326", func := "lychgate/lychgatelaw03.SegsEdges", spec := "segsEdges", unfollowed := true, recurses := true, apart := false }
def SegsEdgesSaid : Prop := segsEdgesRow.holds Try.pinned (OpenSpec.ofChange segsEdgesSpec)

/-- ITS FALSE NEIGHBOUR: 'it returns false'. Refute it at one input. -/
def segsEdgesWrong : ChangeSpec := { name := "segsEdges", fn := fun _ => fun
  | [d1, d2] => { results := [.lit (.bool false)], args := [d1, d2] }
  | _ => none }
def SegsEdgesWrongFalsely : Prop := segsEdgesRow.holds Try.pinned (OpenSpec.ofChange segsEdgesWrong)

/- THE SECOND FORM. 'bulk': how many values and letters a reading holds, each counted each time it is reached (what is shared counts as often as it is met; a slice's spare places count too). A statement '..UptoSaid' is the law's where the arguments, and the package variables that the reading takes, are together of bulk at most 1048576: NARROWER than '..Said'. Prove '..Said' where nothing that the law and all that it calls make is longer than what came in: it says more and counts as full. Else prove '..UptoSaid'. A law counts once. -/
mutual
def uptoBulk {H : Type} : DataW H → Nat
  | .lit (.string bytes) => bytes.length + 1
  | .lit _ => 1
  | .nil => 1
  | .ptr d => uptoBulk d + 1
  | .slice elems spare => uptoBulkAll elems + uptoBulkAll spare + 1
  | .agg parts => uptoBulkAll parts + 1
  | .iface _ d => uptoBulk d + 1
  | .map entries => uptoBulkEntries entries + 1
  | .held _ => 1
def uptoBulkAll {H : Type} : List (DataW H) → Nat
  | [] => 0
  | d :: r => uptoBulk d + uptoBulkAll r
def uptoBulkEntries {H : Type} : List (Lit × DataW H) → Nat
  | [] => 0
  | x :: r => uptoBulkEntry x + uptoBulkEntries r
def uptoBulkEntry {H : Type} : Lit × DataW H → Nat
  | (.string bytes, d) => bytes.length + uptoBulk d + 1
  | (_, d) => uptoBulk d + 1
 end
def uptoSmall : (H : Type) → List (DataW H) → Bool := fun _ ds => decide (uptoBulkAll ds ≤ 1048576)
def OpenSpec.upto (s : _root_.Go.ChangeSpec) : _root_.Go.OpenSpec := { _root_.Go.OpenSpec.ofChange s with cond := some uptoSmall }

/-- 'lychgatelaw03.SegsTcp', WHERE WHAT IT READS IS OF BULK AT MOST 1048576: true; the input reads as it did. -/
def segsTcpUptoRow : OpenClaim := { program := "ytclkfmdlgffbeaa", sum := "0e1f3e35053b2a202e3df2d8e02d159c32be09bab1ac07779d12773021086326", func := "lychgate/lychgatelaw03.SegsTcp", spec := "segsTcp", unfollowed := true, recurses := true, apart := false, narrowed := true }
def SegsTcpUptoSaid : Prop := segsTcpUptoRow.holds Try.pinned (OpenSpec.upto segsTcpSpec)

/-- 'lychgatelaw03.SegsBuilds', WHERE WHAT IT READS IS OF BULK AT MOST 1048576: true; the input reads as it did. -/
def segsBuildsUptoRow : OpenClaim := { program := "ytclkfmdlgffbeaa", sum := "0e1f3e35053b2a202e3df2d8e02d159c32be09bab1ac07779d12773021086326", func := "lychgate/lychgatelaw03.SegsBuilds", spec := "segsBuilds", unfollowed := true, recurses := true, apart := false, narrowed := true }
def SegsBuildsUptoSaid : Prop := segsBuildsUptoRow.holds Try.pinned (OpenSpec.upto segsBuildsSpec)

/-- 'lychgatelaw03.SegsSacks', WHERE WHAT IT READS IS OF BULK AT MOST 1048576: true; the input reads as it did. -/
def segsSacksUptoRow : OpenClaim := { program := "ytclkfmdlgffbeaa", sum := "0e1f3e35053b2a202e3df2d8e02d159c32be09bab1ac07779d12773021086326", func := "lychgate/lychgatelaw03.SegsSacks", spec := "segsSacks", unfollowed := true, recurses := true, apart := false, narrowed := true }
def SegsSacksUptoSaid : Prop := segsSacksUptoRow.holds Try.pinned (OpenSpec.upto segsSacksSpec)

/-- 'lychgatelaw03.SegsEdges', WHERE WHAT IT READS IS OF BULK AT MOST 1048576: true; the input reads as it did. -/
def segsEdgesUptoRow : OpenClaim := { program := "ytclkfmdlgffbeaa", sum := "0e1f3e35053b2a202e3df2d8e02d159c32be09bab1ac07779d12773021086326", func := "lychgate/lychgatelaw03.SegsEdges", spec := "segsEdges", unfollowed := true, recurses := true, apart := false, narrowed := true }
def SegsEdgesUptoSaid : Prop := segsEdgesUptoRow.holds Try.pinned (OpenSpec.upto segsEdgesSpec)

end Rows
end Go.Proofs.Ytclkfmdlgffbeaa
