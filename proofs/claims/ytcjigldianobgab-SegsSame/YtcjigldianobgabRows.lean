/-
  No cell of these rows narrows 'for every input' (looked for: loops, veiled, ifaces, maps, wideKeys, modest, calm, conditions, laid).
  DERIVED. THE GIVEN ROWS OF THIS SEAT. 4 by the template 'for every input the law returns true; each argument reads behind the call as it read before'; 0 by the template 'total and deterministic' (their statements: YtcjigldianobgabTotals.lean).
  GIVEN WITH THE SEED: the statements are not yours to turn. If you find one false, say at which input.
  Laid BY PROGRAM, IN A SANDBOX (cutbox-rows.mjs): the forced cells as the released guide's own fill.sh prints them over the translation 2ea47e9348a809df… (all of the seat's roots in one cut). By AI agents, Wed Nov 11 2026. No macro, syntax, notation, axiom, sorry.
-/
import Derived.Test.YtcjigldianobgabChecked
import GoSem.Claim
import GoSem.ClaimJoined
import GoSem.ClaimMapViews
import Derived.JoinedTies
import Derived.KernelRfl
namespace Go.Proofs.Ytcjigldianobgab
/- THE CELL 'sum', in the pinned program and in every row, IS THE sha256 OF THE DUMP (.gsa) THAT YtcjigldianobgabProg.lean LOADS. Nothing in Lean hashes anything: it is a label: what it is worth is what the hold of that sum in a sandbox is worth. -/
noncomputable def Try.pinned : Pinned := { name := "ytcjigldianobgab", sum := "2ea47e9348a809df866f83836f8247eca3ac00a187f9666c8239333185ed37cf", checked := Try.checked }
namespace Rows
def none {H : Type} : Left H := { results := [], args := [] }

/-- 'lychgatelaw03.SegsSame': WHATEVER THE INPUT: true; the input reads as it did. -/
def segsSameSpec : ChangeSpec := { name := "segsSame", fn := fun _ => fun
  | [d1, d2, d3] => { results := [.lit (.bool true)], args := [d1, d2, d3] }
  | _ => none }
def segsSameRow : OpenClaim := { program := "ytcjigldianobgab", sum := "2ea47e9348a809df866f83836f8247eca3ac00a187f9666c8239333185ed37cf", func := "lychgate/lychgatelaw03.SegsSame", spec := "segsSame", unfollowed := true, recurses := true, apart := false }
def SegsSameSaid : Prop := segsSameRow.holds Try.pinned (OpenSpec.ofChange segsSameSpec)

/-- ITS FALSE NEIGHBOUR: 'it returns false'. Refute it at one input. -/
def segsSameWrong : ChangeSpec := { name := "segsSame", fn := fun _ => fun
  | [d1, d2, d3] => { results := [.lit (.bool false)], args := [d1, d2, d3] }
  | _ => none }
def SegsSameWrongFalsely : Prop := segsSameRow.holds Try.pinned (OpenSpec.ofChange segsSameWrong)

/-- 'lychgatelaw03.SegsFlips': WHATEVER THE INPUT: true; the input reads as it did. -/
def segsFlipsSpec : ChangeSpec := { name := "segsFlips", fn := fun _ => fun
  | [d1, d2, d3] => { results := [.lit (.bool true)], args := [d1, d2, d3] }
  | _ => none }
def segsFlipsRow : OpenClaim := { program := "ytcjigldianobgab", sum := "2ea47e9348a809df866f83836f8247eca3ac00a187f9666c8239333185ed37cf", func := "lychgate/lychgatelaw03.SegsFlips", spec := "segsFlips", unfollowed := true, recurses := true, apart := false }
def SegsFlipsSaid : Prop := segsFlipsRow.holds Try.pinned (OpenSpec.ofChange segsFlipsSpec)

/-- ITS FALSE NEIGHBOUR: 'it returns false'. Refute it at one input. -/
def segsFlipsWrong : ChangeSpec := { name := "segsFlips", fn := fun _ => fun
  | [d1, d2, d3] => { results := [.lit (.bool false)], args := [d1, d2, d3] }
  | _ => none }
def SegsFlipsWrongFalsely : Prop := segsFlipsRow.holds Try.pinned (OpenSpec.ofChange segsFlipsWrong)

/-- 'lychgatelaw03.SegsWhere': WHATEVER THE INPUT: true; the input reads as it did. -/
def segsWhereSpec : ChangeSpec := { name := "segsWhere", fn := fun _ => fun
  | [d1, d2, d3] => { results := [.lit (.bool true)], args := [d1, d2, d3] }
  | _ => none }
def segsWhereRow : OpenClaim := { program := "ytcjigldianobgab", sum := "2ea47e9348a809df866f83836f8247eca3ac00a187f9666c8239333185ed37cf", func := "lychgate/lychgatelaw03.SegsWhere", spec := "segsWhere", unfollowed := true, recurses := true, apart := false }
def SegsWhereSaid : Prop := segsWhereRow.holds Try.pinned (OpenSpec.ofChange segsWhereSpec)

/-- ITS FALSE NEIGHBOUR: 'it returns false'. Refute it at one input. -/
def segsWhereWrong : ChangeSpec := { name := "segsWhere", fn := fun _ => fun
  | [d1, d2, d3] => { results := [.lit (.bool false)], args := [d1, d2, d3] }
  | _ => none }
def SegsWhereWrongFalsely : Prop := segsWhereRow.holds Try.pinned (OpenSpec.ofChange segsWhereWrong)

/-- 'lychgatelaw03.SegsBare': WHATEVER THE INPUT: true; the input reads as it did. -/
def segsBareSpec : ChangeSpec := { name := "segsBare", fn := fun _ => fun
  | [d1, d2, d3] => { results := [.lit (.bool true)], args := [d1, d2, d3] }
  | _ => none }
def segsBareRow : OpenClaim := { program := "ytcjigldianobgab", sum := "2ea47e9348a809df866f83836f8247eca3ac00a187f9666c8239333185ed37cf", func := "lychgate/lychgatelaw03.SegsBare", spec := "segsBare", unfollowed := true, recurses := true, apart := false }
def SegsBareSaid : Prop := segsBareRow.holds Try.pinned (OpenSpec.ofChange segsBareSpec)

/-- ITS FALSE NEIGHBOUR: 'it returns false'. Refute it at one input. -/
def segsBareWrong : ChangeSpec := { name := "segsBare", fn := fun _ => fun
  | [d1, d2, d3] => { results := [.lit (.bool false)], args := [d1, d2, d3] }
  | _ => none }
def SegsBareWrongFalsely : Prop := segsBareRow.holds Try.pinned (OpenSpec.ofChange segsBareWrong)

/- THE SECOND FORM. 'bulk': how many values and letters a reading holds, each counted each time it is reached (what is shared counts as often as it is met; a slice's spare places count too). A statement '..UptoSaid' is the law's where the arguments, and the package variables that the reading takes, are together of bulk at most 1048576: NARROWER than '..Said'. Prove '..Said' where nothing that the law and all that it calls make is longer than what came in: it says more and counts as full. Else prove '..UptoSaid'. A law counts once. -/
mutual
def uptoBulk {H : Type} : DataW H → Nat
  | .lit (.string bytes) => bytes.length + 1
  | .lit _ => 1
  | .nil => 1
  | .ptr d => uptoBulk d + 1
  | .slice elems spare => uptoBulkAll elems + uptoBulkAll spare + 1
  | .agg parts => uptoBulkAll parts + 1
  | .iface _ d => uptoBulk d + 1
  | .map entries => uptoBulkEntries entries + 1
  | .held _ => 1
def uptoBulkAll {H : Type} : List (DataW H) → Nat
  | [] => 0
  | d :: r => uptoBulk d + uptoBulkAll r
def uptoBulkEntries {H : Type} : List (Lit × DataW H) → Nat
  | [] => 0
  | x :: r => uptoBulkEntry x + uptoBulkEntries r
def uptoBulkEntry {H : Type} : Lit × DataW H → Nat
  | (.string bytes, d) => bytes.length + uptoBulk d + 1
  | (_, d) => uptoBulk d + 1
 end
def uptoSmall : (H : Type) → List (DataW H) → Bool := fun _ ds => decide (uptoBulkAll ds ≤ 1048576)
def OpenSpec.upto (s : _root_.Go.ChangeSpec) : _root_.Go.OpenSpec := { _root_.Go.OpenSpec.ofChange s with cond := some uptoSmall }

/-- 'lychgatelaw03.SegsSame', WHERE WHAT IT READS IS OF BULK AT MOST 1048576: true; the input reads as it did. -/
def segsSameUptoRow : OpenClaim := { program := "ytcjigldianobgab", sum := "2ea47e9348a809df866f83836f8247eca3ac00a187f9666c8239333185ed37cf", func := "lychgate/lychgatelaw03.SegsSame", spec := "segsSame", unfollowed := true, recurses := true, apart := false, narrowed := true }
def SegsSameUptoSaid : Prop := segsSameUptoRow.holds Try.pinned (OpenSpec.upto segsSameSpec)

/-- 'lychgatelaw03.SegsFlips', WHERE WHAT IT READS IS OF BULK AT MOST 1048576: true; the input reads as it did. -/
def segsFlipsUptoRow : OpenClaim := { program := "ytcjigldianobgab", sum := "2ea47e9348a809df866f83836f8247eca3ac00a187f9666c8239333185ed37cf", func := "lychgate/lychgatelaw03.SegsFlips", spec := "segsFlips", unfollowed := true, recurses := true, apart := false, narrowed := true }
def SegsFlipsUptoSaid : Prop := segsFlipsUptoRow.holds Try.pinned (OpenSpec.upto segsFlipsSpec)

/-- 'lychgatelaw03.SegsWhere', WHERE WHAT IT READS IS OF BULK AT MOST 1048576: true; the input reads as it did. -/
def segsWhereUptoRow : OpenClaim := { program := "ytcjigldianobgab", sum := "2ea47e9348a809df866f83836f8247eca3ac00a187f9666c8239333185ed37cf", func := "lychgate/lychgatelaw03.SegsWhere", spec := "segsWhere", unfollowed := true, recurses := true, apart := false, narrowed := true }
def SegsWhereUptoSaid : Prop := segsWhereUptoRow.holds Try.pinned (OpenSpec.upto segsWhereSpec)

/-- 'lychgatelaw03.SegsBare', WHERE WHAT IT READS IS OF BULK AT MOST 1048576: true; the input reads as it did. -/
def segsBareUptoRow : OpenClaim := { program := "ytcjigldianobgab", sum := "2ea47e9348a809df866f83836f8247eca3ac00a187f9666c8239333185ed37cf", func := "lychgate/lychgatelaw03.SegsBare", spec := "segsBare", unfollowed := true, recurses := true, apart := false, narrowed := true }
def SegsBareUptoSaid : Prop := segsBareUptoRow.holds Try.pinned (OpenSpec.upto segsBareSpec)

end Rows
end Go.Proofs.Ytcjigldianobgab
