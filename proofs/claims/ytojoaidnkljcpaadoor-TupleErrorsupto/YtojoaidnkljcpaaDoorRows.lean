/-
  NARROWER THAN 'FOR EVERY INPUT', by the rows' own cells (each row's printed sentence says how): TupleOf: laid · TupleQuoted: laid · TupleTurns: laid · TupleTwice: laid · TupleTold: laid · TupleErrors: laid.
  DERIVED. THE GIVEN ROWS OF THIS SEAT. 6 by the template 'for every input the law returns true; each argument reads behind the call as it read before'; 0 by the template 'total and deterministic' (their statements: YtojoaidnkljcpaaDoorTotals.lean).
  GIVEN WITH THE SEED: the statements are not yours to turn. If you find one false, say at which input.
  Laid BY PROGRAM, IN A SANDBOX (cutbox-rows.mjs): the forced cells as the released guide's own fill.sh prints them over the translation d2d5f0949b09b038… (all of the seat's roots in one cut). By AI agents, Wed Nov 11 2026. No macro, syntax, notation, axiom, sorry.
-/
import Derived.Test.YtojoaidnkljcpaaDoorChecked
import GoSem.Claim
import GoSem.ClaimJoined
import GoSem.ClaimMapViews
import Derived.JoinedTies
import Derived.KernelRfl
namespace Go.Proofs.YtojoaidnkljcpaaDoor
/- THE CELL 'sum', in the pinned program and in every row, IS THE sha256 OF THE DUMP (.gsa) THAT YtojoaidnkljcpaaDoorProg.lean LOADS. Nothing in Lean hashes anything: it is a label: what it is worth is what the hold of that sum in a sandbox is worth. -/
noncomputable def Tryd.pinned : Pinned := { name := "ytojoaidnkljcpaadoor", sum := "d2d5f0949b09b038c0b559a176cf66946eead47c4867e10d7a98093d2f91b4a2", checked := Tryd.checked }
namespace Rows
def none {H : Type} : Left H := { results := [], args := [] }

/- WHAT THE LISTED PACKAGE-LEVEL VARIABLES READ AS WHEN THE CALL BEGINS. Each datum BY PROGRAM (the guide's laid-datum.mjs) off the statement by which the dump's own 'gosem.cut.vars' lays the variable. In a bare row this is a premise. The card (YtojoaidnkljcpaaDoorCards.lean) ties it to the program's text. -/
def laid_lychgate_ctrl_beginnings {H : Type} : DataW H := .agg [.agg [.lit (.int .u8 32), .lit (.int .u8 1), .lit (.int .u8 136), .lit (.int .u8 11)], .agg [.lit (.int .u8 48), .lit (.int .u8 1), .lit (.int .u8 136), .lit (.int .u8 11)], .agg [.lit (.int .u8 32), .lit (.int .u8 129), .lit (.int .u8 136), .lit (.int .u8 11)], .agg [.lit (.int .u8 48), .lit (.int .u8 129), .lit (.int .u8 136), .lit (.int .u8 11)]]

/-- 'lychgatelaw05.TupleOf': WHATEVER THE INPUT: true; the input reads as it did. -/
def tupleOfSpec : ChangeSpec := { name := "tupleOf", fn := fun _ => fun
  | [d] => { results := [.lit (.bool true)], args := [d] }
  | _ => none }
def tupleOfRow : OpenClaim := { program := "ytojoaidnkljcpaadoor", sum := "d2d5f0949b09b038c0b559a176cf66946eead47c4867e10d7a98093d2f91b4a2", func := "lychgate/lychgatelaw05.TupleOf", spec := "tupleOf", unfollowed := true, recurses := true, named := ["lychgate/ctrl.beginnings"], apart := false, laid := [("lychgate/ctrl.beginnings", laid_lychgate_ctrl_beginnings)] }
def TupleOfSaid : Prop := tupleOfRow.holds Tryd.pinned (OpenSpec.ofChange tupleOfSpec)

/-- ITS FALSE NEIGHBOUR: 'it returns false'. Refute it at one input. -/
def tupleOfWrong : ChangeSpec := { name := "tupleOf", fn := fun _ => fun
  | [d] => { results := [.lit (.bool false)], args := [d] }
  | _ => none }
def TupleOfWrongFalsely : Prop := tupleOfRow.holds Tryd.pinned (OpenSpec.ofChange tupleOfWrong)

/-- 'lychgatelaw05.TupleQuoted': WHATEVER THE INPUT: true; the input reads as it did. -/
def tupleQuotedSpec : ChangeSpec := { name := "tupleQuoted", fn := fun _ => fun
  | [d] => { results := [.lit (.bool true)], args := [d] }
  | _ => none }
def tupleQuotedRow : OpenClaim := { program := "ytojoaidnkljcpaadoor", sum := "d2d5f0949b09b038c0b559a176cf66946eead47c4867e10d7a98093d2f91b4a2", func := "lychgate/lychgatelaw05.TupleQuoted", spec := "tupleQuoted", unfollowed := true, recurses := true, named := ["lychgate/ctrl.beginnings"], apart := false, laid := [("lychgate/ctrl.beginnings", laid_lychgate_ctrl_beginnings)] }
def TupleQuotedSaid : Prop := tupleQuotedRow.holds Tryd.pinned (OpenSpec.ofChange tupleQuotedSpec)

/-- ITS FALSE NEIGHBOUR: 'it returns false'. Refute it at one input. -/
def tupleQuotedWrong : ChangeSpec := { name := "tupleQuoted", fn := fun _ => fun
  | [d] => { results := [.lit (.bool false)], args := [d] }
  | _ => none }
def TupleQuotedWrongFalsely : Prop := tupleQuotedRow.holds Tryd.pinned (OpenSpec.ofChange tupleQuotedWrong)

/-- 'lychgatelaw05.TupleTurns': WHATEVER THE INPUT: true; the input reads as it did. -/
def tupleTurnsSpec : ChangeSpec := { name := "tupleTurns", fn := fun _ => fun
  | [d] => { results := [.lit (.bool true)], args := [d] }
  | _ => none }
def tupleTurnsRow : OpenClaim := { program := "ytojoaidnkljcpaadoor", sum := "d2d5f0949b09b038c0b559a176cf66946eead47c4867e10d7a98093d2f91b4a2", func := "lychgate/lychgatelaw05.TupleTurns", spec := "tupleTurns", unfollowed := true, recurses := true, named := ["lychgate/ctrl.beginnings"], apart := false, laid := [("lychgate/ctrl.beginnings", laid_lychgate_ctrl_beginnings)] }
def TupleTurnsSaid : Prop := tupleTurnsRow.holds Tryd.pinned (OpenSpec.ofChange tupleTurnsSpec)

/-- ITS FALSE NEIGHBOUR: 'it returns false'. Refute it at one input. -/
def tupleTurnsWrong : ChangeSpec := { name := "tupleTurns", fn := fun _ => fun
  | [d] => { results := [.lit (.bool false)], args := [d] }
  | _ => none }
def TupleTurnsWrongFalsely : Prop := tupleTurnsRow.holds Tryd.pinned (OpenSpec.ofChange tupleTurnsWrong)

/-- 'lychgatelaw05.TupleTwice': WHATEVER THE INPUT: true; the input reads as it did. -/
def tupleTwiceSpec : ChangeSpec := { name := "tupleTwice", fn := fun _ => fun
  | [d1, d2] => { results := [.lit (.bool true)], args := [d1, d2] }
  | _ => none }
def tupleTwiceRow : OpenClaim := { program := "ytojoaidnkljcpaadoor", sum := "d2d5f0949b09b038c0b559a176cf66946eead47c4867e10d7a98093d2f91b4a2", func := "lychgate/lychgatelaw05.TupleTwice", spec := "tupleTwice", unfollowed := true, recurses := true, named := ["lychgate/ctrl.beginnings"], apart := false, laid := [("lychgate/ctrl.beginnings", laid_lychgate_ctrl_beginnings)] }
def TupleTwiceSaid : Prop := tupleTwiceRow.holds Tryd.pinned (OpenSpec.ofChange tupleTwiceSpec)

/-- ITS FALSE NEIGHBOUR: 'it returns false'. Refute it at one input. -/
def tupleTwiceWrong : ChangeSpec := { name := "tupleTwice", fn := fun _ => fun
  | [d1, d2] => { results := [.lit (.bool false)], args := [d1, d2] }
  | _ => none }
def TupleTwiceWrongFalsely : Prop := tupleTwiceRow.holds Tryd.pinned (OpenSpec.ofChange tupleTwiceWrong)

/-- 'lychgatelaw05.TupleTold': WHATEVER THE INPUT: true; the input reads as it did. -/
def tupleToldSpec : ChangeSpec := { name := "tupleTold", fn := fun _ => fun
  | [d1, d2, d3] => { results := [.lit (.bool true)], args := [d1, d2, d3] }
  | _ => none }
def tupleToldRow : OpenClaim := { program := "ytojoaidnkljcpaadoor", sum := "d2d5f0949b09b038c0b559a176cf66946eead47c4867e10d7a98093d2f91b4a2", func := "lychgate/lychgatelaw05.TupleTold", spec := "tupleTold", unfollowed := true, recurses := true, named := ["lychgate/ctrl.beginnings"], apart := false, laid := [("lychgate/ctrl.beginnings", laid_lychgate_ctrl_beginnings)] }
def TupleToldSaid : Prop := tupleToldRow.holds Tryd.pinned (OpenSpec.ofChange tupleToldSpec)

/-- ITS FALSE NEIGHBOUR: 'it returns false'. Refute it at one input. -/
def tupleToldWrong : ChangeSpec := { name := "tupleTold", fn := fun _ => fun
  | [d1, d2, d3] => { results := [.lit (.bool false)], args := [d1, d2, d3] }
  | _ => none }
def TupleToldWrongFalsely : Prop := tupleToldRow.holds Tryd.pinned (OpenSpec.ofChange tupleToldWrong)

/-- 'lychgatelaw05.TupleErrors': WHATEVER THE INPUT: true; the input reads as it did. -/
def tupleErrorsSpec : ChangeSpec := { name := "tupleErrors", fn := fun _ => fun
  | [d1, d2, d3] => { results := [.lit (.bool true)], args := [d1, d2, d3] }
  | _ => none }
def tupleErrorsRow : OpenClaim := { program := "ytojoaidnkljcpaadoor", sum := "d2d5f0949b09b038c0b559a176cf66946eead47c4867e10d7a98093d2f91b4a2", func := "lychgate/lychgatelaw05.TupleErrors", spec := "tupleErrors", unfollowed := true, recurses := true, named := ["lychgate/ctrl.beginnings"], apart := false, laid := [("lychgate/ctrl.beginnings", laid_lychgate_ctrl_beginnings)] }
def TupleErrorsSaid : Prop := tupleErrorsRow.holds Tryd.pinned (OpenSpec.ofChange tupleErrorsSpec)

/-- ITS FALSE NEIGHBOUR: 'it returns false'. Refute it at one input. -/
def tupleErrorsWrong : ChangeSpec := { name := "tupleErrors", fn := fun _ => fun
  | [d1, d2, d3] => { results := [.lit (.bool false)], args := [d1, d2, d3] }
  | _ => none }
def TupleErrorsWrongFalsely : Prop := tupleErrorsRow.holds Tryd.pinned (OpenSpec.ofChange tupleErrorsWrong)

/- THE SECOND FORM. 'bulk': how many values and letters a reading holds, each counted each time it is reached (what is shared counts as often as it is met; a slice's spare places count too). A statement '..UptoSaid' is the law's where the arguments, and the package variables that the reading takes, are together of bulk at most 1048576: NARROWER than '..Said'. Prove '..Said' where nothing that the law and all that it calls make is longer than what came in: it says more and counts as full. Else prove '..UptoSaid'. A law counts once. -/
mutual
def uptoBulk {H : Type} : DataW H → Nat
  | .lit (.string bytes) => bytes.length + 1
  | .lit _ => 1
  | .nil => 1
  | .ptr d => uptoBulk d + 1
  | .slice elems spare => uptoBulkAll elems + uptoBulkAll spare + 1
  | .agg parts => uptoBulkAll parts + 1
  | .iface _ d => uptoBulk d + 1
  | .map entries => uptoBulkEntries entries + 1
  | .held _ => 1
def uptoBulkAll {H : Type} : List (DataW H) → Nat
  | [] => 0
  | d :: r => uptoBulk d + uptoBulkAll r
def uptoBulkEntries {H : Type} : List (Lit × DataW H) → Nat
  | [] => 0
  | x :: r => uptoBulkEntry x + uptoBulkEntries r
def uptoBulkEntry {H : Type} : Lit × DataW H → Nat
  | (.string bytes, d) => bytes.length + uptoBulk d + 1
  | (_, d) => uptoBulk d + 1
 end
def uptoSmall : (H : Type) → List (DataW H) → Bool := fun _ ds => decide (uptoBulkAll ds ≤ 1048576)
def OpenSpec.upto (s : _root_.Go.ChangeSpec) : _root_.Go.OpenSpec := { _root_.Go.OpenSpec.ofChange s with cond := some uptoSmall }

/-- 'lychgatelaw05.TupleOf', WHERE WHAT IT READS IS OF BULK AT MOST 1048576: true; the input reads as it did. -/
def tupleOfUptoRow : OpenClaim := { program := "ytojoaidnkljcpaadoor", sum := "d2d5f0949b09b038c0b559a176cf66946eead47c4867e10d7a98093d2f91b4a2", func := "lychgate/lychgatelaw05.TupleOf", spec := "tupleOf", unfollowed := true, recurses := true, named := ["lychgate/ctrl.beginnings"], apart := false, laid := [("lychgate/ctrl.beginnings", laid_lychgate_ctrl_beginnings)], narrowed := true }
def TupleOfUptoSaid : Prop := tupleOfUptoRow.holds Tryd.pinned (OpenSpec.upto tupleOfSpec)

/-- 'lychgatelaw05.TupleQuoted', WHERE WHAT IT READS IS OF BULK AT MOST 1048576: true; the input reads as it did. -/
def tupleQuotedUptoRow : OpenClaim := { program := "ytojoaidnkljcpaadoor", sum := "d2d5f0949b09b038c0b559a176cf66946eead47c4867e10d7a98093d2f91b4a2", func := "lychgate/lychgatelaw05.TupleQuoted", spec := "tupleQuoted", unfollowed := true, recurses := true, named := ["lychgate/ctrl.beginnings"], apart := false, laid := [("lychgate/ctrl.beginnings", laid_lychgate_ctrl_beginnings)], narrowed := true }
def TupleQuotedUptoSaid : Prop := tupleQuotedUptoRow.holds Tryd.pinned (OpenSpec.upto tupleQuotedSpec)

/-- 'lychgatelaw05.TupleTurns', WHERE WHAT IT READS IS OF BULK AT MOST 1048576: true; the input reads as it did. -/
def tupleTurnsUptoRow : OpenClaim := { program := "ytojoaidnkljcpaadoor", sum := "d2d5f0949b09b038c0b559a176cf66946eead47c4867e10d7a98093d2f91b4a2", func := "lychgate/lychgatelaw05.TupleTurns", spec := "tupleTurns", unfollowed := true, recurses := true, named := ["lychgate/ctrl.beginnings"], apart := false, laid := [("lychgate/ctrl.beginnings", laid_lychgate_ctrl_beginnings)], narrowed := true }
def TupleTurnsUptoSaid : Prop := tupleTurnsUptoRow.holds Tryd.pinned (OpenSpec.upto tupleTurnsSpec)

/-- 'lychgatelaw05.TupleTwice', WHERE WHAT IT READS IS OF BULK AT MOST 1048576: true; the input reads as it did. -/
def tupleTwiceUptoRow : OpenClaim := { program := "ytojoaidnkljcpaadoor", sum := "d2d5f0949b09b038c0b559a176cf66946eead47c4867e10d7a98093d2f91b4a2", func := "lychgate/lychgatelaw05.TupleTwice", spec := "tupleTwice", unfollowed := true, recurses := true, named := ["lychgate/ctrl.beginnings"], apart := false, laid := [("lychgate/ctrl.beginnings", laid_lychgate_ctrl_beginnings)], narrowed := true }
def TupleTwiceUptoSaid : Prop := tupleTwiceUptoRow.holds Tryd.pinned (OpenSpec.upto tupleTwiceSpec)

/-- 'lychgatelaw05.TupleTold', WHERE WHAT IT READS IS OF BULK AT MOST 1048576: true; the input reads as it did. -/
def tupleToldUptoRow : OpenClaim := { program := "ytojoaidnkljcpaadoor", sum := "d2d5f0949b09b038c0b559a176cf66946eead47c4867e10d7a98093d2f91b4a2", func := "lychgate/lychgatelaw05.TupleTold", spec := "tupleTold", unfollowed := true, recurses := true, named := ["lychgate/ctrl.beginnings"], apart := false, laid := [("lychgate/ctrl.beginnings", laid_lychgate_ctrl_beginnings)], narrowed := true }
def TupleToldUptoSaid : Prop := tupleToldUptoRow.holds Tryd.pinned (OpenSpec.upto tupleToldSpec)

/-- 'lychgatelaw05.TupleErrors', WHERE WHAT IT READS IS OF BULK AT MOST 1048576: true; the input reads as it did. -/
def tupleErrorsUptoRow : OpenClaim := { program := "ytojoaidnkljcpaadoor", sum := "d2d5f0949b09b038c0b559a176cf66946eead47c4867e10d7a98093d2f91b4a2", func := "lychgate/lychgatelaw05.TupleErrors", spec := "tupleErrors", unfollowed := true, recurses := true, named := ["lychgate/ctrl.beginnings"], apart := false, laid := [("lychgate/ctrl.beginnings", laid_lychgate_ctrl_beginnings)], narrowed := true }
def TupleErrorsUptoSaid : Prop := tupleErrorsUptoRow.holds Tryd.pinned (OpenSpec.upto tupleErrorsSpec)

end Rows
end Go.Proofs.YtojoaidnkljcpaaDoor
