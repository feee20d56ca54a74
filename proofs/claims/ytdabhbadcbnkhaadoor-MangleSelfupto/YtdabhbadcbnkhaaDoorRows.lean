/-
  NARROWER THAN 'FOR EVERY INPUT', by the rows' own cells (each row's printed sentence says how): MangleTuple: laid · MangleSelf: laid · MangleBack: laid.
  DERIVED. THE GIVEN ROWS OF THIS SEAT. 3 by the template 'for every input the law returns true; each argument reads behind the call as it read before'; 0 by the template 'total and deterministic' (their statements: YtdabhbadcbnkhaaDoorTotals.lean).
  GIVEN WITH THE SEED: the statements are not yours to turn. If you find one false, say at which input.
  Laid BY PROGRAM, IN A SANDBOX (cutbox-rows.mjs): the forced cells as the released guide's own fill.sh prints them over the translation ab0d00c45c082594… (all of the seat's roots in one cut). By AI agents, Wed Nov 11 2026. No macro, syntax, notation, axiom, sorry.
-/
import Derived.Test.YtdabhbadcbnkhaaDoorChecked
import GoSem.Claim
import GoSem.ClaimJoined
import GoSem.ClaimMapViews
import Derived.JoinedTies
import Derived.KernelRfl
namespace Go.Proofs.YtdabhbadcbnkhaaDoor
/- THE CELL 'sum', in the pinned program and in every row, IS THE sha256 OF THE DUMP (.gsa) THAT YtdabhbadcbnkhaaDoorProg.lean LOADS. Nothing in Lean hashes anything: it is a label: what it is worth is what the hold of that sum in a sandbox is worth. -/
noncomputable def Tryd.pinned : Pinned := { name := "ytdabhbadcbnkhaadoor", sum := "ab0d00c45c08259472968db49ce5399a9b5cde8d9253d4768b3126fb8e680354", checked := Tryd.checked }
namespace Rows
def none {H : Type} : Left H := { results := [], args := [] }

/- WHAT THE LISTED PACKAGE-LEVEL VARIABLES READ AS WHEN THE CALL BEGINS. Each datum BY PROGRAM (the guide's laid-datum.mjs) off the statement by which the dump's own 'gosem.cut.vars' lays the variable. In a bare row this is a premise. The card (YtdabhbadcbnkhaaDoorCards.lean) ties it to the program's text. -/
def laid_lychgate_ctrl_beginnings {H : Type} : DataW H := .agg [.agg [.lit (.int .u8 32), .lit (.int .u8 1), .lit (.int .u8 136), .lit (.int .u8 11)], .agg [.lit (.int .u8 48), .lit (.int .u8 1), .lit (.int .u8 136), .lit (.int .u8 11)], .agg [.lit (.int .u8 32), .lit (.int .u8 129), .lit (.int .u8 136), .lit (.int .u8 11)], .agg [.lit (.int .u8 48), .lit (.int .u8 129), .lit (.int .u8 136), .lit (.int .u8 11)]]

/-- 'lychgatelaw10.MangleTuple': WHATEVER THE INPUT: true; the input reads as it did. -/
def mangleTupleSpec : ChangeSpec := { name := "mangleTuple", fn := fun _ => fun
  | [d1, d2] => { results := [.lit (.bool true)], args := [d1, d2] }
  | _ => none }
def mangleTupleRow : OpenClaim := { program := "ytdabhbadcbnkhaadoor", sum := "ab0d00c45c08259472968db49ce5399a9b5cde8d9253d4768b3126fb8e680354", func := "lychgate/lychgatelaw10.MangleTuple", spec := "mangleTuple", unfollowed := true, recurses := true, named := ["lychgate/ctrl.beginnings"], apart := false, laid := [("lychgate/ctrl.beginnings", laid_lychgate_ctrl_beginnings)] }
def MangleTupleSaid : Prop := mangleTupleRow.holds Tryd.pinned (OpenSpec.ofChange mangleTupleSpec)

/-- ITS FALSE NEIGHBOUR: 'it returns false'. Refute it at one input. -/
def mangleTupleWrong : ChangeSpec := { name := "mangleTuple", fn := fun _ => fun
  | [d1, d2] => { results := [.lit (.bool false)], args := [d1, d2] }
  | _ => none }
def MangleTupleWrongFalsely : Prop := mangleTupleRow.holds Tryd.pinned (OpenSpec.ofChange mangleTupleWrong)

/-- 'lychgatelaw10.MangleSelf': WHATEVER THE INPUT: true; the input reads as it did. -/
def mangleSelfSpec : ChangeSpec := { name := "mangleSelf", fn := fun _ => fun
  | [d] => { results := [.lit (.bool true)], args := [d] }
  | _ => none }
def mangleSelfRow : OpenClaim := { program := "ytdabhbadcbnkhaadoor", sum := "ab0d00c45c08259472968db49ce5399a9b5cde8d9253d4768b3126fb8e680354", func := "lychgate/lychgatelaw10.MangleSelf", spec := "mangleSelf", unfollowed := true, recurses := true, named := ["lychgate/ctrl.beginnings"], apart := false, laid := [("lychgate/ctrl.beginnings", laid_lychgate_ctrl_beginnings)] }
def MangleSelfSaid : Prop := mangleSelfRow.holds Tryd.pinned (OpenSpec.ofChange mangleSelfSpec)

/-- ITS FALSE NEIGHBOUR: 'it returns false'. Refute it at one input. -/
def mangleSelfWrong : ChangeSpec := { name := "mangleSelf", fn := fun _ => fun
  | [d] => { results := [.lit (.bool false)], args := [d] }
  | _ => none }
def MangleSelfWrongFalsely : Prop := mangleSelfRow.holds Tryd.pinned (OpenSpec.ofChange mangleSelfWrong)

/-- 'lychgatelaw10.MangleBack': WHATEVER THE INPUT: true; the input reads as it did. -/
def mangleBackSpec : ChangeSpec := { name := "mangleBack", fn := fun _ => fun
  | [d1, d2] => { results := [.lit (.bool true)], args := [d1, d2] }
  | _ => none }
def mangleBackRow : OpenClaim := { program := "ytdabhbadcbnkhaadoor", sum := "ab0d00c45c08259472968db49ce5399a9b5cde8d9253d4768b3126fb8e680354", func := "lychgate/lychgatelaw10.MangleBack", spec := "mangleBack", unfollowed := true, recurses := true, named := ["lychgate/ctrl.beginnings"], apart := false, laid := [("lychgate/ctrl.beginnings", laid_lychgate_ctrl_beginnings)] }
def MangleBackSaid : Prop := mangleBackRow.holds Tryd.pinned (OpenSpec.ofChange mangleBackSpec)

/-- ITS FALSE NEIGHBOUR: 'it returns false'. Refute it at one input. -/
def mangleBackWrong : ChangeSpec := { name := "mangleBack", fn := fun _ => fun
  | [d1, d2] => { results := [.lit (.bool false)], args := [d1, d2] }
  | _ => none }
def MangleBackWrongFalsely : Prop := mangleBackRow.holds Tryd.pinned (OpenSpec.ofChange mangleBackWrong)

/- THE SECOND FORM. 'bulk': how many values and letters a reading holds, each counted each time it is reached (what is shared counts as often as it is met; a slice's spare places count too). A statement '..UptoSaid' is the law's where the arguments, and the package variables that the reading takes, are together of bulk at most 1048576: NARROWER than '..Said'. Prove '..Said' where nothing that the law and all that it calls make is longer than what came in: it says more and counts as full. Else prove '..UptoSaid'. A law counts once. -/
mutual
def uptoBulk {H : Type} : DataW H → Nat
  | .lit (.string bytes) => bytes.length + 1
  | .lit _ => 1
  | .nil => 1
  | .ptr d => uptoBulk d + 1
  | .slice elems spare => uptoBulkAll elems + uptoBulkAll spare + 1
  | .agg parts => uptoBulkAll parts + 1
  | .iface _ d => uptoBulk d + 1
  | .map entries => uptoBulkEntries entries + 1
  | .held _ => 1
def uptoBulkAll {H : Type} : List (DataW H) → Nat
  | [] => 0
  | d :: r => uptoBulk d + uptoBulkAll r
def uptoBulkEntries {H : Type} : List (Lit × DataW H) → Nat
  | [] => 0
  | x :: r => uptoBulkEntry x + uptoBulkEntries r
def uptoBulkEntry {H : Type} : Lit × DataW H → Nat
  | (.string bytes, d) => bytes.length + uptoBulk d + 1
  | (_, d) => uptoBulk d + 1
 end
def uptoSmall : (H : Type) → List (DataW H) → Bool := fun _ ds => decide (uptoBulkAll ds ≤ 1048576)
def OpenSpec.upto (s : _root_.Go.ChangeSpec) : _root_.Go.OpenSpec := { _root_.Go.OpenSpec.ofChange s with cond := some uptoSmall }

/-- 'lychgatelaw10.MangleTuple', WHERE WHAT IT READS IS OF BULK AT MOST 1048576: true; the input reads as it did. -/
def mangleTupleUptoRow : OpenClaim := { program := "ytdabhbadcbnkhaadoor", sum := "ab0d00c45c08259472968db49ce5399a9b5cde8d9253d4768b3126fb8e680354", func := "lychgate/lychgatelaw10.MangleTuple", spec := "mangleTuple", unfollowed := true, recurses := true, named := ["lychgate/ctrl.beginnings"], apart := false, laid := [("lychgate/ctrl.beginnings", laid_lychgate_ctrl_beginnings)], narrowed := true }
def MangleTupleUptoSaid : Prop := mangleTupleUptoRow.holds Tryd.pinned (OpenSpec.upto mangleTupleSpec)

/-- 'lychgatelaw10.MangleSelf', WHERE WHAT IT READS IS OF BULK AT MOST 1048576: true; the input reads as it did. -/
def mangleSelfUptoRow : OpenClaim := { program := "ytdabhbadcbnkhaadoor", sum := "ab0d00c45c08259472968db49ce5399a9b5cde8d9253d4768b3126fb8e680354", func := "lychgate/lychgatelaw10.MangleSelf", spec := "mangleSelf", unfollowed := true, recurses := true, named := ["lychgate/ctrl.beginnings"], apart := false, laid := [("lychgate/ctrl.beginnings", laid_lychgate_ctrl_beginnings)], narrowed := true }
def MangleSelfUptoSaid : Prop := mangleSelfUptoRow.holds Tryd.pinned (OpenSpec.upto mangleSelfSpec)

/-- 'lychgatelaw10.MangleBack', WHERE WHAT IT READS IS OF BULK AT MOST 1048576: true; the input reads as it did. -/
def mangleBackUptoRow : OpenClaim := { program := "ytdabhbadcbnkhaadoor", sum := "ab0d00c45c08259472968db49ce5399a9b5cde8d9253d4768b3126fb8e680354", func := "lychgate/lychgatelaw10.MangleBack", spec := "mangleBack", unfollowed := true, recurses := true, named := ["lychgate/ctrl.beginnings"], apart := false, laid := [("lychgate/ctrl.beginnings", laid_lychgate_ctrl_beginnings)], narrowed := true }
def MangleBackUptoSaid : Prop := mangleBackUptoRow.holds Tryd.pinned (OpenSpec.upto mangleBackSpec)

end Rows
end Go.Proofs.YtdabhbadcbnkhaaDoor
