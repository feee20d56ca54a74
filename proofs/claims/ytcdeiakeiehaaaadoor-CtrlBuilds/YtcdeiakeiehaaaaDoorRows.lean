/-
  NARROWER THAN 'FOR EVERY INPUT', by the rows' own cells (each row's printed sentence says how): CtrlBuilds: laid · CtrlBack: laid · CtrlSizes: laid.
  DERIVED. THE GIVEN ROWS OF THIS SEAT. 3 by the template 'for every input the law returns true; each argument reads behind the call as it read before'; 0 by the template 'total and deterministic' (their statements: YtcdeiakeiehaaaaDoorTotals.lean).
  GIVEN WITH THE SEED: the statements are not yours to turn. If you find one false, say at which input.
  Laid BY PROGRAM, IN A SANDBOX (cutbox-rows.mjs): the forced cells as the released guide's own fill.sh prints them over the translation 2ceead57f361ead4… (all of the seat's roots in one cut). By AI agents, Wed Nov 11 2026. No macro, syntax, notation, axiom, sorry.
-/
import Derived.Test.YtcdeiakeiehaaaaDoorChecked
import GoSem.Claim
import GoSem.ClaimJoined
import GoSem.ClaimMapViews
import Derived.JoinedTies
import Derived.KernelRfl
namespace Go.Proofs.YtcdeiakeiehaaaaDoor
/- THE CELL 'sum', in the pinned program and in every row, IS THE sha256 OF THE DUMP (.gsa) THAT YtcdeiakeiehaaaaDoorProg.lean LOADS. Nothing in Lean hashes anything: it is a label: what it is worth is what the hold of that sum in a sandbox is worth. -/
noncomputable def Tryd.pinned : Pinned := { name := "ytcdeiakeiehaaaadoor", sum := "2ceead57f361ead4bddc6cee21638c9c7d056d8acde747d630b91f2b88ddd981", checked := Tryd.checked }
namespace Rows
def none {H : Type} : Left H := { results := [], args := [] }

/- WHAT THE LISTED PACKAGE-LEVEL VARIABLES READ AS WHEN THE CALL BEGINS. Each datum BY PROGRAM (the guide's laid-datum.mjs) off the statement by which the dump's own 'gosem.cut.vars' lays the variable. In a bare row this is a premise. The card (YtcdeiakeiehaaaaDoorCards.lean) ties it to the program's text. -/
def laid_lychgate_ctrl_beginnings {H : Type} : DataW H := .agg [.agg [.lit (.int .u8 32), .lit (.int .u8 1), .lit (.int .u8 136), .lit (.int .u8 11)], .agg [.lit (.int .u8 48), .lit (.int .u8 1), .lit (.int .u8 136), .lit (.int .u8 11)], .agg [.lit (.int .u8 32), .lit (.int .u8 129), .lit (.int .u8 136), .lit (.int .u8 11)], .agg [.lit (.int .u8 48), .lit (.int .u8 129), .lit (.int .u8 136), .lit (.int .u8 11)]]

/-- 'lychgatelaw04.CtrlBuilds': WHATEVER THE INPUT: true; the input reads as it did. -/
def ctrlBuildsSpec : ChangeSpec := { name := "ctrlBuilds", fn := fun _ => fun
  | [d1, d2, d3] => { results := [.lit (.bool true)], args := [d1, d2, d3] }
  | _ => none }
def ctrlBuildsRow : OpenClaim := { program := "ytcdeiakeiehaaaadoor", sum := "2ceead57f361ead4bddc6cee21638c9c7d056d8acde747d630b91f2b88ddd981", func := "lychgate/lychgatelaw04.CtrlBuilds", spec := "ctrlBuilds", unfollowed := true, recurses := true, named := ["lychgate/ctrl.beginnings"], apart := false, laid := [("lychgate/ctrl.beginnings", laid_lychgate_ctrl_beginnings)] }
def CtrlBuildsSaid : Prop := ctrlBuildsRow.holds Tryd.pinned (OpenSpec.ofChange ctrlBuildsSpec)

/-- ITS FALSE NEIGHBOUR: 'it returns false'. Refute it at one input. -/
def ctrlBuildsWrong : ChangeSpec := { name := "ctrlBuilds", fn := fun _ => fun
  | [d1, d2, d3] => { results := [.lit (.bool false)], args := [d1, d2, d3] }
  | _ => none }
def CtrlBuildsWrongFalsely : Prop := ctrlBuildsRow.holds Tryd.pinned (OpenSpec.ofChange ctrlBuildsWrong)

/-- 'lychgatelaw04.CtrlBack': WHATEVER THE INPUT: true; the input reads as it did. -/
def ctrlBackSpec : ChangeSpec := { name := "ctrlBack", fn := fun _ => fun
  | [d1, d2, d3] => { results := [.lit (.bool true)], args := [d1, d2, d3] }
  | _ => none }
def ctrlBackRow : OpenClaim := { program := "ytcdeiakeiehaaaadoor", sum := "2ceead57f361ead4bddc6cee21638c9c7d056d8acde747d630b91f2b88ddd981", func := "lychgate/lychgatelaw04.CtrlBack", spec := "ctrlBack", unfollowed := true, recurses := true, named := ["lychgate/ctrl.beginnings"], apart := false, laid := [("lychgate/ctrl.beginnings", laid_lychgate_ctrl_beginnings)] }
def CtrlBackSaid : Prop := ctrlBackRow.holds Tryd.pinned (OpenSpec.ofChange ctrlBackSpec)

/-- ITS FALSE NEIGHBOUR: 'it returns false'. Refute it at one input. -/
def ctrlBackWrong : ChangeSpec := { name := "ctrlBack", fn := fun _ => fun
  | [d1, d2, d3] => { results := [.lit (.bool false)], args := [d1, d2, d3] }
  | _ => none }
def CtrlBackWrongFalsely : Prop := ctrlBackRow.holds Tryd.pinned (OpenSpec.ofChange ctrlBackWrong)

/-- 'lychgatelaw04.CtrlSizes': WHATEVER THE INPUT: true; the input reads as it did. -/
def ctrlSizesSpec : ChangeSpec := { name := "ctrlSizes", fn := fun _ => fun
  | [d1, d2] => { results := [.lit (.bool true)], args := [d1, d2] }
  | _ => none }
def ctrlSizesRow : OpenClaim := { program := "ytcdeiakeiehaaaadoor", sum := "2ceead57f361ead4bddc6cee21638c9c7d056d8acde747d630b91f2b88ddd981", func := "lychgate/lychgatelaw04.CtrlSizes", spec := "ctrlSizes", unfollowed := true, recurses := true, named := ["lychgate/ctrl.beginnings"], apart := false, laid := [("lychgate/ctrl.beginnings", laid_lychgate_ctrl_beginnings)] }
def CtrlSizesSaid : Prop := ctrlSizesRow.holds Tryd.pinned (OpenSpec.ofChange ctrlSizesSpec)

/-- ITS FALSE NEIGHBOUR: 'it returns false'. Refute it at one input. -/
def ctrlSizesWrong : ChangeSpec := { name := "ctrlSizes", fn := fun _ => fun
  | [d1, d2] => { results := [.lit (.bool false)], args := [d1, d2] }
  | _ => none }
def CtrlSizesWrongFalsely : Prop := ctrlSizesRow.holds Tryd.pinned (OpenSpec.ofChange ctrlSizesWrong)

/- THE SECOND FORM. 'bulk': how many values and letters a reading holds, each counted each time it is reached (what is shared counts as often as it is met; a slice's spare places count too). A statement '..UptoSaid' is the law's where the arguments, and the package variables that the reading takes, are together of bulk at most 1048576: NARROWER than '..Said'. Prove '..Said' where nothing that the law and all that it calls make is longer than what came in: it says more and counts as full. Else prove '..UptoSaid'. A law counts once. -/
mutual
def uptoBulk {H : Type} : DataW H → Nat
  | .lit (.string bytes) => bytes.length + 1
  | .lit _ => 1
  | .nil => 1
  | .ptr d => uptoBulk d + 1
  | .slice elems spare => uptoBulkAll elems + uptoBulkAll spare + 1
  | .agg parts => uptoBulkAll parts + 1
  | .iface _ d => uptoBulk d + 1
  | .map entries => uptoBulkEntries entries + 1
  | .held _ => 1
def uptoBulkAll {H : Type} : List (DataW H) → Nat
  | [] => 0
  | d :: r => uptoBulk d + uptoBulkAll r
def uptoBulkEntries {H : Type} : List (Lit × DataW H) → Nat
  | [] => 0
  | x :: r => uptoBulkEntry x + uptoBulkEntries r
def uptoBulkEntry {H : Type} : Lit × DataW H → Nat
  | (.string bytes, d) => bytes.length + uptoBulk d + 1
  | (_, d) => uptoBulk d + 1
 end
def uptoSmall : (H : Type) → List (DataW H) → Bool := fun _ ds => decide (uptoBulkAll ds ≤ 1048576)
def OpenSpec.upto (s : _root_.Go.ChangeSpec) : _root_.Go.OpenSpec := { _root_.Go.OpenSpec.ofChange s with cond := some uptoSmall }

/-- 'lychgatelaw04.CtrlBuilds', WHERE WHAT IT READS IS OF BULK AT MOST 1048576: true; the input reads as it did. -/
def ctrlBuildsUptoRow : OpenClaim := { program := "ytcdeiakeiehaaaadoor", sum := "2ceead57f361ead4bddc6cee21638c9c7d056d8acde747d630b91f2b88ddd981", func := "lychgate/lychgatelaw04.CtrlBuilds", spec := "ctrlBuilds", unfollowed := true, recurses := true, named := ["lychgate/ctrl.beginnings"], apart := false, laid := [("lychgate/ctrl.beginnings", laid_lychgate_ctrl_beginnings)], narrowed := true }
def CtrlBuildsUptoSaid : Prop := ctrlBuildsUptoRow.holds Tryd.pinned (OpenSpec.upto ctrlBuildsSpec)

/-- 'lychgatelaw04.CtrlBack', WHERE WHAT IT READS IS OF BULK AT MOST 1048576: true; the input reads as it did. -/
def ctrlBackUptoRow : OpenClaim := { program := "ytcdeiakeiehaaaadoor", sum := "2ceead57f361ead4bddc6cee21638c9c7d056d8acde747d630b91f2b88ddd981", func := "lychgate/lychgatelaw04.CtrlBack", spec := "ctrlBack", unfollowed := true, recurses := true, named := ["lychgate/ctrl.beginnings"], apart := false, laid := [("lychgate/ctrl.beginnings", laid_lychgate_ctrl_beginnings)], narrowed := true }
def CtrlBackUptoSaid : Prop := ctrlBackUptoRow.holds Tryd.pinned (OpenSpec.upto ctrlBackSpec)

/-- 'lychgatelaw04.CtrlSizes', WHERE WHAT IT READS IS OF BULK AT MOST 1048576: true; the input reads as it did. -/
def ctrlSizesUptoRow : OpenClaim := { program := "ytcdeiakeiehaaaadoor", sum := "2ceead57f361ead4bddc6cee21638c9c7d056d8acde747d630b91f2b88ddd981", func := "lychgate/lychgatelaw04.CtrlSizes", spec := "ctrlSizes", unfollowed := true, recurses := true, named := ["lychgate/ctrl.beginnings"], apart := false, laid := [("lychgate/ctrl.beginnings", laid_lychgate_ctrl_beginnings)], narrowed := true }
def CtrlSizesUptoSaid : Prop := ctrlSizesUptoRow.holds Tryd.pinned (OpenSpec.upto ctrlSizesSpec)

end Rows
end Go.Proofs.YtcdeiakeiehaaaaDoor
