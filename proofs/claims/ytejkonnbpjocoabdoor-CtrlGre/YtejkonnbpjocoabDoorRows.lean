/-
  NARROWER THAN 'FOR EVERY INPUT', by the rows' own cells (each row's printed sentence says how): CtrlIcmp: laid · CtrlGre: laid.
  DERIVED. THE GIVEN ROWS OF THIS SEAT. 2 by the template 'for every input the law returns true; each argument reads behind the call as it read before'; 0 by the template 'total and deterministic' (their statements: YtejkonnbpjocoabDoorTotals.lean).
  GIVEN WITH THE SEED: the statements are not yours to turn. If you find one false, say at which input.
  Laid BY PROGRAM, IN A SANDBOX (cutbox-rows.mjs): the forced cells as the released guide's own fill.sh prints them over the translation 73f3f7da296e85a2… (all of the seat's roots in one cut). By AI agents, Wed Nov 11 2026. No macro, syntax, notation, axiom, sorry.
-/
import Derived.Test.YtejkonnbpjocoabDoorChecked
import GoSem.Claim
import GoSem.ClaimJoined
import GoSem.ClaimMapViews
import Derived.JoinedTies
import Derived.KernelRfl
namespace Go.Proofs.YtejkonnbpjocoabDoor
/- THE CELL 'sum', in the pinned program and in every row, IS THE sha256 OF THE DUMP (.gsa) THAT YtejkonnbpjocoabDoorProg.lean LOADS. Nothing in Lean hashes anything: it is a label: what it is worth is what the hold of that sum in a sandbox is worth. -/
noncomputable def Tryd.pinned : Pinned := { name := "ytejkonnbpjocoabdoor", sum := "73f3f7da296e85a22e22debdeb7febf9eb1d54bfb5ee15ecfe38fb4341bdbce3", checked := Tryd.checked }
namespace Rows
def none {H : Type} : Left H := { results := [], args := [] }

/- WHAT THE LISTED PACKAGE-LEVEL VARIABLES READ AS WHEN THE CALL BEGINS. Each datum BY PROGRAM (the guide's laid-datum.mjs) off the statement by which the dump's own 'gosem.cut.vars' lays the variable. In a bare row this is a premise. The card (YtejkonnbpjocoabDoorCards.lean) ties it to the program's text. -/
def laid_lychgate_ctrl_beginnings {H : Type} : DataW H := .agg [.agg [.lit (.int .u8 32), .lit (.int .u8 1), .lit (.int .u8 136), .lit (.int .u8 11)], .agg [.lit (.int .u8 48), .lit (.int .u8 1), .lit (.int .u8 136), .lit (.int .u8 11)], .agg [.lit (.int .u8 32), .lit (.int .u8 129), .lit (.int .u8 136), .lit (.int .u8 11)], .agg [.lit (.int .u8 48), .lit (.int .u8 129), .lit (.int .u8 136), .lit (.int .u8 11)]]

/-- 'lychgatelaw04.CtrlIcmp': WHATEVER THE INPUT: true; the input reads as it did. -/
def ctrlIcmpSpec : ChangeSpec := { name := "ctrlIcmp", fn := fun _ => fun
  | [d] => { results := [.lit (.bool true)], args := [d] }
  | _ => none }
def ctrlIcmpRow : OpenClaim := { program := "ytejkonnbpjocoabdoor", sum := "73f3f7da296e85a22e22debdeb7febf9eb1d54bfb5ee15ecfe38fb4341bdbce3", func := "lychgate/lychgatelaw04.CtrlIcmp", spec := "ctrlIcmp", unfollowed := true, recurses := true, named := ["lychgate/ctrl.beginnings"], apart := false, laid := [("lychgate/ctrl.beginnings", laid_lychgate_ctrl_beginnings)] }
def CtrlIcmpSaid : Prop := ctrlIcmpRow.holds Tryd.pinned (OpenSpec.ofChange ctrlIcmpSpec)

/-- ITS FALSE NEIGHBOUR: 'it returns false'. Refute it at one input. -/
def ctrlIcmpWrong : ChangeSpec := { name := "ctrlIcmp", fn := fun _ => fun
  | [d] => { results := [.lit (.bool false)], args := [d] }
  | _ => none }
def CtrlIcmpWrongFalsely : Prop := ctrlIcmpRow.holds Tryd.pinned (OpenSpec.ofChange ctrlIcmpWrong)

/-- 'lychgatelaw04.CtrlGre': WHATEVER THE INPUT: true; the input reads as it did. -/
def ctrlGreSpec : ChangeSpec := { name := "ctrlGre", fn := fun _ => fun
  | [d] => { results := [.lit (.bool true)], args := [d] }
  | _ => none }
def ctrlGreRow : OpenClaim := { program := "ytejkonnbpjocoabdoor", sum := "73f3f7da296e85a22e22debdeb7febf9eb1d54bfb5ee15ecfe38fb4341bdbce3", func := "lychgate/lychgatelaw04.CtrlGre", spec := "ctrlGre", unfollowed := true, recurses := true, named := ["lychgate/ctrl.beginnings"], apart := false, laid := [("lychgate/ctrl.beginnings", laid_lychgate_ctrl_beginnings)] }
def CtrlGreSaid : Prop := ctrlGreRow.holds Tryd.pinned (OpenSpec.ofChange ctrlGreSpec)

/-- ITS FALSE NEIGHBOUR: 'it returns false'. Refute it at one input. -/
def ctrlGreWrong : ChangeSpec := { name := "ctrlGre", fn := fun _ => fun
  | [d] => { results := [.lit (.bool false)], args := [d] }
  | _ => none }
def CtrlGreWrongFalsely : Prop := ctrlGreRow.holds Tryd.pinned (OpenSpec.ofChange ctrlGreWrong)

/- THE SECOND FORM. 'bulk': how many values and letters a reading holds, each counted each time it is reached (what is shared counts as often as it is met; a slice's spare places count too). A statement '..UptoSaid' is the law's where the arguments, and the package variables that the reading takes, are together of bulk at most 1048576: NARROWER than '..Said'. Prove '..Said' where nothing that the law and all that it calls make is longer than what came in: it says more and counts as full. Else prove '..UptoSaid'. A law counts once. -/
mutual
def uptoBulk {H : Type} : DataW H → Nat
  | .lit (.string bytes) => bytes.length + 1
  | .lit _ => 1
  | .nil => 1
  | .ptr d => uptoBulk d + 1
  | .slice elems spare => uptoBulkAll elems + uptoBulkAll spare + 1
  | .agg parts => uptoBulkAll parts + 1
  | .iface _ d => uptoBulk d + 1
  | .map entries => uptoBulkEntries entries + 1
  | .held _ => 1
def uptoBulkAll {H : Type} : List (DataW H) → Nat
  | [] => 0
  | d :: r => uptoBulk d + uptoBulkAll r
def uptoBulkEntries {H : Type} : List (Lit × DataW H) → Nat
  | [] => 0
  | x :: r => uptoBulkEntry x + uptoBulkEntries r
def uptoBulkEntry {H : Type} : Lit × DataW H → Nat
  | (.string bytes, d) => bytes.length + uptoBulk d + 1
  | (_, d) => uptoBulk d + 1
 end
def uptoSmall : (H : Type) → List (DataW H) → Bool := fun _ ds => decide (uptoBulkAll ds ≤ 1048576)
def OpenSpec.upto (s : _root_.Go.ChangeSpec) : _root_.Go.OpenSpec := { _root_.Go.OpenSpec.ofChange s with cond := some uptoSmall }

/-- 'lychgatelaw04.CtrlIcmp', WHERE WHAT IT READS IS OF BULK AT MOST 1048576: true; the input reads as it did. -/
def ctrlIcmpUptoRow : OpenClaim := { program := "ytejkonnbpjocoabdoor", sum := "73f3f7da296e85a22e22debdeb7febf9eb1d54bfb5ee15ecfe38fb4341bdbce3", func := "lychgate/lychgatelaw04.CtrlIcmp", spec := "ctrlIcmp", unfollowed := true, recurses := true, named := ["lychgate/ctrl.beginnings"], apart := false, laid := [("lychgate/ctrl.beginnings", laid_lychgate_ctrl_beginnings)], narrowed := true }
def CtrlIcmpUptoSaid : Prop := ctrlIcmpUptoRow.holds Tryd.pinned (OpenSpec.upto ctrlIcmpSpec)

/-- 'lychgatelaw04.CtrlGre', WHERE WHAT IT READS IS OF BULK AT MOST 1048576: true; the input reads as it did. -/
def ctrlGreUptoRow : OpenClaim := { program := "ytejkonnbpjocoabdoor", sum := "73f3f7da296e85a22e22debdeb7febf9eb1d54bfb5ee15ecfe38fb4341bdbce3", func := "lychgate/lychgatelaw04.CtrlGre", spec := "ctrlGre", unfollowed := true, recurses := true, named := ["lychgate/ctrl.beginnings"], apart := false, laid := [("lychgate/ctrl.beginnings", laid_lychgate_ctrl_beginnings)], narrowed := true }
def CtrlGreUptoSaid : Prop := ctrlGreUptoRow.holds Tryd.pinned (OpenSpec.upto ctrlGreSpec)

end Rows
end Go.Proofs.YtejkonnbpjocoabDoor
