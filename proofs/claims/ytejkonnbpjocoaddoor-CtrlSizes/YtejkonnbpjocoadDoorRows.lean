/-
  NARROWER THAN 'FOR EVERY INPUT', by the rows' own cells (each row's printed sentence says how): CtrlSizes: laid · CtrlSame: laid.
  DERIVED. THE GIVEN ROWS OF THIS SEAT. 2 by the template 'for every input the law returns true; each argument reads behind the call as it read before'; 0 by the template 'total and deterministic' (their statements: YtejkonnbpjocoadDoorTotals.lean).
  GIVEN WITH THE SEED: the statements are not yours to turn. If you find one false, say at which input.
  Laid BY PROGRAM, IN A SANDBOX (cutbox-rows.mjs): the forced cells as the released guide's own fill.sh prints them over the translation c19ee5b87210ed4d… (all of the seat's roots in one cut). By AI agents, Wed Nov 11 2026. No macro, syntax, notation, axiom, sorry.
-/
import Derived.Test.YtejkonnbpjocoadDoorChecked
import GoSem.Claim
import GoSem.ClaimJoined
import GoSem.ClaimMapViews
import Derived.JoinedTies
import Derived.KernelRfl
namespace Go.Proofs.YtejkonnbpjocoadDoor
/- THE CELL 'sum', in the pinned program and in every row, IS THE sha256 OF THE DUMP (.gsa) THAT YtejkonnbpjocoadDoorProg.lean LOADS. Nothing in Lean hashes anything: it is a label: what it is worth is what the hold of that sum in a sandbox is worth. -/
noncomputable def Tryd.pinned : Pinned := { name := "ytejkonnbpjocoaddoor", sum := "c19ee5b87210ed4dec3c704b20a0decd5ab61f9e989444a2584db30b2eb191f7", checked := Tryd.checked }
namespace Rows
def none {H : Type} : Left H := { results := [], args := [] }

/- WHAT THE LISTED PACKAGE-LEVEL VARIABLES READ AS WHEN THE CALL BEGINS. Each datum BY PROGRAM (the guide's laid-datum.mjs) off the statement by which the dump's own 'gosem.cut.vars' lays the variable. In a bare row this is a premise. The card (YtejkonnbpjocoadDoorCards.lean) ties it to the program's text. -/
def laid_lychgate_ctrl_beginnings {H : Type} : DataW H := .agg [.agg [.lit (.int .u8 32), .lit (.int .u8 1), .lit (.int .u8 136), .lit (.int .u8 11)], .agg [.lit (.int .u8 48), .lit (.int .u8 1), .lit (.int .u8 136), .lit (.int .u8 11)], .agg [.lit (.int .u8 32), .lit (.int .u8 129), .lit (.int .u8 136), .lit (.int .u8 11)], .agg [.lit (.int .u8 48), .lit (.int .u8 129), .lit (.int .u8 136), .lit (.int .u8 11)]]

/-- 'lychgatelaw04.CtrlSizes': WHATEVER THE INPUT: true; the input reads as it did. -/
def ctrlSizesSpec : ChangeSpec := { name := "ctrlSizes", fn := fun _ => fun
  | [d1, d2] => { results := [.lit (.bool true)], args := [d1, d2] }
  | _ => none }
def ctrlSizesRow : OpenClaim := { program := "ytejkonnbpjocoaddoor", sum := "c19ee5b87210ed4dec3c704b20a0decd5ab61f9e989444a2584db30b2eb191f7", func := "lychgate/lychgatelaw04.CtrlSizes", spec := "ctrlSizes", unfollowed := true, recurses := true, named := ["lychgate/ctrl.beginnings"], apart := false, laid := [("lychgate/ctrl.beginnings", laid_lychgate_ctrl_beginnings)] }
def CtrlSizesSaid : Prop := ctrlSizesRow.holds Tryd.pinned (OpenSpec.ofChange ctrlSizesSpec)

/-- ITS FALSE NEIGHBOUR: 'it returns false'. Refute it at one input. -/
def ctrlSizesWrong : ChangeSpec := { name := "ctrlSizes", fn := fun _ => fun
  | [d1, d2] => { results := [.lit (.bool false)], args := [d1, d2] }
  | _ => none }
def CtrlSizesWrongFalsely : Prop := ctrlSizesRow.holds Tryd.pinned (OpenSpec.ofChange ctrlSizesWrong)

/-- 'lychgatelaw04.CtrlSame': WHATEVER THE INPUT: true; the input reads as it did. -/
def ctrlSameSpec : ChangeSpec := { name := "ctrlSame", fn := fun _ => fun
  | [d1, d2, d3] => { results := [.lit (.bool true)], args := [d1, d2, d3] }
  | _ => none }
def ctrlSameRow : OpenClaim := { program := "ytejkonnbpjocoaddoor", sum := "c19ee5b87210ed4dec3c704b20a0decd5ab61f9e989444a2584db30b2eb191f7", func := "lychgate/lychgatelaw04.CtrlSame", spec := "ctrlSame", unfollowed := true, recurses := true, named := ["lychgate/ctrl.beginnings"], apart := false, laid := [("lychgate/ctrl.beginnings", laid_lychgate_ctrl_beginnings)] }
def CtrlSameSaid : Prop := ctrlSameRow.holds Tryd.pinned (OpenSpec.ofChange ctrlSameSpec)

/-- ITS FALSE NEIGHBOUR: 'it returns false'. Refute it at one input. -/
def ctrlSameWrong : ChangeSpec := { name := "ctrlSame", fn := fun _ => fun
  | [d1, d2, d3] => { results := [.lit (.bool false)], args := [d1, d2, d3] }
  | _ => none }
def CtrlSameWrongFalsely : Prop := ctrlSameRow.holds Tryd.pinned (OpenSpec.ofChange ctrlSameWrong)

/- THE SECOND FORM. 'bulk': how many values and letters a reading holds, each counted each time it is reached (what is shared counts as often as it is met; a slice's spare places count too). A statement '..UptoSaid' is the law's where the arguments, and the package variables that the reading takes, are together of bulk at most 1048576: NARROWER than '..Said'. Prove '..Said' where nothing that the law and all that it calls make is longer than what came in: it says more and counts as full. Else prove '..UptoSaid'. A law counts once. -/
mutual
def uptoBulk {H : Type} : DataW H → Nat
  | .lit (.string bytes) => bytes.length + 1
  | .lit _ => 1
  | .nil => 1
  | .ptr d => uptoBulk d + 1
  | .slice elems spare => uptoBulkAll elems + uptoBulkAll spare + 1
  | .agg parts => uptoBulkAll parts + 1
  | .iface _ d => uptoBulk d + 1
  | .map entries => uptoBulkEntries entries + 1
  | .held _ => 1
def uptoBulkAll {H : Type} : List (DataW H) → Nat
  | [] => 0
  | d :: r => uptoBulk d + uptoBulkAll r
def uptoBulkEntries {H : Type} : List (Lit × DataW H) → Nat
  | [] => 0
  | x :: r => uptoBulkEntry x + uptoBulkEntries r
def uptoBulkEntry {H : Type} : Lit × DataW H → Nat
  | (.string bytes, d) => bytes.length + uptoBulk d + 1
  | (_, d) => uptoBulk d + 1
 end
def uptoSmall : (H : Type) → List (DataW H) → Bool := fun _ ds => decide (uptoBulkAll ds ≤ 1048576)
def OpenSpec.upto (s : _root_.Go.ChangeSpec) : _root_.Go.OpenSpec := { _root_.Go.OpenSpec.ofChange s with cond := some uptoSmall }

/-- 'lychgatelaw04.CtrlSizes', WHERE WHAT IT READS IS OF BULK AT MOST 1048576: true; the input reads as it did. -/
def ctrlSizesUptoRow : OpenClaim := { program := "ytejkonnbpjocoaddoor", sum := "c19ee5b87210ed4dec3c704b20a0decd5ab61f9e989444a2584db30b2eb191f7", func := "lychgate/lychgatelaw04.CtrlSizes", spec := "ctrlSizes", unfollowed := true, recurses := true, named := ["lychgate/ctrl.beginnings"], apart := false, laid := [("lychgate/ctrl.beginnings", laid_lychgate_ctrl_beginnings)], narrowed := true }
def CtrlSizesUptoSaid : Prop := ctrlSizesUptoRow.holds Tryd.pinned (OpenSpec.upto ctrlSizesSpec)

/-- 'lychgatelaw04.CtrlSame', WHERE WHAT IT READS IS OF BULK AT MOST 1048576: true; the input reads as it did. -/
def ctrlSameUptoRow : OpenClaim := { program := "ytejkonnbpjocoaddoor", sum := "c19ee5b87210ed4dec3c704b20a0decd5ab61f9e989444a2584db30b2eb191f7", func := "lychgate/lychgatelaw04.CtrlSame", spec := "ctrlSame", unfollowed := true, recurses := true, named := ["lychgate/ctrl.beginnings"], apart := false, laid := [("lychgate/ctrl.beginnings", laid_lychgate_ctrl_beginnings)], narrowed := true }
def CtrlSameUptoSaid : Prop := ctrlSameUptoRow.holds Tryd.pinned (OpenSpec.upto ctrlSameSpec)

end Rows
end Go.Proofs.YtejkonnbpjocoadDoor
