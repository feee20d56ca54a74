/-
  NARROWER THAN 'FOR EVERY INPUT', by the rows' own cells (each row's printed sentence says how): CtrlBuilds: laid · CtrlBack: laid · CtrlKinds: laid · CtrlFlips: laid · CtrlCuts: laid · CtrlOthers: laid.
  DERIVED. THE GIVEN ROWS OF THIS SEAT. 6 by the template 'for every input the law returns true; each argument reads behind the call as it read before'; 0 by the template 'total and deterministic' (their statements: YtejkonnbpjocoacDoorTotals.lean).
  GIVEN WITH THE SEED: the statements are not yours to turn. If you find one false, say at which input.
  Laid BY PROGRAM, IN A SANDBOX (cutbox-rows.mjs): the forced cells as the released guide's own fill.sh prints them over the translation 18c26adb5c4d0037… (all of the seat's roots in one cut). By AI agents, Wed Nov 11 2026. No macro, syntax, notation, axiom, sorry.
-/
import Derived.Test.YtejkonnbpjocoacDoorChecked
import GoSem.Claim
import GoSem.ClaimJoined
import GoSem.ClaimMapViews
import Derived.JoinedTies
import Derived.KernelRfl
namespace Go.Proofs.YtejkonnbpjocoacDoor
/- THE CELL 'sum', in the pinned program and in every row, IS THE sha256 OF THE DUMP (.gsa) THAT YtejkonnbpjocoacDoorProg.lean LOADS. Nothing in Lean hashes anything: it is a label: what it is worth is what the hold of that sum in a sandbox is worth. -/
noncomputable def Tryd.pinned : Pinned := { name := "ytejkonnbpjocoacdoor", sum := "18c26adb5c4d00371355bf0fd347ecdbebfde31d2152b6ffcebc6562964ee269", checked := Tryd.checked }
namespace Rows
def none {H : Type} : Left H := { results := [], args := [] }

/- WHAT THE LISTED PACKAGE-LEVEL VARIABLES READ AS WHEN THE CALL BEGINS. Each datum BY PROGRAM (the guide's laid-datum.mjs) off the statement by which the dump's own 'gosem.cut.vars' lays the variable. In a bare row this is a premise. The card (YtejkonnbpjocoacDoorCards.lean) ties it to the program's text. -/
def laid_lychgate_ctrl_beginnings {H : Type} : DataW H := .agg [.agg [.lit (.int .u8 32), .lit (.int .u8 1), .lit (.int .u8 136), .lit (.int .u8 11)], .agg [.lit (.int .u8 48), .lit (.int .u8 1), .lit (.int .u8 136), .lit (.int .u8 11)], .agg [.lit (.int .u8 32), .lit (.int .u8 129), .lit (.int .u8 136), .lit (.int .u8 11)], .agg [.lit (.int .u8 48), .lit (.int .u8 129), .lit (.int .u8 136), .lit (.int .u8 11)]]

/-- 'lychgatelaw04.CtrlBuilds': WHATEVER THE INPUT: true; the input reads as it did. -/
def ctrlBuildsSpec : ChangeSpec := { name := "ctrlBuilds", fn := fun _ => fun
  | [d1, d2, d3] => { results := [.lit (.bool true)], args := [d1, d2, d3] }
  | _ => none }
def ctrlBuildsRow : OpenClaim := { program := "ytejkonnbpjocoacdoor", sum := "18c26adb5c4d00371355bf0fd347ecdbebfde31d2152b6ffcebc6562964ee269", func := "lychgate/lychgatelaw04.CtrlBuilds", spec := "ctrlBuilds", unfollowed := true, recurses := true, named := ["lychgate/ctrl.beginnings"], apart := false, laid := [("lychgate/ctrl.beginnings", laid_lychgate_ctrl_beginnings)] }
def CtrlBuildsSaid : Prop := ctrlBuildsRow.holds Tryd.pinned (OpenSpec.ofChange ctrlBuildsSpec)

/-- ITS FALSE NEIGHBOUR: 'it returns false'. Refute it at one input. -/
def ctrlBuildsWrong : ChangeSpec := { name := "ctrlBuilds", fn := fun _ => fun
  | [d1, d2, d3] => { results := [.lit (.bool false)], args := [d1, d2, d3] }
  | _ => none }
def CtrlBuildsWrongFalsely : Prop := ctrlBuildsRow.holds Tryd.pinned (OpenSpec.ofChange ctrlBuildsWrong)

/-- 'lychgatelaw04.CtrlBack': WHATEVER THE INPUT: true; the input reads as it did. -/
def ctrlBackSpec : ChangeSpec := { name := "ctrlBack", fn := fun _ => fun
  | [d1, d2, d3] => { results := [.lit (.bool true)], args := [d1, d2, d3] }
  | _ => none }
def ctrlBackRow : OpenClaim := { program := "ytejkonnbpjocoacdoor", sum := "18c26adb5c4d00371355bf0fd347ecdbebfde31d2152b6ffcebc6562964ee269", func := "lychgate/lychgatelaw04.CtrlBack", spec := "ctrlBack", unfollowed := true, recurses := true, named := ["lychgate/ctrl.beginnings"], apart := false, laid := [("lychgate/ctrl.beginnings", laid_lychgate_ctrl_beginnings)] }
def CtrlBackSaid : Prop := ctrlBackRow.holds Tryd.pinned (OpenSpec.ofChange ctrlBackSpec)

/-- ITS FALSE NEIGHBOUR: 'it returns false'. Refute it at one input. -/
def ctrlBackWrong : ChangeSpec := { name := "ctrlBack", fn := fun _ => fun
  | [d1, d2, d3] => { results := [.lit (.bool false)], args := [d1, d2, d3] }
  | _ => none }
def CtrlBackWrongFalsely : Prop := ctrlBackRow.holds Tryd.pinned (OpenSpec.ofChange ctrlBackWrong)

/-- 'lychgatelaw04.CtrlKinds': WHATEVER THE INPUT: true; the input reads as it did. -/
def ctrlKindsSpec : ChangeSpec := { name := "ctrlKinds", fn := fun _ => fun
  | [d] => { results := [.lit (.bool true)], args := [d] }
  | _ => none }
def ctrlKindsRow : OpenClaim := { program := "ytejkonnbpjocoacdoor", sum := "18c26adb5c4d00371355bf0fd347ecdbebfde31d2152b6ffcebc6562964ee269", func := "lychgate/lychgatelaw04.CtrlKinds", spec := "ctrlKinds", unfollowed := true, recurses := true, named := ["lychgate/ctrl.beginnings"], apart := false, laid := [("lychgate/ctrl.beginnings", laid_lychgate_ctrl_beginnings)] }
def CtrlKindsSaid : Prop := ctrlKindsRow.holds Tryd.pinned (OpenSpec.ofChange ctrlKindsSpec)

/-- ITS FALSE NEIGHBOUR: 'it returns false'. Refute it at one input. -/
def ctrlKindsWrong : ChangeSpec := { name := "ctrlKinds", fn := fun _ => fun
  | [d] => { results := [.lit (.bool false)], args := [d] }
  | _ => none }
def CtrlKindsWrongFalsely : Prop := ctrlKindsRow.holds Tryd.pinned (OpenSpec.ofChange ctrlKindsWrong)

/-- 'lychgatelaw04.CtrlFlips': WHATEVER THE INPUT: true; the input reads as it did. -/
def ctrlFlipsSpec : ChangeSpec := { name := "ctrlFlips", fn := fun _ => fun
  | [d1, d2, d3] => { results := [.lit (.bool true)], args := [d1, d2, d3] }
  | _ => none }
def ctrlFlipsRow : OpenClaim := { program := "ytejkonnbpjocoacdoor", sum := "18c26adb5c4d00371355bf0fd347ecdbebfde31d2152b6ffcebc6562964ee269", func := "lychgate/lychgatelaw04.CtrlFlips", spec := "ctrlFlips", unfollowed := true, recurses := true, named := ["lychgate/ctrl.beginnings"], apart := false, laid := [("lychgate/ctrl.beginnings", laid_lychgate_ctrl_beginnings)] }
def CtrlFlipsSaid : Prop := ctrlFlipsRow.holds Tryd.pinned (OpenSpec.ofChange ctrlFlipsSpec)

/-- ITS FALSE NEIGHBOUR: 'it returns false'. Refute it at one input. -/
def ctrlFlipsWrong : ChangeSpec := { name := "ctrlFlips", fn := fun _ => fun
  | [d1, d2, d3] => { results := [.lit (.bool false)], args := [d1, d2, d3] }
  | _ => none }
def CtrlFlipsWrongFalsely : Prop := ctrlFlipsRow.holds Tryd.pinned (OpenSpec.ofChange ctrlFlipsWrong)

/-- 'lychgatelaw04.CtrlCuts': WHATEVER THE INPUT: true; the input reads as it did. -/
def ctrlCutsSpec : ChangeSpec := { name := "ctrlCuts", fn := fun _ => fun
  | [d1, d2, d3] => { results := [.lit (.bool true)], args := [d1, d2, d3] }
  | _ => none }
def ctrlCutsRow : OpenClaim := { program := "ytejkonnbpjocoacdoor", sum := "18c26adb5c4d00371355bf0fd347ecdbebfde31d2152b6ffcebc6562964ee269", func := "lychgate/lychgatelaw04.CtrlCuts", spec := "ctrlCuts", unfollowed := true, recurses := true, named := ["lychgate/ctrl.beginnings"], apart := false, laid := [("lychgate/ctrl.beginnings", laid_lychgate_ctrl_beginnings)] }
def CtrlCutsSaid : Prop := ctrlCutsRow.holds Tryd.pinned (OpenSpec.ofChange ctrlCutsSpec)

/-- ITS FALSE NEIGHBOUR: 'it returns false'. Refute it at one input. -/
def ctrlCutsWrong : ChangeSpec := { name := "ctrlCuts", fn := fun _ => fun
  | [d1, d2, d3] => { results := [.lit (.bool false)], args := [d1, d2, d3] }
  | _ => none }
def CtrlCutsWrongFalsely : Prop := ctrlCutsRow.holds Tryd.pinned (OpenSpec.ofChange ctrlCutsWrong)

/-- 'lychgatelaw04.CtrlOthers': WHATEVER THE INPUT: true; the input reads as it did. -/
def ctrlOthersSpec : ChangeSpec := { name := "ctrlOthers", fn := fun _ => fun
  | [d1, d2] => { results := [.lit (.bool true)], args := [d1, d2] }
  | _ => none }
def ctrlOthersRow : OpenClaim := { program := "ytejkonnbpjocoacdoor", sum := "18c26adb5c4d00371355bf0fd347ecdbebfde31d2152b6ffcebc6562964ee269", func := "lychgate/lychgatelaw04.CtrlOthers", spec := "ctrlOthers", unfollowed := true, recurses := true, named := ["lychgate/ctrl.beginnings"], apart := false, laid := [("lychgate/ctrl.beginnings", laid_lychgate_ctrl_beginnings)] }
def CtrlOthersSaid : Prop := ctrlOthersRow.holds Tryd.pinned (OpenSpec.ofChange ctrlOthersSpec)

/-- ITS FALSE NEIGHBOUR: 'it returns false'. Refute it at one input. -/
def ctrlOthersWrong : ChangeSpec := { name := "ctrlOthers", fn := fun _ => fun
  | [d1, d2] => { results := [.lit (.bool false)], args := [d1, d2] }
  | _ => none }
def CtrlOthersWrongFalsely : Prop := ctrlOthersRow.holds Tryd.pinned (OpenSpec.ofChange ctrlOthersWrong)

/- THE SECOND FORM. 'bulk': how many values and letters a reading holds, each counted each time it is reached (what is shared counts as often as it is met; a slice's spare places count too). A statement '..UptoSaid' is the law's where the arguments, and the package variables that the reading takes, are together of bulk at most 1048576: NARROWER than '..Said'. Prove '..Said' where nothing that the law and all that it calls make is longer than what came in: it says more and counts as full. Else prove '..UptoSaid'. A law counts once. -/
mutual
def uptoBulk {H : Type} : DataW H → Nat
  | .lit (.string bytes) => bytes.length + 1
  | .lit _ => 1
  | .nil => 1
  | .ptr d => uptoBulk d + 1
  | .slice elems spare => uptoBulkAll elems + uptoBulkAll spare + 1
  | .agg parts => uptoBulkAll parts + 1
  | .iface _ d => uptoBulk d + 1
  | .map entries => uptoBulkEntries entries + 1
  | .held _ => 1
def uptoBulkAll {H : Type} : List (DataW H) → Nat
  | [] => 0
  | d :: r => uptoBulk d + uptoBulkAll r
def uptoBulkEntries {H : Type} : List (Lit × DataW H) → Nat
  | [] => 0
  | x :: r => uptoBulkEntry x + uptoBulkEntries r
def uptoBulkEntry {H : Type} : Lit × DataW H → Nat
  | (.string bytes, d) => bytes.length + uptoBulk d + 1
  | (_, d) => uptoBulk d + 1
 end
def uptoSmall : (H : Type) → List (DataW H) → Bool := fun _ ds => decide (uptoBulkAll ds ≤ 1048576)
def OpenSpec.upto (s : _root_.Go.ChangeSpec) : _root_.Go.OpenSpec := { _root_.Go.OpenSpec.ofChange s with cond := some uptoSmall }

/-- 'lychgatelaw04.CtrlBuilds', WHERE WHAT IT READS IS OF BULK AT MOST 1048576: true; the input reads as it did. -/
def ctrlBuildsUptoRow : OpenClaim := { program := "ytejkonnbpjocoacdoor", sum := "18c26adb5c4d00371355bf0fd347ecdbebfde31d2152b6ffcebc6562964ee269", func := "lychgate/lychgatelaw04.CtrlBuilds", spec := "ctrlBuilds", unfollowed := true, recurses := true, named := ["lychgate/ctrl.beginnings"], apart := false, laid := [("lychgate/ctrl.beginnings", laid_lychgate_ctrl_beginnings)], narrowed := true }
def CtrlBuildsUptoSaid : Prop := ctrlBuildsUptoRow.holds Tryd.pinned (OpenSpec.upto ctrlBuildsSpec)

/-- 'lychgatelaw04.CtrlBack', WHERE WHAT IT READS IS OF BULK AT MOST 1048576: true; the input reads as it did. -/
def ctrlBackUptoRow : OpenClaim := { program := "ytejkonnbpjocoacdoor", sum := "18c26adb5c4d00371355bf0fd347ecdbebfde31d2152b6ffcebc6562964ee269", func := "lychgate/lychgatelaw04.CtrlBack", spec := "ctrlBack", unfollowed := true, recurses := true, named := ["lychgate/ctrl.beginnings"], apart := false, laid := [("lychgate/ctrl.beginnings", laid_lychgate_ctrl_beginnings)], narrowed := true }
def CtrlBackUptoSaid : Prop := ctrlBackUptoRow.holds Tryd.pinned (OpenSpec.upto ctrlBackSpec)

/-- 'lychgatelaw04.CtrlKinds', WHERE WHAT IT READS IS OF BULK AT MOST 1048576: true; the input reads as it did. -/
def ctrlKindsUptoRow : OpenClaim := { program := "ytejkonnbpjocoacdoor", sum := "18c26adb5c4d00371355bf0fd347ecdbebfde31d2152b6ffcebc6562964ee269", func := "lychgate/lychgatelaw04.CtrlKinds", spec := "ctrlKinds", unfollowed := true, recurses := true, named := ["lychgate/ctrl.beginnings"], apart := false, laid := [("lychgate/ctrl.beginnings", laid_lychgate_ctrl_beginnings)], narrowed := true }
def CtrlKindsUptoSaid : Prop := ctrlKindsUptoRow.holds Tryd.pinned (OpenSpec.upto ctrlKindsSpec)

/-- 'lychgatelaw04.CtrlFlips', WHERE WHAT IT READS IS OF BULK AT MOST 1048576: true; the input reads as it did. -/
def ctrlFlipsUptoRow : OpenClaim := { program := "ytejkonnbpjocoacdoor", sum := "18c26adb5c4d00371355bf0fd347ecdbebfde31d2152b6ffcebc6562964ee269", func := "lychgate/lychgatelaw04.CtrlFlips", spec := "ctrlFlips", unfollowed := true, recurses := true, named := ["lychgate/ctrl.beginnings"], apart := false, laid := [("lychgate/ctrl.beginnings", laid_lychgate_ctrl_beginnings)], narrowed := true }
def CtrlFlipsUptoSaid : Prop := ctrlFlipsUptoRow.holds Tryd.pinned (OpenSpec.upto ctrlFlipsSpec)

/-- 'lychgatelaw04.CtrlCuts', WHERE WHAT IT READS IS OF BULK AT MOST 1048576: true; the input reads as it did. -/
def ctrlCutsUptoRow : OpenClaim := { program := "ytejkonnbpjocoacdoor", sum := "18c26adb5c4d00371355bf0fd347ecdbebfde31d2152b6ffcebc6562964ee269", func := "lychgate/lychgatelaw04.CtrlCuts", spec := "ctrlCuts", unfollowed := true, recurses := true, named := ["lychgate/ctrl.beginnings"], apart := false, laid := [("lychgate/ctrl.beginnings", laid_lychgate_ctrl_beginnings)], narrowed := true }
def CtrlCutsUptoSaid : Prop := ctrlCutsUptoRow.holds Tryd.pinned (OpenSpec.upto ctrlCutsSpec)

/-- 'lychgatelaw04.CtrlOthers', WHERE WHAT IT READS IS OF BULK AT MOST 1048576: true; the input reads as it did. -/
def ctrlOthersUptoRow : OpenClaim := { program := "ytejkonnbpjocoacdoor", sum := "18c26adb5c4d00371355bf0fd347ecdbebfde31d2152b6ffcebc6562964ee269", func := "lychgate/lychgatelaw04.CtrlOthers", spec := "ctrlOthers", unfollowed := true, recurses := true, named := ["lychgate/ctrl.beginnings"], apart := false, laid := [("lychgate/ctrl.beginnings", laid_lychgate_ctrl_beginnings)], narrowed := true }
def CtrlOthersUptoSaid : Prop := ctrlOthersUptoRow.holds Tryd.pinned (OpenSpec.upto ctrlOthersSpec)

end Rows
end Go.Proofs.YtejkonnbpjocoacDoor
