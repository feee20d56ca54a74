/- Closed facts of the row of TopUncalled. -/
import Derived.Test.YtohflohdbkamnaaGreatDoorRows
import Derived.Test.YtohflohdbkamnaaGreatDoorChecked
import Derived.JoinedCond
import Derived.ShutString
namespace Go.Proofs.YtohflohdbkamnaaGreatDoor
open Go.RowKit
set_option maxRecDepth 100000

theorem topUncalled_fk22 : ((Rows.topUncalledRow.plainKeys == Tryz.pinned.checked.prog.plainKeys)) = true := by kernel_rfl

theorem topUncalled_fk23 : (Rows.topUncalledRow.shortTexts.isNone) = true := by kernel_rfl

theorem topUncalled_fk24 : (Tryz.pinned.checked.prog.stopsHeard) = true := by kernel_rfl

theorem topUncalled_fk25 : (Tryz.pinned.checked.prog.mayEnter) = true := by kernel_rfl

theorem topUncalled_fk26 : ((Rows.topUncalledRow.lifted == Tryz.pinned.checked.prog.liftsFinal)) = true := by kernel_rfl

theorem topUncalled_fk27 : ((Tryz.pinned.checked.prog.make == some Rows.topUncalledRow.make)) = true := by kernel_rfl

theorem topUncalled_fk28 : ((Rows.topUncalledRow.kinds == (if Rows.topUncalledRow.domain.isEmpty then [] else Tryz.f5.params.toList.map fun t => match Tryz.pinned.checked.prog.underlying t with | some (.int k) => some k | _ => none))) = true := by kernel_rfl

theorem topUncalled_fk29 : ((Rows.topUncalledRow.pinned == Rows.topUncalledRow.pinnedBy)) = true := by kernel_rfl

theorem topUncalled_fk30 : ((Rows.topUncalledRow.veiled == (Tryz.f5.params.toList ++ (OpenSpec.ofChange Rows.topUncalledSpec).bare.plain.varTypes Tryz.pinned.checked.prog ++ Tryz.f5.resultTypes.toList).any (Tryz.pinned.checked.prog.veiledRec ·))) = true := by kernel_rfl

theorem topUncalled_fk31 : (Rows.topUncalledRow.veiledFits Tryz.pinned.checked.prog Tryz.f5.params.toList (Tryz.f5.params.toList ++ (OpenSpec.ofChange Rows.topUncalledSpec).bare.plain.varTypes Tryz.pinned.checked.prog ++ Tryz.f5.resultTypes.toList)) = true := by kernel_rfl

end Go.Proofs.YtohflohdbkamnaaGreatDoor
