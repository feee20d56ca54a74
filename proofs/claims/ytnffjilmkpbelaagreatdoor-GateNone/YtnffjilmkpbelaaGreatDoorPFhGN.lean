/- Closed facts of the row of GateNone. -/
import Derived.Test.YtnffjilmkpbelaaGreatDoorRows
import Derived.Test.YtnffjilmkpbelaaGreatDoorChecked
import Derived.JoinedCond
import Derived.ShutString
namespace Go.Proofs.YtnffjilmkpbelaaGreatDoor
open Go.RowKit
set_option maxRecDepth 100000

theorem gateNone_fk22 : ((Rows.gateNoneRow.plainKeys == Tryz.pinned.checked.prog.plainKeys)) = true := by kernel_rfl

theorem gateNone_fk23 : (Rows.gateNoneRow.shortTexts.isNone) = true := by kernel_rfl

theorem gateNone_fk24 : (Tryz.pinned.checked.prog.stopsHeard) = true := by kernel_rfl

theorem gateNone_fk25 : (Tryz.pinned.checked.prog.mayEnter) = true := by kernel_rfl

theorem gateNone_fk26 : ((Rows.gateNoneRow.lifted == Tryz.pinned.checked.prog.liftsFinal)) = true := by kernel_rfl

theorem gateNone_fk27 : ((Tryz.pinned.checked.prog.make == some Rows.gateNoneRow.make)) = true := by kernel_rfl

theorem gateNone_fk28 : ((Rows.gateNoneRow.kinds == (if Rows.gateNoneRow.domain.isEmpty then [] else Tryz.f3.params.toList.map fun t => match Tryz.pinned.checked.prog.underlying t with | some (.int k) => some k | _ => none))) = true := by kernel_rfl

theorem gateNone_fk29 : ((Rows.gateNoneRow.pinned == Rows.gateNoneRow.pinnedBy)) = true := by kernel_rfl

theorem gateNone_fk30 : ((Rows.gateNoneRow.veiled == (Tryz.f3.params.toList ++ (OpenSpec.ofChange Rows.gateNoneSpec).bare.plain.varTypes Tryz.pinned.checked.prog ++ Tryz.f3.resultTypes.toList).any (Tryz.pinned.checked.prog.veiledRec ·))) = true := by kernel_rfl

theorem gateNone_fk31 : (Rows.gateNoneRow.veiledFits Tryz.pinned.checked.prog Tryz.f3.params.toList (Tryz.f3.params.toList ++ (OpenSpec.ofChange Rows.gateNoneSpec).bare.plain.varTypes Tryz.pinned.checked.prog ++ Tryz.f3.resultTypes.toList)) = true := by kernel_rfl

end Go.Proofs.YtnffjilmkpbelaaGreatDoor
