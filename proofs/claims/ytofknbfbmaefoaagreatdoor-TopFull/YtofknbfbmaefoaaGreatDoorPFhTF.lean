import Derived.Test.YtofknbfbmaefoaaGreatDoorRows
import Derived.Test.YtofknbfbmaefoaaGreatDoorChecked
import Derived.JoinedCond
import Derived.ShutString
namespace Go.Proofs.YtofknbfbmaefoaaGreatDoor
open Go.RowKit
set_option maxRecDepth 100000
theorem topFull_fk22 : ((Rows.topFullRow.plainKeys == Tryz.pinned.checked.prog.plainKeys)) = true := by kernel_rfl
theorem topFull_fk23 : (Rows.topFullRow.shortTexts.isNone) = true := by kernel_rfl
theorem topFull_fk24 : (Tryz.pinned.checked.prog.stopsHeard) = true := by kernel_rfl
theorem topFull_fk25 : (Tryz.pinned.checked.prog.mayEnter) = true := by kernel_rfl
theorem topFull_fk26 : ((Rows.topFullRow.lifted == Tryz.pinned.checked.prog.liftsFinal)) = true := by kernel_rfl
theorem topFull_fk27 : ((Tryz.pinned.checked.prog.make == some Rows.topFullRow.make)) = true := by kernel_rfl
theorem topFull_fk28 : ((Rows.topFullRow.kinds == (if Rows.topFullRow.domain.isEmpty then [] else Tryz.f4.params.toList.map fun t => match Tryz.pinned.checked.prog.underlying t with | some (.int k) => some k | _ => none))) = true := by kernel_rfl
theorem topFull_fk29 : ((Rows.topFullRow.pinned == Rows.topFullRow.pinnedBy)) = true := by kernel_rfl
theorem topFull_fk30 : ((Rows.topFullRow.veiled == (Tryz.f4.params.toList ++ (OpenSpec.ofChange Rows.topFullSpec).bare.plain.varTypes Tryz.pinned.checked.prog ++ Tryz.f4.resultTypes.toList).any (Tryz.pinned.checked.prog.veiledRec ·))) = true := by kernel_rfl
theorem topFull_fk31 : (Rows.topFullRow.veiledFits Tryz.pinned.checked.prog Tryz.f4.params.toList (Tryz.f4.params.toList ++ (OpenSpec.ofChange Rows.topFullSpec).bare.plain.varTypes Tryz.pinned.checked.prog ++ Tryz.f4.resultTypes.toList)) = true := by kernel_rfl
end Go.Proofs.YtofknbfbmaefoaaGreatDoor
