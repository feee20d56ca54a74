import Derived.Test.YtofknbfbmaefoaaGreatDoorRows
import Derived.Test.YtofknbfbmaefoaaGreatDoorChecked
import Derived.JoinedCond
import Derived.ShutString
namespace Go.Proofs.YtofknbfbmaefoaaGreatDoor
open Go.RowKit
set_option maxRecDepth 100000
theorem topUnreached_fk22 : ((Rows.topUnreachedRow.plainKeys == Tryz.pinned.checked.prog.plainKeys)) = true := by kernel_rfl
theorem topUnreached_fk23 : (Rows.topUnreachedRow.shortTexts.isNone) = true := by kernel_rfl
theorem topUnreached_fk24 : (Tryz.pinned.checked.prog.stopsHeard) = true := by kernel_rfl
theorem topUnreached_fk25 : (Tryz.pinned.checked.prog.mayEnter) = true := by kernel_rfl
theorem topUnreached_fk26 : ((Rows.topUnreachedRow.lifted == Tryz.pinned.checked.prog.liftsFinal)) = true := by kernel_rfl
theorem topUnreached_fk27 : ((Tryz.pinned.checked.prog.make == some Rows.topUnreachedRow.make)) = true := by kernel_rfl
theorem topUnreached_fk28 : ((Rows.topUnreachedRow.kinds == (if Rows.topUnreachedRow.domain.isEmpty then [] else Tryz.f5.params.toList.map fun t => match Tryz.pinned.checked.prog.underlying t with | some (.int k) => some k | _ => none))) = true := by kernel_rfl
theorem topUnreached_fk29 : ((Rows.topUnreachedRow.pinned == Rows.topUnreachedRow.pinnedBy)) = true := by kernel_rfl
theorem topUnreached_fk30 : ((Rows.topUnreachedRow.veiled == (Tryz.f5.params.toList ++ (OpenSpec.ofChange Rows.topUnreachedSpec).bare.plain.varTypes Tryz.pinned.checked.prog ++ Tryz.f5.resultTypes.toList).any (Tryz.pinned.checked.prog.veiledRec ·))) = true := by kernel_rfl
theorem topUnreached_fk31 : (Rows.topUnreachedRow.veiledFits Tryz.pinned.checked.prog Tryz.f5.params.toList (Tryz.f5.params.toList ++ (OpenSpec.ofChange Rows.topUnreachedSpec).bare.plain.varTypes Tryz.pinned.checked.prog ++ Tryz.f5.resultTypes.toList)) = true := by kernel_rfl
end Go.Proofs.YtofknbfbmaefoaaGreatDoor
