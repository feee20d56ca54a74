import Derived.Test.YtofknbfbmaefoaaGreatDoorRows
import Derived.Test.YtofknbfbmaefoaaGreatDoorChecked
import Derived.JoinedCond
import Derived.ShutString
namespace Go.Proofs.YtofknbfbmaefoaaGreatDoor
open Go.RowKit
set_option maxRecDepth 100000
theorem topFull_fk13 : ((Rows.topFullRow.maps == (Tryz.f4.params.toList ++ (OpenSpec.ofChange Rows.topFullSpec).bare.plain.varTypes Tryz.pinned.checked.prog).any (Tryz.pinned.checked.prog.mapsRec ·))) = true := by kernel_rfl
theorem topFull_fk14 : ((Rows.topFullRow.ifaces == (Tryz.f4.params.toList ++ (OpenSpec.ofChange Rows.topFullSpec).bare.plain.varTypes Tryz.pinned.checked.prog).any (Tryz.pinned.checked.prog.ifacesRec ·))) = true := by kernel_rfl
theorem topFull_fk15 : ((Rows.topFullRow.mapsOut == Tryz.pinned.checked.prog.mapsAmong Tryz.f4.resultTypes.toList)) = true := by kernel_rfl
theorem topFull_fk16 : ((Rows.topFullRow.loops == (Tryz.f4.params.toList ++ (OpenSpec.ofChange Rows.topFullSpec).bare.plain.varTypes Tryz.pinned.checked.prog).any (Tryz.pinned.checked.prog.loopsFrom ·))) = true := by kernel_rfl
theorem topFull_fk17 : ((Rows.topFullRow.wideKeys == (Tryz.f4.params.toList ++ (OpenSpec.ofChange Rows.topFullSpec).bare.plain.varTypes Tryz.pinned.checked.prog ++ Tryz.f4.resultTypes.toList).any (Tryz.pinned.checked.prog.wideKeysFrom ·))) = true := by kernel_rfl
theorem topFull_fk18 : ((OpenSpec.ofChange Rows.topFullSpec).bare.vars.all (Tryz.pinned.checked.prog.varReadable ·)) = true := by kernel_rfl
theorem topFull_fk19 : (Tryz.f4.resultTypes.all (fun t => Tryz.pinned.checked.prog.readableRec t && decide (t < Tryz.pinned.checked.prog.types.size))) = true := by kernel_rfl
theorem topFull_fk20 : ((Rows.topFullRow.ifacesOut == Tryz.f4.resultTypes.toList.any (Tryz.pinned.checked.prog.ifacesRec ·))) = true := by kernel_rfl
theorem topFull_fk21 : ((Rows.topFullRow.loopsOut == Tryz.f4.resultTypes.toList.any (Tryz.pinned.checked.prog.loopsFrom ·))) = true := by kernel_rfl
end Go.Proofs.YtofknbfbmaefoaaGreatDoor
