import Derived.Test.YtofknbfbmaefoaaGreatDoorRows
import Derived.Test.YtofknbfbmaefoaaGreatDoorChecked
import Derived.JoinedCond
import Derived.ShutString
namespace Go.Proofs.YtofknbfbmaefoaaGreatDoor
open Go.RowKit
set_option maxRecDepth 100000
theorem topUnreached_fk13 : ((Rows.topUnreachedRow.maps == (Tryz.f5.params.toList ++ (OpenSpec.ofChange Rows.topUnreachedSpec).bare.plain.varTypes Tryz.pinned.checked.prog).any (Tryz.pinned.checked.prog.mapsRec ·))) = true := by kernel_rfl
theorem topUnreached_fk14 : ((Rows.topUnreachedRow.ifaces == (Tryz.f5.params.toList ++ (OpenSpec.ofChange Rows.topUnreachedSpec).bare.plain.varTypes Tryz.pinned.checked.prog).any (Tryz.pinned.checked.prog.ifacesRec ·))) = true := by kernel_rfl
theorem topUnreached_fk15 : ((Rows.topUnreachedRow.mapsOut == Tryz.pinned.checked.prog.mapsAmong Tryz.f5.resultTypes.toList)) = true := by kernel_rfl
theorem topUnreached_fk16 : ((Rows.topUnreachedRow.loops == (Tryz.f5.params.toList ++ (OpenSpec.ofChange Rows.topUnreachedSpec).bare.plain.varTypes Tryz.pinned.checked.prog).any (Tryz.pinned.checked.prog.loopsFrom ·))) = true := by kernel_rfl
theorem topUnreached_fk17 : ((Rows.topUnreachedRow.wideKeys == (Tryz.f5.params.toList ++ (OpenSpec.ofChange Rows.topUnreachedSpec).bare.plain.varTypes Tryz.pinned.checked.prog ++ Tryz.f5.resultTypes.toList).any (Tryz.pinned.checked.prog.wideKeysFrom ·))) = true := by kernel_rfl
theorem topUnreached_fk18 : ((OpenSpec.ofChange Rows.topUnreachedSpec).bare.vars.all (Tryz.pinned.checked.prog.varReadable ·)) = true := by kernel_rfl
theorem topUnreached_fk19 : (Tryz.f5.resultTypes.all (fun t => Tryz.pinned.checked.prog.readableRec t && decide (t < Tryz.pinned.checked.prog.types.size))) = true := by kernel_rfl
theorem topUnreached_fk20 : ((Rows.topUnreachedRow.ifacesOut == Tryz.f5.resultTypes.toList.any (Tryz.pinned.checked.prog.ifacesRec ·))) = true := by kernel_rfl
theorem topUnreached_fk21 : ((Rows.topUnreachedRow.loopsOut == Tryz.f5.resultTypes.toList.any (Tryz.pinned.checked.prog.loopsFrom ·))) = true := by kernel_rfl
end Go.Proofs.YtofknbfbmaefoaaGreatDoor
