/- Closed facts of the row of TopUncalled. -/
import Derived.Test.YtohflohdbkamnaaGreatDoorRows
import Derived.Test.YtohflohdbkamnaaGreatDoorChecked
import Derived.JoinedCond
import Derived.ShutString
namespace Go.Proofs.YtohflohdbkamnaaGreatDoor
open Go.RowKit
set_option maxRecDepth 100000

theorem topUncalled_fk13 : ((Rows.topUncalledRow.maps == (Tryz.f5.params.toList ++ (OpenSpec.ofChange Rows.topUncalledSpec).bare.plain.varTypes Tryz.pinned.checked.prog).any (Tryz.pinned.checked.prog.mapsRec ·))) = true := by kernel_rfl

theorem topUncalled_fk14 : ((Rows.topUncalledRow.ifaces == (Tryz.f5.params.toList ++ (OpenSpec.ofChange Rows.topUncalledSpec).bare.plain.varTypes Tryz.pinned.checked.prog).any (Tryz.pinned.checked.prog.ifacesRec ·))) = true := by kernel_rfl

theorem topUncalled_fk15 : ((Rows.topUncalledRow.mapsOut == Tryz.pinned.checked.prog.mapsAmong Tryz.f5.resultTypes.toList)) = true := by kernel_rfl

theorem topUncalled_fk16 : ((Rows.topUncalledRow.loops == (Tryz.f5.params.toList ++ (OpenSpec.ofChange Rows.topUncalledSpec).bare.plain.varTypes Tryz.pinned.checked.prog).any (Tryz.pinned.checked.prog.loopsFrom ·))) = true := by kernel_rfl

theorem topUncalled_fk17 : ((Rows.topUncalledRow.wideKeys == (Tryz.f5.params.toList ++ (OpenSpec.ofChange Rows.topUncalledSpec).bare.plain.varTypes Tryz.pinned.checked.prog ++ Tryz.f5.resultTypes.toList).any (Tryz.pinned.checked.prog.wideKeysFrom ·))) = true := by kernel_rfl

theorem topUncalled_fk18 : ((OpenSpec.ofChange Rows.topUncalledSpec).bare.vars.all (Tryz.pinned.checked.prog.varReadable ·)) = true := by kernel_rfl

theorem topUncalled_fk19 : (Tryz.f5.resultTypes.all (fun t => Tryz.pinned.checked.prog.readableRec t && decide (t < Tryz.pinned.checked.prog.types.size))) = true := by kernel_rfl

theorem topUncalled_fk20 : ((Rows.topUncalledRow.ifacesOut == Tryz.f5.resultTypes.toList.any (Tryz.pinned.checked.prog.ifacesRec ·))) = true := by kernel_rfl

theorem topUncalled_fk21 : ((Rows.topUncalledRow.loopsOut == Tryz.f5.resultTypes.toList.any (Tryz.pinned.checked.prog.loopsFrom ·))) = true := by kernel_rfl

end Go.Proofs.YtohflohdbkamnaaGreatDoor
