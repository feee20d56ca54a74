/- Closed facts of the row of GateNone. -/
import Derived.Test.YtnffjilmkpbelaaGreatDoorRows
import Derived.Test.YtnffjilmkpbelaaGreatDoorChecked
import Derived.JoinedCond
import Derived.ShutString
namespace Go.Proofs.YtnffjilmkpbelaaGreatDoor
open Go.RowKit
set_option maxRecDepth 100000

theorem gateNone_fk13 : ((Rows.gateNoneRow.maps == (Tryz.f3.params.toList ++ (OpenSpec.ofChange Rows.gateNoneSpec).bare.plain.varTypes Tryz.pinned.checked.prog).any (Tryz.pinned.checked.prog.mapsRec ·))) = true := by kernel_rfl

theorem gateNone_fk14 : ((Rows.gateNoneRow.ifaces == (Tryz.f3.params.toList ++ (OpenSpec.ofChange Rows.gateNoneSpec).bare.plain.varTypes Tryz.pinned.checked.prog).any (Tryz.pinned.checked.prog.ifacesRec ·))) = true := by kernel_rfl

theorem gateNone_fk15 : ((Rows.gateNoneRow.mapsOut == Tryz.pinned.checked.prog.mapsAmong Tryz.f3.resultTypes.toList)) = true := by kernel_rfl

theorem gateNone_fk16 : ((Rows.gateNoneRow.loops == (Tryz.f3.params.toList ++ (OpenSpec.ofChange Rows.gateNoneSpec).bare.plain.varTypes Tryz.pinned.checked.prog).any (Tryz.pinned.checked.prog.loopsFrom ·))) = true := by kernel_rfl

theorem gateNone_fk17 : ((Rows.gateNoneRow.wideKeys == (Tryz.f3.params.toList ++ (OpenSpec.ofChange Rows.gateNoneSpec).bare.plain.varTypes Tryz.pinned.checked.prog ++ Tryz.f3.resultTypes.toList).any (Tryz.pinned.checked.prog.wideKeysFrom ·))) = true := by kernel_rfl

theorem gateNone_fk18 : ((OpenSpec.ofChange Rows.gateNoneSpec).bare.vars.all (Tryz.pinned.checked.prog.varReadable ·)) = true := by kernel_rfl

theorem gateNone_fk19 : (Tryz.f3.resultTypes.all (fun t => Tryz.pinned.checked.prog.readableRec t && decide (t < Tryz.pinned.checked.prog.types.size))) = true := by kernel_rfl

theorem gateNone_fk20 : ((Rows.gateNoneRow.ifacesOut == Tryz.f3.resultTypes.toList.any (Tryz.pinned.checked.prog.ifacesRec ·))) = true := by kernel_rfl

theorem gateNone_fk21 : ((Rows.gateNoneRow.loopsOut == Tryz.f3.resultTypes.toList.any (Tryz.pinned.checked.prog.loopsFrom ·))) = true := by kernel_rfl

end Go.Proofs.YtnffjilmkpbelaaGreatDoor
