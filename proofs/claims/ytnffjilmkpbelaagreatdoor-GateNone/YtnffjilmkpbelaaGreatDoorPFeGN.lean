/- Closed facts of the row of GateNone. -/
import Derived.Test.YtnffjilmkpbelaaGreatDoorRows
import Derived.Test.YtnffjilmkpbelaaGreatDoorChecked
import Derived.JoinedCond
import Derived.ShutString
namespace Go.Proofs.YtnffjilmkpbelaaGreatDoor
open Go.RowKit
set_option maxRecDepth 100000

theorem gateNone_fk0 : (Rows.gateNoneRow.wf (OpenSpec.ofChange (OpenSpec.ofChange Rows.gateNoneSpec).bare)) = true := by kernel_rfl

theorem gateNone_fk1 : (laidOutB Tryz.pinned.checked.prog) = true := by kernel_rfl

theorem gateNone_fk2 : (mapsRowed Tryz.pinned.checked.prog) = true := by kernel_rfl

end Go.Proofs.YtnffjilmkpbelaaGreatDoor
