/- Closed facts of the row of GateNone. -/
import Derived.Test.YtnffjilmkpbelaaGreatDoorRows
import Derived.Test.YtnffjilmkpbelaaGreatDoorChecked
import Derived.JoinedCond
import Derived.ShutString
namespace Go.Proofs.YtnffjilmkpbelaaGreatDoor
open Go.RowKit
set_option maxRecDepth 100000

theorem gateNone_fk12 : ((Rows.gateNoneRow.named == Tryz.pinned.checked.prog.varsNamed 3)) = true := by kernel_rfl

end Go.Proofs.YtnffjilmkpbelaaGreatDoor
