import Derived.Test.YtnffjilmkpbelaaGreatDoorRows
import Derived.Test.YtnffjilmkpbelaaGreatDoorChecked
import Derived.JoinedCond
import Derived.ShutString
namespace Go.Proofs.YtnffjilmkpbelaaGreatDoor
open Go.RowKit
set_option maxRecDepth 100000
theorem gateRules_fk12 : ((Rows.gateRulesRow.named == Tryz.pinned.checked.prog.varsNamed 4)) = true := by kernel_rfl
end Go.Proofs.YtnffjilmkpbelaaGreatDoor
