import Derived.Test.YtofknbfbmaefoaaGreatDoorRows
import Derived.Test.YtofknbfbmaefoaaGreatDoorChecked
import Derived.JoinedCond
import Derived.ShutString
namespace Go.Proofs.YtofknbfbmaefoaaGreatDoor
open Go.RowKit
set_option maxRecDepth 100000
theorem gateRules_fk0 : (Rows.gateRulesRow.wf (OpenSpec.ofChange (OpenSpec.ofChange Rows.gateRulesSpec).bare)) = true := by kernel_rfl
theorem gateRules_fk1 : (laidOutB Tryz.pinned.checked.prog) = true := by kernel_rfl
theorem gateRules_fk2 : (mapsRowed Tryz.pinned.checked.prog) = true := by kernel_rfl
end Go.Proofs.YtofknbfbmaefoaaGreatDoor
