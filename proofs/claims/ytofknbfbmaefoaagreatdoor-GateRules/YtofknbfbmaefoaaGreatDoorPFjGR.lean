import Derived.Test.YtofknbfbmaefoaaGreatDoorRows
import Derived.Test.YtofknbfbmaefoaaGreatDoorCards
import Derived.Test.YtofknbfbmaefoaaGreatDoorChecked
import Derived.JoinedCond
import Derived.SevenTiedAt
import Derived.ShutString
namespace Go.Proofs.YtofknbfbmaefoaaGreatDoor
open Go.RowKit
set_option maxRecDepth 100000
theorem gateRules_named : Tryz.pinned.checked.prog.funcNamed Rows.gateRulesRow.func = some 3 := by kernel_rfl
theorem gateRules_inst : Tryz.f3.isInstance Tryz.pinned.checked.prog Rows.gateRulesRow.origin Rows.gateRulesRow.targs := of_decide_eq_true (by kernel_rfl)
theorem gateRules_text : Rows.gateRulesRow.wfByText (OpenSpec.ofChange Rows.gateRulesSpec) = true := by kernel_rfl
theorem gateRules_main : Tryz.pinned.checked.prog.mainIs = some (Rows.gateRulesCard.stood.harness.1, Rows.gateRulesCard.stood.harness.2.toList) := by kernel_rfl
end Go.Proofs.YtofknbfbmaefoaaGreatDoor
