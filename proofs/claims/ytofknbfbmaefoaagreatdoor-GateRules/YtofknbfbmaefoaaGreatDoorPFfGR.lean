import Derived.Test.YtofknbfbmaefoaaGreatDoorRows
import Derived.Test.YtofknbfbmaefoaaGreatDoorChecked
import Derived.JoinedCond
import Derived.ShutString
namespace Go.Proofs.YtofknbfbmaefoaaGreatDoor
open Go.RowKit
set_option maxRecDepth 100000
theorem gateRules_fk3 : (Tryz.f3.params.all (Tryz.pinned.checked.prog.readableRec ·)) = true := by kernel_rfl
theorem gateRules_fk4 : (namedTie Tryz.pinned.checked.prog Rows.gateRulesRow.named (OpenSpec.ofChange Rows.gateRulesSpec).bare.vars) = true := by kernel_rfl
theorem gateRules_fk5 : ((Rows.gateRulesRow.stops == [])) = true := by kernel_rfl
theorem gateRules_fk6 : ((Tryz.pinned.checked.prog.stops == [])) = true := by kernel_rfl
theorem gateRules_fk7 : ((Rows.gateRulesRow.knobs == [])) = true := by kernel_rfl
theorem gateRules_fk8 : ((Tryz.pinned.checked.prog.stopKnobs == [])) = true := by kernel_rfl
end Go.Proofs.YtofknbfbmaefoaaGreatDoor
