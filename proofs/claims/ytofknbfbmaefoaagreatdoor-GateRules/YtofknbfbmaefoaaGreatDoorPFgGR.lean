import Derived.Test.YtofknbfbmaefoaaGreatDoorRows
import Derived.Test.YtofknbfbmaefoaaGreatDoorChecked
import Derived.JoinedCond
import Derived.ShutString
namespace Go.Proofs.YtofknbfbmaefoaaGreatDoor
open Go.RowKit
set_option maxRecDepth 100000
theorem gateRules_fk13 : ((Rows.gateRulesRow.maps == (Tryz.f3.params.toList ++ (OpenSpec.ofChange Rows.gateRulesSpec).bare.plain.varTypes Tryz.pinned.checked.prog).any (Tryz.pinned.checked.prog.mapsRec ·))) = true := by kernel_rfl
theorem gateRules_fk14 : ((Rows.gateRulesRow.ifaces == (Tryz.f3.params.toList ++ (OpenSpec.ofChange Rows.gateRulesSpec).bare.plain.varTypes Tryz.pinned.checked.prog).any (Tryz.pinned.checked.prog.ifacesRec ·))) = true := by kernel_rfl
theorem gateRules_fk15 : ((Rows.gateRulesRow.mapsOut == Tryz.pinned.checked.prog.mapsAmong Tryz.f3.resultTypes.toList)) = true := by kernel_rfl
theorem gateRules_fk16 : ((Rows.gateRulesRow.loops == (Tryz.f3.params.toList ++ (OpenSpec.ofChange Rows.gateRulesSpec).bare.plain.varTypes Tryz.pinned.checked.prog).any (Tryz.pinned.checked.prog.loopsFrom ·))) = true := by kernel_rfl
theorem gateRules_fk17 : ((Rows.gateRulesRow.wideKeys == (Tryz.f3.params.toList ++ (OpenSpec.ofChange Rows.gateRulesSpec).bare.plain.varTypes Tryz.pinned.checked.prog ++ Tryz.f3.resultTypes.toList).any (Tryz.pinned.checked.prog.wideKeysFrom ·))) = true := by kernel_rfl
theorem gateRules_fk18 : ((OpenSpec.ofChange Rows.gateRulesSpec).bare.vars.all (Tryz.pinned.checked.prog.varReadable ·)) = true := by kernel_rfl
theorem gateRules_fk19 : (Tryz.f3.resultTypes.all (fun t => Tryz.pinned.checked.prog.readableRec t && decide (t < Tryz.pinned.checked.prog.types.size))) = true := by kernel_rfl
theorem gateRules_fk20 : ((Rows.gateRulesRow.ifacesOut == Tryz.f3.resultTypes.toList.any (Tryz.pinned.checked.prog.ifacesRec ·))) = true := by kernel_rfl
theorem gateRules_fk21 : ((Rows.gateRulesRow.loopsOut == Tryz.f3.resultTypes.toList.any (Tryz.pinned.checked.prog.loopsFrom ·))) = true := by kernel_rfl
end Go.Proofs.YtofknbfbmaefoaaGreatDoor
