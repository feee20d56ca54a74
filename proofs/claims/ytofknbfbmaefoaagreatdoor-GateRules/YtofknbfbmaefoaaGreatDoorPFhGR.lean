import Derived.Test.YtofknbfbmaefoaaGreatDoorRows
import Derived.Test.YtofknbfbmaefoaaGreatDoorChecked
import Derived.JoinedCond
import Derived.ShutString
namespace Go.Proofs.YtofknbfbmaefoaaGreatDoor
open Go.RowKit
set_option maxRecDepth 100000
theorem gateRules_fk22 : ((Rows.gateRulesRow.plainKeys == Tryz.pinned.checked.prog.plainKeys)) = true := by kernel_rfl
theorem gateRules_fk23 : (Rows.gateRulesRow.shortTexts.isNone) = true := by kernel_rfl
theorem gateRules_fk24 : (Tryz.pinned.checked.prog.stopsHeard) = true := by kernel_rfl
theorem gateRules_fk25 : (Tryz.pinned.checked.prog.mayEnter) = true := by kernel_rfl
theorem gateRules_fk26 : ((Rows.gateRulesRow.lifted == Tryz.pinned.checked.prog.liftsFinal)) = true := by kernel_rfl
theorem gateRules_fk27 : ((Tryz.pinned.checked.prog.make == some Rows.gateRulesRow.make)) = true := by kernel_rfl
theorem gateRules_fk28 : ((Rows.gateRulesRow.kinds == (if Rows.gateRulesRow.domain.isEmpty then [] else Tryz.f3.params.toList.map fun t => match Tryz.pinned.checked.prog.underlying t with | some (.int k) => some k | _ => none))) = true := by kernel_rfl
theorem gateRules_fk29 : ((Rows.gateRulesRow.pinned == Rows.gateRulesRow.pinnedBy)) = true := by kernel_rfl
theorem gateRules_fk30 : ((Rows.gateRulesRow.veiled == (Tryz.f3.params.toList ++ (OpenSpec.ofChange Rows.gateRulesSpec).bare.plain.varTypes Tryz.pinned.checked.prog ++ Tryz.f3.resultTypes.toList).any (Tryz.pinned.checked.prog.veiledRec ·))) = true := by kernel_rfl
theorem gateRules_fk31 : (Rows.gateRulesRow.veiledFits Tryz.pinned.checked.prog Tryz.f3.params.toList (Tryz.f3.params.toList ++ (OpenSpec.ofChange Rows.gateRulesSpec).bare.plain.varTypes Tryz.pinned.checked.prog ++ Tryz.f3.resultTypes.toList)) = true := by kernel_rfl
end Go.Proofs.YtofknbfbmaefoaaGreatDoor
