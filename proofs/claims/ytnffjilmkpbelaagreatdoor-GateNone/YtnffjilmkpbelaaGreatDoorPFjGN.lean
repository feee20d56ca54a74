/- Closed facts of the row of GateNone. -/
import Derived.Test.YtnffjilmkpbelaaGreatDoorRows
import Derived.Test.YtnffjilmkpbelaaGreatDoorCards
import Derived.Test.YtnffjilmkpbelaaGreatDoorChecked
import Derived.JoinedCond
import Derived.SevenTiedAt
import Derived.ShutString
namespace Go.Proofs.YtnffjilmkpbelaaGreatDoor
open Go.RowKit
set_option maxRecDepth 100000

theorem gateNone_named : Tryz.pinned.checked.prog.funcNamed Rows.gateNoneRow.func = some 3 := by kernel_rfl

theorem gateNone_inst : Tryz.f3.isInstance Tryz.pinned.checked.prog Rows.gateNoneRow.origin Rows.gateNoneRow.targs := of_decide_eq_true (by kernel_rfl)

theorem gateNone_text : Rows.gateNoneRow.wfByText (OpenSpec.ofChange Rows.gateNoneSpec) = true := by kernel_rfl

theorem gateNone_main : Tryz.pinned.checked.prog.mainIs = some (Rows.gateNoneCard.stood.harness.1, Rows.gateNoneCard.stood.harness.2.toList) := by kernel_rfl

end Go.Proofs.YtnffjilmkpbelaaGreatDoor
