/- Closed facts of the row of TopUncalled. -/
import Derived.Test.YtohflohdbkamnaaGreatDoorRows
import Derived.Test.YtohflohdbkamnaaGreatDoorCards
import Derived.Test.YtohflohdbkamnaaGreatDoorChecked
import Derived.JoinedCond
import Derived.SevenTiedAt
import Derived.ShutString
namespace Go.Proofs.YtohflohdbkamnaaGreatDoor
open Go.RowKit
set_option maxRecDepth 100000

theorem topUncalled_named : Tryz.pinned.checked.prog.funcNamed Rows.topUncalledRow.func = some 5 := by kernel_rfl

theorem topUncalled_inst : Tryz.f5.isInstance Tryz.pinned.checked.prog Rows.topUncalledRow.origin Rows.topUncalledRow.targs := of_decide_eq_true (by kernel_rfl)

theorem topUncalled_text : Rows.topUncalledRow.wfByText (OpenSpec.ofChange Rows.topUncalledSpec) = true := by kernel_rfl

theorem topUncalled_main : Tryz.pinned.checked.prog.mainIs = some (Rows.topUncalledCard.stood.harness.1, Rows.topUncalledCard.stood.harness.2.toList) := by kernel_rfl

end Go.Proofs.YtohflohdbkamnaaGreatDoor
