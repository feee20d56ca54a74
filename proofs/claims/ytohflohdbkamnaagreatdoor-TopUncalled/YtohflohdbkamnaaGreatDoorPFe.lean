/- Closed facts of the row of TopUncalled. -/
import Derived.Test.YtohflohdbkamnaaGreatDoorRows
import Derived.Test.YtohflohdbkamnaaGreatDoorChecked
import Derived.JoinedCond
import Derived.ShutString
namespace Go.Proofs.YtohflohdbkamnaaGreatDoor
open Go.RowKit
set_option maxRecDepth 100000

theorem topUncalled_fk0 : (Rows.topUncalledRow.wf (OpenSpec.ofChange (OpenSpec.ofChange Rows.topUncalledSpec).bare)) = true := by kernel_rfl

theorem topUncalled_fk1 : (laidOutB Tryz.pinned.checked.prog) = true := by kernel_rfl

theorem topUncalled_fk2 : (mapsRowed Tryz.pinned.checked.prog) = true := by kernel_rfl

end Go.Proofs.YtohflohdbkamnaaGreatDoor
