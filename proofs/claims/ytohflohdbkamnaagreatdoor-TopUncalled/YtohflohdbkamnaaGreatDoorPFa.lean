/- Closed facts of the row of TopUncalled. -/
import Derived.Test.YtohflohdbkamnaaGreatDoorRows
import Derived.Test.YtohflohdbkamnaaGreatDoorChecked
import Derived.JoinedCond
import Derived.ShutString
namespace Go.Proofs.YtohflohdbkamnaaGreatDoor
open Go.RowKit
set_option maxRecDepth 100000

theorem topUncalled_fk9 : ((Rows.topUncalledRow.inPlace == Tryz.pinned.checked.prog.inPlace 5)) = true := by kernel_rfl

end Go.Proofs.YtohflohdbkamnaaGreatDoor
