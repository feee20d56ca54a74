/- Closed facts of the row of TopUncalled. -/
import Derived.Test.YtohflohdbkamnaaGreatDoorRows
import Derived.Test.YtohflohdbkamnaaGreatDoorCards
import Derived.Test.YtohflohdbkamnaaGreatDoorChecked
import Derived.JoinedCond
import Derived.SevenTiedAt
import Derived.ShutString
namespace Go.Proofs.YtohflohdbkamnaaGreatDoor
open Go.RowKit
set_option maxRecDepth 100000

theorem topUncalled_goes : false = Rows.topUncalledRow.goesBy Tryz.pinned.checked.prog := by kernel_rfl

end Go.Proofs.YtohflohdbkamnaaGreatDoor
