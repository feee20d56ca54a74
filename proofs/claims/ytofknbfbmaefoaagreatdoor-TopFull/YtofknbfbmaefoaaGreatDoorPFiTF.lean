import Derived.Test.YtofknbfbmaefoaaGreatDoorRows
import Derived.Test.YtofknbfbmaefoaaGreatDoorCards
import Derived.Test.YtofknbfbmaefoaaGreatDoorChecked
import Derived.JoinedCond
import Derived.SevenTiedAt
import Derived.ShutString
namespace Go.Proofs.YtofknbfbmaefoaaGreatDoor
open Go.RowKit
set_option maxRecDepth 100000
theorem topFull_goes : false = Rows.topFullRow.goesBy Tryz.pinned.checked.prog := by kernel_rfl
end Go.Proofs.YtofknbfbmaefoaaGreatDoor
