import Derived.Test.YtofknbfbmaefoaaGreatDoorRows
import Derived.Test.YtofknbfbmaefoaaGreatDoorChecked
import Derived.JoinedCond
import Derived.ShutString
namespace Go.Proofs.YtofknbfbmaefoaaGreatDoor
open Go.RowKit
set_option maxRecDepth 100000
theorem topFull_fk0 : (Rows.topFullRow.wf (OpenSpec.ofChange (OpenSpec.ofChange Rows.topFullSpec).bare)) = true := by kernel_rfl
theorem topFull_fk1 : (laidOutB Tryz.pinned.checked.prog) = true := by kernel_rfl
theorem topFull_fk2 : (mapsRowed Tryz.pinned.checked.prog) = true := by kernel_rfl
end Go.Proofs.YtofknbfbmaefoaaGreatDoor
