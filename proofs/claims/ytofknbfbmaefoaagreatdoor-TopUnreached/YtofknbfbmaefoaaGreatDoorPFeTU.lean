import Derived.Test.YtofknbfbmaefoaaGreatDoorRows
import Derived.Test.YtofknbfbmaefoaaGreatDoorChecked
import Derived.JoinedCond
import Derived.ShutString
namespace Go.Proofs.YtofknbfbmaefoaaGreatDoor
open Go.RowKit
set_option maxRecDepth 100000
theorem topUnreached_fk0 : (Rows.topUnreachedRow.wf (OpenSpec.ofChange (OpenSpec.ofChange Rows.topUnreachedSpec).bare)) = true := by kernel_rfl
theorem topUnreached_fk1 : (laidOutB Tryz.pinned.checked.prog) = true := by kernel_rfl
theorem topUnreached_fk2 : (mapsRowed Tryz.pinned.checked.prog) = true := by kernel_rfl
end Go.Proofs.YtofknbfbmaefoaaGreatDoor
