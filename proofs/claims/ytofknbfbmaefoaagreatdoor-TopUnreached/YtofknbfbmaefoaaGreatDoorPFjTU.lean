import Derived.Test.YtofknbfbmaefoaaGreatDoorRows
import Derived.Test.YtofknbfbmaefoaaGreatDoorCards
import Derived.Test.YtofknbfbmaefoaaGreatDoorChecked
import Derived.JoinedCond
import Derived.SevenTiedAt
import Derived.ShutString
namespace Go.Proofs.YtofknbfbmaefoaaGreatDoor
open Go.RowKit
set_option maxRecDepth 100000
theorem topUnreached_named : Tryz.pinned.checked.prog.funcNamed Rows.topUnreachedRow.func = some 5 := by kernel_rfl
theorem topUnreached_inst : Tryz.f5.isInstance Tryz.pinned.checked.prog Rows.topUnreachedRow.origin Rows.topUnreachedRow.targs := of_decide_eq_true (by kernel_rfl)
theorem topUnreached_text : Rows.topUnreachedRow.wfByText (OpenSpec.ofChange Rows.topUnreachedSpec) = true := by kernel_rfl
theorem topUnreached_main : Tryz.pinned.checked.prog.mainIs = some (Rows.topUnreachedCard.stood.harness.1, Rows.topUnreachedCard.stood.harness.2.toList) := by kernel_rfl
end Go.Proofs.YtofknbfbmaefoaaGreatDoor
