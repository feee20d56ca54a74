import Derived.Test.YtofknbfbmaefoaaGreatDoorRows
import Derived.Test.YtofknbfbmaefoaaGreatDoorCards
import Derived.Test.YtofknbfbmaefoaaGreatDoorChecked
import Derived.JoinedCond
import Derived.SevenTiedAt
import Derived.ShutString
namespace Go.Proofs.YtofknbfbmaefoaaGreatDoor
open Go.RowKit
set_option maxRecDepth 100000
theorem topFull_named : Tryz.pinned.checked.prog.funcNamed Rows.topFullRow.func = some 4 := by kernel_rfl
theorem topFull_inst : Tryz.f4.isInstance Tryz.pinned.checked.prog Rows.topFullRow.origin Rows.topFullRow.targs := of_decide_eq_true (by kernel_rfl)
theorem topFull_text : Rows.topFullRow.wfByText (OpenSpec.ofChange Rows.topFullSpec) = true := by kernel_rfl
theorem topFull_main : Tryz.pinned.checked.prog.mainIs = some (Rows.topFullCard.stood.harness.1, Rows.topFullCard.stood.harness.2.toList) := by kernel_rfl
end Go.Proofs.YtofknbfbmaefoaaGreatDoor
