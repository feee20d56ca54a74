import Derived.Test.YtofknbfbmaefoaaGreatDoorRows
import Derived.Test.YtofknbfbmaefoaaGreatDoorChecked
import Derived.JoinedCond
import Derived.ShutString
namespace Go.Proofs.YtofknbfbmaefoaaGreatDoor
open Go.RowKit
set_option maxRecDepth 100000
theorem topFull_fk3 : (Tryz.f4.params.all (Tryz.pinned.checked.prog.readableRec ·)) = true := by kernel_rfl
theorem topFull_fk4 : (namedTie Tryz.pinned.checked.prog Rows.topFullRow.named (OpenSpec.ofChange Rows.topFullSpec).bare.vars) = true := by kernel_rfl
theorem topFull_fk5 : ((Rows.topFullRow.stops == [])) = true := by kernel_rfl
theorem topFull_fk6 : ((Tryz.pinned.checked.prog.stops == [])) = true := by kernel_rfl
theorem topFull_fk7 : ((Rows.topFullRow.knobs == [])) = true := by kernel_rfl
theorem topFull_fk8 : ((Tryz.pinned.checked.prog.stopKnobs == [])) = true := by kernel_rfl
end Go.Proofs.YtofknbfbmaefoaaGreatDoor
