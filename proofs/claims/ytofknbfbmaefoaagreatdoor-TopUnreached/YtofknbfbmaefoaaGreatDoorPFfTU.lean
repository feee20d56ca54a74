import Derived.Test.YtofknbfbmaefoaaGreatDoorRows
import Derived.Test.YtofknbfbmaefoaaGreatDoorChecked
import Derived.JoinedCond
import Derived.ShutString
namespace Go.Proofs.YtofknbfbmaefoaaGreatDoor
open Go.RowKit
set_option maxRecDepth 100000
theorem topUnreached_fk3 : (Tryz.f5.params.all (Tryz.pinned.checked.prog.readableRec ·)) = true := by kernel_rfl
theorem topUnreached_fk4 : (namedTie Tryz.pinned.checked.prog Rows.topUnreachedRow.named (OpenSpec.ofChange Rows.topUnreachedSpec).bare.vars) = true := by kernel_rfl
theorem topUnreached_fk5 : ((Rows.topUnreachedRow.stops == [])) = true := by kernel_rfl
theorem topUnreached_fk6 : ((Tryz.pinned.checked.prog.stops == [])) = true := by kernel_rfl
theorem topUnreached_fk7 : ((Rows.topUnreachedRow.knobs == [])) = true := by kernel_rfl
theorem topUnreached_fk8 : ((Tryz.pinned.checked.prog.stopKnobs == [])) = true := by kernel_rfl
end Go.Proofs.YtofknbfbmaefoaaGreatDoor
