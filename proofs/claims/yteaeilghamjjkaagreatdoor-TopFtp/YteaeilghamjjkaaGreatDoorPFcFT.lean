import Derived.Test.YteaeilghamjjkaaGreatDoorRows
import Derived.Test.YteaeilghamjjkaaGreatDoorChecked
import Derived.JoinedCond
import Derived.ShutString
namespace Go.Proofs.YteaeilghamjjkaaGreatDoor
open Go.RowKit
set_option maxRecDepth 100000
theorem zN1:((Rows.topFtpRow.recurses==Tryz.pinned.checked.prog.recurses 3))=true:=by kernel_rfl
end Go.Proofs.YteaeilghamjjkaaGreatDoor
