import Derived.Test.YteaeilghamjjkaaGreatDoorRows
import Derived.Test.YteaeilghamjjkaaGreatDoorChecked
import Derived.JoinedCond
import Derived.ShutString
namespace Go.Proofs.YteaeilghamjjkaaGreatDoor
open Go.RowKit
set_option maxRecDepth 100000
theorem zR3:(Rows.topFtpRow.wf (OpenSpec.ofChange (OpenSpec.ofChange Rows.topFtpSpec).bare))=true:=by kernel_rfl
theorem zR4:(laidOutB Tryz.pinned.checked.prog)=true:=by kernel_rfl
theorem zR5:(mapsRowed Tryz.pinned.checked.prog)=true:=by kernel_rfl
end Go.Proofs.YteaeilghamjjkaaGreatDoor
