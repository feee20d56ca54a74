import Derived.Test.YteaeilghamjjkaaGreatDoorRows
import Derived.Test.YteaeilghamjjkaaGreatDoorChecked
import Derived.JoinedCond
import Derived.ShutString
namespace Go.Proofs.YteaeilghamjjkaaGreatDoor
open Go.RowKit
set_option maxRecDepth 100000
theorem zL2:(Rows.topPptpRow.wf (OpenSpec.ofChange (OpenSpec.ofChange Rows.topPptpSpec).bare))=true:=by kernel_rfl
theorem zL3:(laidOutB Tryz.pinned.checked.prog)=true:=by kernel_rfl
theorem zL4:(mapsRowed Tryz.pinned.checked.prog)=true:=by kernel_rfl
end Go.Proofs.YteaeilghamjjkaaGreatDoor
