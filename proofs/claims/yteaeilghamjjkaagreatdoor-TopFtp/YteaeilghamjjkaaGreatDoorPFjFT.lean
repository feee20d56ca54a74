import Derived.Test.YteaeilghamjjkaaGreatDoorRows
import Derived.Test.YteaeilghamjjkaaGreatDoorCards
import Derived.Test.YteaeilghamjjkaaGreatDoorChecked
import Derived.JoinedCond
import Derived.SevenTiedAt
import Derived.ShutString
namespace Go.Proofs.YteaeilghamjjkaaGreatDoor
open Go.RowKit
set_option maxRecDepth 100000
theorem zFm:Tryz.pinned.checked.prog.funcNamed Rows.topFtpRow.func=some 3:=by kernel_rfl
theorem zOn:Tryz.f3.isInstance Tryz.pinned.checked.prog Rows.topFtpRow.origin Rows.topFtpRow.targs:=of_decide_eq_true (by kernel_rfl)
theorem zOo:Rows.topFtpRow.wfByText (OpenSpec.ofChange Rows.topFtpSpec)=true:=by kernel_rfl
theorem zOp:Tryz.pinned.checked.prog.mainIs=some (Rows.topFtpCard.stood.harness.1,Rows.topFtpCard.stood.harness.2.toList):=by kernel_rfl
end Go.Proofs.YteaeilghamjjkaaGreatDoor
