import Derived.Test.YteaeilghamjjkaaGreatDoorRows
import Derived.Test.YteaeilghamjjkaaGreatDoorCards
import Derived.Test.YteaeilghamjjkaaGreatDoorChecked
import Derived.JoinedCond
import Derived.SevenTiedAt
import Derived.ShutString
namespace Go.Proofs.YteaeilghamjjkaaGreatDoor
open Go.RowKit
set_option maxRecDepth 100000
theorem zD5:Tryz.pinned.checked.prog.funcNamed Rows.topPptpRow.func=some 4:=by kernel_rfl
theorem zJ9:Tryz.f4.isInstance Tryz.pinned.checked.prog Rows.topPptpRow.origin Rows.topPptpRow.targs:=of_decide_eq_true (by kernel_rfl)
theorem zKa:Rows.topPptpRow.wfByText (OpenSpec.ofChange Rows.topPptpSpec)=true:=by kernel_rfl
theorem zKb:Tryz.pinned.checked.prog.mainIs=some (Rows.topPptpCard.stood.harness.1,Rows.topPptpCard.stood.harness.2.toList):=by kernel_rfl
end Go.Proofs.YteaeilghamjjkaaGreatDoor
