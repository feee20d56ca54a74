import Derived.Test.YteaeilghamjjkaaGreatDoorRows
import Derived.Test.YteaeilghamjjkaaGreatDoorCards
import Derived.Test.YteaeilghamjjkaaGreatDoorChecked
import Derived.JoinedCond
import Derived.SevenTiedAt
import Derived.ShutString
namespace Go.Proofs.YteaeilghamjjkaaGreatDoor
open Go.RowKit
set_option maxRecDepth 100000
theorem zOm:false=Rows.topFtpRow.goesBy Tryz.pinned.checked.prog:=by kernel_rfl
end Go.Proofs.YteaeilghamjjkaaGreatDoor
