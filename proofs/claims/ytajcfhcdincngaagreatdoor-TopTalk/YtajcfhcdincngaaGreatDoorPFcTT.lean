/- Closed facts of the row of TopTalk. -/
import Derived.Test.YtajcfhcdincngaaGreatDoorRows
import Derived.Test.YtajcfhcdincngaaGreatDoorChecked
import Derived.JoinedCond
import Derived.ShutString
namespace Go.Proofs.YtajcfhcdincngaaGreatDoor
open Go.RowKit
set_option maxRecDepth 100000

theorem topTalk_fk11 : ((Rows.topTalkRow.recurses == Tryz.pinned.checked.prog.recurses 3)) = true := by kernel_rfl

end Go.Proofs.YtajcfhcdincngaaGreatDoor
