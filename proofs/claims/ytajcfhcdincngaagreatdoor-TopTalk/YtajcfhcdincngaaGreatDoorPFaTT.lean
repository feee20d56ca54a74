/- Closed facts of the row of TopTalk. -/
import Derived.Test.YtajcfhcdincngaaGreatDoorRows
import Derived.Test.YtajcfhcdincngaaGreatDoorChecked
import Derived.JoinedCond
import Derived.ShutString
namespace Go.Proofs.YtajcfhcdincngaaGreatDoor
open Go.RowKit
set_option maxRecDepth 100000

theorem topTalk_fk9 : ((Rows.topTalkRow.inPlace == Tryz.pinned.checked.prog.inPlace 3)) = true := by kernel_rfl

end Go.Proofs.YtajcfhcdincngaaGreatDoor
