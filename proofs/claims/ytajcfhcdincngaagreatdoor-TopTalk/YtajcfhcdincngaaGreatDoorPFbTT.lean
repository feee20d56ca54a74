/- Closed facts of the row of TopTalk. -/
import Derived.Test.YtajcfhcdincngaaGreatDoorRows
import Derived.Test.YtajcfhcdincngaaGreatDoorChecked
import Derived.JoinedCond
import Derived.ShutString
namespace Go.Proofs.YtajcfhcdincngaaGreatDoor
open Go.RowKit
set_option maxRecDepth 100000

theorem topTalk_fk10 : ((Rows.topTalkRow.unfollowed == Tryz.pinned.checked.prog.unfollowed 3)) = true := by kernel_rfl

end Go.Proofs.YtajcfhcdincngaaGreatDoor
