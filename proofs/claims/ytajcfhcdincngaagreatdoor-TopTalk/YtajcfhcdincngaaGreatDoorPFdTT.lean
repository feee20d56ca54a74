/- Closed facts of the row of TopTalk. -/
import Derived.Test.YtajcfhcdincngaaGreatDoorRows
import Derived.Test.YtajcfhcdincngaaGreatDoorChecked
import Derived.JoinedCond
import Derived.ShutString
namespace Go.Proofs.YtajcfhcdincngaaGreatDoor
open Go.RowKit
set_option maxRecDepth 100000

theorem topTalk_fk12 : ((Rows.topTalkRow.named == Tryz.pinned.checked.prog.varsNamed 3)) = true := by kernel_rfl

end Go.Proofs.YtajcfhcdincngaaGreatDoor
