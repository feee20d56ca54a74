/- Closed facts of the row of TopTalk. -/
import Derived.Test.YtajcfhcdincngaaGreatDoorRows
import Derived.Test.YtajcfhcdincngaaGreatDoorChecked
import Derived.JoinedCond
import Derived.ShutString
namespace Go.Proofs.YtajcfhcdincngaaGreatDoor
open Go.RowKit
set_option maxRecDepth 100000

theorem topTalk_fk0 : (Rows.topTalkRow.wf (OpenSpec.ofChange (OpenSpec.ofChange Rows.topTalkSpec).bare)) = true := by kernel_rfl

theorem topTalk_fk1 : (laidOutB Tryz.pinned.checked.prog) = true := by kernel_rfl

theorem topTalk_fk2 : (mapsRowed Tryz.pinned.checked.prog) = true := by kernel_rfl

end Go.Proofs.YtajcfhcdincngaaGreatDoor
