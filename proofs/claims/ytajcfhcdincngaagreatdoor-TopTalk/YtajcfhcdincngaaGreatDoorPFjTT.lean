/- Closed facts of the row of TopTalk. -/
import Derived.Test.YtajcfhcdincngaaGreatDoorRows
import Derived.Test.YtajcfhcdincngaaGreatDoorCards
import Derived.Test.YtajcfhcdincngaaGreatDoorChecked
import Derived.JoinedCond
import Derived.SevenTiedAt
import Derived.ShutString
namespace Go.Proofs.YtajcfhcdincngaaGreatDoor
open Go.RowKit
set_option maxRecDepth 100000

theorem topTalk_named : Tryz.pinned.checked.prog.funcNamed Rows.topTalkRow.func = some 3 := by kernel_rfl

theorem topTalk_inst : Tryz.f3.isInstance Tryz.pinned.checked.prog Rows.topTalkRow.origin Rows.topTalkRow.targs := of_decide_eq_true (by kernel_rfl)

theorem topTalk_text : Rows.topTalkRow.wfByText (OpenSpec.ofChange Rows.topTalkSpec) = true := by kernel_rfl

theorem topTalk_main : Tryz.pinned.checked.prog.mainIs = some (Rows.topTalkCard.stood.harness.1, Rows.topTalkCard.stood.harness.2.toList) := by kernel_rfl

end Go.Proofs.YtajcfhcdincngaaGreatDoor
