/- Closed facts of the row of TopTalk. -/
import Derived.Test.YtajcfhcdincngaaGreatDoorRows
import Derived.Test.YtajcfhcdincngaaGreatDoorChecked
import Derived.JoinedCond
import Derived.ShutString
namespace Go.Proofs.YtajcfhcdincngaaGreatDoor
open Go.RowKit
set_option maxRecDepth 100000

theorem topTalk_fk3 : (Tryz.f3.params.all (Tryz.pinned.checked.prog.readableRec ·)) = true := by kernel_rfl

theorem topTalk_fk4 : (namedTie Tryz.pinned.checked.prog Rows.topTalkRow.named (OpenSpec.ofChange Rows.topTalkSpec).bare.vars) = true := by kernel_rfl

theorem topTalk_fk5 : ((Rows.topTalkRow.stops == [])) = true := by kernel_rfl

theorem topTalk_fk6 : ((Tryz.pinned.checked.prog.stops == [])) = true := by kernel_rfl

theorem topTalk_fk7 : ((Rows.topTalkRow.knobs == [])) = true := by kernel_rfl

theorem topTalk_fk8 : ((Tryz.pinned.checked.prog.stopKnobs == [])) = true := by kernel_rfl

end Go.Proofs.YtajcfhcdincngaaGreatDoor
