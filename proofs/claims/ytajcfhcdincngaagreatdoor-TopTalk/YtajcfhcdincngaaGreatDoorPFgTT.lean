/- Closed facts of the row of TopTalk. -/
import Derived.Test.YtajcfhcdincngaaGreatDoorRows
import Derived.Test.YtajcfhcdincngaaGreatDoorChecked
import Derived.JoinedCond
import Derived.ShutString
namespace Go.Proofs.YtajcfhcdincngaaGreatDoor
open Go.RowKit
set_option maxRecDepth 100000

theorem topTalk_fk13 : ((Rows.topTalkRow.maps == (Tryz.f3.params.toList ++ (OpenSpec.ofChange Rows.topTalkSpec).bare.plain.varTypes Tryz.pinned.checked.prog).any (Tryz.pinned.checked.prog.mapsRec ·))) = true := by kernel_rfl

theorem topTalk_fk14 : ((Rows.topTalkRow.ifaces == (Tryz.f3.params.toList ++ (OpenSpec.ofChange Rows.topTalkSpec).bare.plain.varTypes Tryz.pinned.checked.prog).any (Tryz.pinned.checked.prog.ifacesRec ·))) = true := by kernel_rfl

theorem topTalk_fk15 : ((Rows.topTalkRow.mapsOut == Tryz.pinned.checked.prog.mapsAmong Tryz.f3.resultTypes.toList)) = true := by kernel_rfl

theorem topTalk_fk16 : ((Rows.topTalkRow.loops == (Tryz.f3.params.toList ++ (OpenSpec.ofChange Rows.topTalkSpec).bare.plain.varTypes Tryz.pinned.checked.prog).any (Tryz.pinned.checked.prog.loopsFrom ·))) = true := by kernel_rfl

theorem topTalk_fk17 : ((Rows.topTalkRow.wideKeys == (Tryz.f3.params.toList ++ (OpenSpec.ofChange Rows.topTalkSpec).bare.plain.varTypes Tryz.pinned.checked.prog ++ Tryz.f3.resultTypes.toList).any (Tryz.pinned.checked.prog.wideKeysFrom ·))) = true := by kernel_rfl

theorem topTalk_fk18 : ((OpenSpec.ofChange Rows.topTalkSpec).bare.vars.all (Tryz.pinned.checked.prog.varReadable ·)) = true := by kernel_rfl

theorem topTalk_fk19 : (Tryz.f3.resultTypes.all (fun t => Tryz.pinned.checked.prog.readableRec t && decide (t < Tryz.pinned.checked.prog.types.size))) = true := by kernel_rfl

theorem topTalk_fk20 : ((Rows.topTalkRow.ifacesOut == Tryz.f3.resultTypes.toList.any (Tryz.pinned.checked.prog.ifacesRec ·))) = true := by kernel_rfl

theorem topTalk_fk21 : ((Rows.topTalkRow.loopsOut == Tryz.f3.resultTypes.toList.any (Tryz.pinned.checked.prog.loopsFrom ·))) = true := by kernel_rfl

end Go.Proofs.YtajcfhcdincngaaGreatDoor
