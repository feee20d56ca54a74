/- Closed facts of the row of TopTalk. -/
import Derived.Test.YtajcfhcdincngaaGreatDoorRows
import Derived.Test.YtajcfhcdincngaaGreatDoorChecked
import Derived.JoinedCond
import Derived.ShutString
namespace Go.Proofs.YtajcfhcdincngaaGreatDoor
open Go.RowKit
set_option maxRecDepth 100000

theorem topTalk_fk22 : ((Rows.topTalkRow.plainKeys == Tryz.pinned.checked.prog.plainKeys)) = true := by kernel_rfl

theorem topTalk_fk23 : (Rows.topTalkRow.shortTexts.isNone) = true := by kernel_rfl

theorem topTalk_fk24 : (Tryz.pinned.checked.prog.stopsHeard) = true := by kernel_rfl

theorem topTalk_fk25 : (Tryz.pinned.checked.prog.mayEnter) = true := by kernel_rfl

theorem topTalk_fk26 : ((Rows.topTalkRow.lifted == Tryz.pinned.checked.prog.liftsFinal)) = true := by kernel_rfl

theorem topTalk_fk27 : ((Tryz.pinned.checked.prog.make == some Rows.topTalkRow.make)) = true := by kernel_rfl

theorem topTalk_fk28 : ((Rows.topTalkRow.kinds == (if Rows.topTalkRow.domain.isEmpty then [] else Tryz.f3.params.toList.map fun t => match Tryz.pinned.checked.prog.underlying t with | some (.int k) => some k | _ => none))) = true := by kernel_rfl

theorem topTalk_fk29 : ((Rows.topTalkRow.pinned == Rows.topTalkRow.pinnedBy)) = true := by kernel_rfl

theorem topTalk_fk30 : ((Rows.topTalkRow.veiled == (Tryz.f3.params.toList ++ (OpenSpec.ofChange Rows.topTalkSpec).bare.plain.varTypes Tryz.pinned.checked.prog ++ Tryz.f3.resultTypes.toList).any (Tryz.pinned.checked.prog.veiledRec ·))) = true := by kernel_rfl

theorem topTalk_fk31 : (Rows.topTalkRow.veiledFits Tryz.pinned.checked.prog Tryz.f3.params.toList (Tryz.f3.params.toList ++ (OpenSpec.ofChange Rows.topTalkSpec).bare.plain.varTypes Tryz.pinned.checked.prog ++ Tryz.f3.resultTypes.toList)) = true := by kernel_rfl

end Go.Proofs.YtajcfhcdincngaaGreatDoor
