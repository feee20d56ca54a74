import Derived.Test.YtajcfhcdincngaaGreatDoorRows
import Derived.Test.YtajcfhcdincngaaGreatDoorChecked
import Derived.JoinedCond
import Derived.ShutString
namespace Go.Proofs.YtajcfhcdincngaaGreatDoor
open Go.RowKit
set_option maxRecDepth 100000
theorem topUnreached_fk9 : ((Rows.topUnreachedRow.inPlace == Tryz.pinned.checked.prog.inPlace 5)) = true := by kernel_rfl
end Go.Proofs.YtajcfhcdincngaaGreatDoor
