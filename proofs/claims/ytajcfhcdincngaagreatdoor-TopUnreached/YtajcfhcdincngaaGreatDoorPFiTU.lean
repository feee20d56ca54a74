import Derived.Test.YtajcfhcdincngaaGreatDoorRows
import Derived.Test.YtajcfhcdincngaaGreatDoorCards
import Derived.Test.YtajcfhcdincngaaGreatDoorChecked
import Derived.JoinedCond
import Derived.SevenTiedAt
import Derived.ShutString
namespace Go.Proofs.YtajcfhcdincngaaGreatDoor
open Go.RowKit
set_option maxRecDepth 100000
theorem topUnreached_goes : false = Rows.topUnreachedRow.goesBy Tryz.pinned.checked.prog := by kernel_rfl
end Go.Proofs.YtajcfhcdincngaaGreatDoor
