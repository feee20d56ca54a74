/- The document's answer for a check sum (its words as a list, folded one by one), and Good of both. -/
import Derived.OwnWalk
import Derived.Test.YtibjgaelaijgpaaGreatDoorW4
namespace Go.Proofs.YtibjgaelaijgpaaGreatDoor
open Go.RowKit Go.Shelf
set_option maxRecDepth 100000

theorem info_u8 : (Tryz.prog.info? 5).map (fun i => (i.zero, i.size, i.bytes)) = some (some (.int .u8 0), 1, 1) := by kernel_rfl

end Go.Proofs.YtibjgaelaijgpaaGreatDoor
