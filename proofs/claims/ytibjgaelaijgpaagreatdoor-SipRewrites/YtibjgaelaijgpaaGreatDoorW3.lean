/- The check sum of package wire: at every slice of bytes Sum answers what the mathematics says, and nothing that was there has turned. -/
import Derived.Test.YtibjgaelaijgpaaGreatDoorW2
namespace Go.Proofs.YtibjgaelaijgpaaGreatDoor
open Go.RowKit Go.Shelf
set_option maxRecDepth 100000
attribute [local go_sem] Oper.semAt_some

end Go.Proofs.YtibjgaelaijgpaaGreatDoor
