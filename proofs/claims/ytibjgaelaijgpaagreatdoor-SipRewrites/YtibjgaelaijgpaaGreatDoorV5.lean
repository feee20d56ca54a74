/- The law's 'live' of layer 2. -/
import Derived.Test.YtibjgaelaijgpaaGreatDoorV4
import Derived.Test.YtibjgaelaijgpaaGreatDoorHd
namespace Go.Proofs.YtibjgaelaijgpaaGreatDoor
open Go.RowKit Go.Shelf
set_option maxRecDepth 100000

end Go.Proofs.YtibjgaelaijgpaaGreatDoor
