/- Package ipv4: Build of a packet. -/
import Derived.ArgAppend
import Derived.Test.YtibjgaelaijgpaaGreatDoorV2
namespace Go.Proofs.YtibjgaelaijgpaaGreatDoor
open Go.RowKit Go.Shelf
set_option maxRecDepth 100000

end Go.Proofs.YtibjgaelaijgpaaGreatDoor
