/- The bytes of a header, written out, and what they tell. -/
import Derived.Test.YtibjgaelaijgpaaGreatDoorV2
namespace Go.Proofs.YtibjgaelaijgpaaGreatDoor
set_option maxRecDepth 100000

end Go.Proofs.YtibjgaelaijgpaaGreatDoor
