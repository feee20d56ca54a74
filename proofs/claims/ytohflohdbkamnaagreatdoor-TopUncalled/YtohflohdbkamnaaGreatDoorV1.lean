/- Package ipv4: the sizes of a packet, what is wrong with it, whether it is right. -/
import Derived.Test.YtohflohdbkamnaaGreatDoorW7
namespace Go.Proofs.YtohflohdbkamnaaGreatDoor
open Go.RowKit Go.Shelf
set_option maxRecDepth 100000

end Go.Proofs.YtohflohdbkamnaaGreatDoor
