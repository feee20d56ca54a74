/- bytes.Equal, and package ipv4's Same. -/
import Derived.Test.YtohflohdbkamnaaGreatDoorW8
import Derived.Test.YtohflohdbkamnaaGreatDoorV3
namespace Go.Proofs.YtohflohdbkamnaaGreatDoor
open Go.RowKit Go.Shelf
set_option maxRecDepth 100000

end Go.Proofs.YtohflohdbkamnaaGreatDoor
