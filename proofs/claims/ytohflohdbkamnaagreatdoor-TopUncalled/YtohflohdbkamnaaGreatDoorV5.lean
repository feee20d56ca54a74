/- The law's 'live' of layer 2. -/
import Derived.Test.YtohflohdbkamnaaGreatDoorV4
import Derived.Test.YtohflohdbkamnaaGreatDoorHd
namespace Go.Proofs.YtohflohdbkamnaaGreatDoor
open Go.RowKit Go.Shelf
set_option maxRecDepth 100000

end Go.Proofs.YtohflohdbkamnaaGreatDoor
