/- Layer 5: Reverse, Key of both sides; bytesOf, Hash. -/
import Derived.Test.YtghpakfjpdifaaaGreatDoorW4
namespace Go.Proofs.YtghpakfjpdifaaaGreatDoor
open Go.RowKit
set_option maxRecDepth 100000
set_option linter.unusedVariables false
set_option linter.unusedSimpArgs false

end Go.Proofs.YtghpakfjpdifaaaGreatDoor
