/- Layer 5: Reverse, Key of both sides; bytesOf, Hash. -/
import Derived.Test.YtdabhbadcbnkhaaGreatDoorW4
namespace Go.Proofs.YtdabhbadcbnkhaaGreatDoor
open Go.RowKit
set_option maxRecDepth 100000
set_option linter.unusedVariables false
set_option linter.unusedSimpArgs false

end Go.Proofs.YtdabhbadcbnkhaaGreatDoor
