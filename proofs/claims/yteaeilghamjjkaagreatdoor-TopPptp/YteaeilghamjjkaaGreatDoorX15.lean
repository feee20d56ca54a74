import Derived.Test.YteaeilghamjjkaaGreatDoorX16
import Derived.Deep.OwnRows
namespace Go.Proofs.YteaeilghamjjkaaGreatDoor
open Go.RowKit Go.Shelf
set_option maxRecDepth 100000
set_option linter.unusedVariables false
set_option linter.unusedSimpArgs false
end Go.Proofs.YteaeilghamjjkaaGreatDoor
