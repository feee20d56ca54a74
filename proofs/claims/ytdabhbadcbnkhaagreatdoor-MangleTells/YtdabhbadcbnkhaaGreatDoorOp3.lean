/- How an argument that is a message, or a frame, reads. -/
import Derived.Test.YtdabhbadcbnkhaaGreatDoorOp2
namespace Go.Proofs.YtdabhbadcbnkhaaGreatDoor
open Go.ChangeShapes Go.WideShapes Go.ChangeAt Go.RowKit Go.Joins
set_option maxRecDepth 100000
set_option linter.unusedVariables false

end Go.Proofs.YtdabhbadcbnkhaaGreatDoor
