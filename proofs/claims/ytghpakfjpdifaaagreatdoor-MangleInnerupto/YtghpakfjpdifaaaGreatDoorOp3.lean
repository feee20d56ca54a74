/- How an argument that is a message, or a frame, reads. -/
import Derived.Test.YtghpakfjpdifaaaGreatDoorOp2
namespace Go.Proofs.YtghpakfjpdifaaaGreatDoor
open Go.ChangeShapes Go.WideShapes Go.ChangeAt Go.RowKit Go.Joins
set_option maxRecDepth 100000
set_option linter.unusedVariables false

end Go.Proofs.YtghpakfjpdifaaaGreatDoor
