import Derived.ProofKit
import Derived.OpenShut
import Derived.SizedLaws
import Derived.Lib.SmallJoins
import Derived.Test.YteaeilghamjjkaaGreatDoorX31
namespace Go.Proofs.YteaeilghamjjkaaGreatDoor
open Go.ChangeShapes Go.WideShapes Go.ChangeAt Go.RowKit Go.Joins
set_option maxRecDepth 100000
end Go.Proofs.YteaeilghamjjkaaGreatDoor
