import Derived.ProofKit
import Derived.OpenShut
import Derived.SizedLaws
import Derived.Lib.SmallJoins
import Derived.Test.YtajcfhcdincngaaGreatDoorW4
namespace Go.Proofs.YtajcfhcdincngaaGreatDoor
open Go.ChangeShapes Go.WideShapes Go.ChangeAt Go.RowKit Go.Joins
set_option maxRecDepth 100000
end Go.Proofs.YtajcfhcdincngaaGreatDoor
