/- Package segs: the packet with a unit in it. -/
import Derived.Deep.DeepCutAuto
import Derived.Deep.CutBlock
import Derived.Test.YtdabhbadcbnkhaaGreatDoorCA
import Derived.Test.YtdabhbadcbnkhaaGreatDoorRt
namespace Go.Proofs.YtdabhbadcbnkhaaGreatDoor
open Go.RowKit Go.Shelf
set_option maxRecDepth 100000
set_option linter.unusedVariables false
set_option linter.unusedSimpArgs false

end Go.Proofs.YtdabhbadcbnkhaaGreatDoor
