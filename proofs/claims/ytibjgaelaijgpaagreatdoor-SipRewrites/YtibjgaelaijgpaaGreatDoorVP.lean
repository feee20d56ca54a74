/- Package ipv4's reader: how it refuses, and what it measures. -/
import Derived.Defers
import Derived.Recover
import Derived.Laws.Pointers
import Derived.Test.YtibjgaelaijgpaaGreatDoorV3
import Derived.Test.YtibjgaelaijgpaaGreatDoorRg
namespace Go.Proofs.YtibjgaelaijgpaaGreatDoor
open Go.RowKit Go.Shelf
set_option maxRecDepth 100000
set_option linter.unusedVariables false
set_option linter.unusedSimpArgs false

end Go.Proofs.YtibjgaelaijgpaaGreatDoor
