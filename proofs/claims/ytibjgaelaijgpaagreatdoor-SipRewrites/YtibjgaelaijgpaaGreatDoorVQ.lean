/- Package ipv4's reader: what it checks, and the packet that it takes out. -/
import Derived.Test.YtibjgaelaijgpaaGreatDoorVP
namespace Go.Proofs.YtibjgaelaijgpaaGreatDoor
open Go.RowKit Go.Shelf
set_option maxRecDepth 100000
set_option linter.unusedVariables false
set_option linter.unusedSimpArgs false

end Go.Proofs.YtibjgaelaijgpaaGreatDoor
