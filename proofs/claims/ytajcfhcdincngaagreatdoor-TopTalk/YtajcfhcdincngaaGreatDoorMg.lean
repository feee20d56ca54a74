/- A header of any flags and any check sum: what read tells of it. -/
import Derived.Test.YtajcfhcdincngaaGreatDoorX8
namespace Go.Proofs.YtajcfhcdincngaaGreatDoor
open Go.RowKit Go.Shelf
set_option maxRecDepth 100000
set_option linter.unusedVariables false
set_option linter.unusedSimpArgs false

section
variable (tos id f ttl proto src dst : Int) (zo zd : List Int) (all s : Int)
end

end Go.Proofs.YtajcfhcdincngaaGreatDoor
