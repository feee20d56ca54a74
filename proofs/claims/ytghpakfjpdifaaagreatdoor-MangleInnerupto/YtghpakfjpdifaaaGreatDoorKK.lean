/- Layer 5: Reverse, Key of both sides; bytesOf, Hash. -/
import Derived.Test.YtghpakfjpdifaaaGreatDoorW4
namespace Go.Proofs.YtghpakfjpdifaaaGreatDoor
open Go.RowKit
set_option maxRecDepth 100000
set_option linter.unusedVariables false
set_option linter.unusedSimpArgs false

def hstep (h x : Int) : Int := bits .xor .u32 h (x % 4294967296) * 16777619 % 4294967296
def hsh (zs : List Int) : Int := zs.foldl hstep 2166136261

end Go.Proofs.YtghpakfjpdifaaaGreatDoor
