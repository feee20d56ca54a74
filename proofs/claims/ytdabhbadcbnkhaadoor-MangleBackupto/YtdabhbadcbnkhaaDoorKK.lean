/- Layer 5: Reverse, Key of both sides; bytesOf, Hash. -/
import Derived.Test.YtdabhbadcbnkhaaDoorW4
namespace Go.Proofs.YtdabhbadcbnkhaaDoor
open Go.RowKit
set_option maxRecDepth 100000
set_option linter.unusedVariables false
set_option linter.unusedSimpArgs false

def kyp (p a : Int) : Int := if p == 47 then 0 else a

def hstep (h x : Int) : Int := bits .xor .u32 h (x % 4294967296) * 16777619 % 4294967296
def hsh (zs : List Int) : Int := zs.foldl hstep 2166136261

end Go.Proofs.YtdabhbadcbnkhaaDoor