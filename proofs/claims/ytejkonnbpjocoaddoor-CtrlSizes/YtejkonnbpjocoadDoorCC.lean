/- Package ctrl: what a packet's message is; what kind it is. -/
import Derived.Test.YtejkonnbpjocoadDoorCB
namespace Go.Proofs.YtejkonnbpjocoadDoor
open Go.RowKit Go.Shelf
set_option maxRecDepth 100000
set_option linter.unusedVariables false
set_option linter.unusedSimpArgs false

/-- What a packet's message is refused with (0: nothing). -/
def pie (proto : Int) (zs : List Int) : Int := if proto ≠ 1 then 12 else if zs.length < 8 then 3 else if Mt.cks zs ≠ 0 then 5 else 0
/-- A message's cells of zeros. -/
abbrev zm : List Value := [.int .u8 0, .int .u8 0, .int .u32 0, .slice none 0 0]