/- Package segs: numbers put at a header's end. -/
import Derived.Test.YtghpakfjpdifaaaGreatDoorSA
namespace Go.Proofs.YtghpakfjpdifaaaGreatDoor
open Go.RowKit Go.Shelf
set_option maxRecDepth 100000
set_option linter.unusedVariables false
set_option linter.unusedSimpArgs false

/-- A number's two bytes, its four. -/
def b2 (n : Int) : List Int := [n / 256, n % 256]
def b4 (n : Int) : List Int := [n / 65536 / 256, n / 65536 % 256, n % 65536 / 256, n % 65536 % 256]
end Go.Proofs.YtghpakfjpdifaaaGreatDoor
