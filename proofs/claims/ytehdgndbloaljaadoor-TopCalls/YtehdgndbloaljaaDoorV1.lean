/- Package ipv4: the sizes of a packet, what is wrong with it, whether it is right. -/
import Derived.Test.YtehdgndbloaljaaDoorW7
namespace Go.Proofs.YtehdgndbloaljaaDoor
open Go.RowKit Go.Shelf
set_option maxRecDepth 100000

/-- What is wrong with a packet of so many bytes of Options and Data. -/
def flt (lo ld : Nat) : Int := if 40 < lo ∨ lo % 4 ≠ 0 then 4 else if 65535 < 20 + lo + ld then 8 else 0

end Go.Proofs.YtehdgndbloaljaaDoor