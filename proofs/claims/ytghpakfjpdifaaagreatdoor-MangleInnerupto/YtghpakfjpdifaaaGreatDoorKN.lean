/- Layer 5: Of, of a datagram. -/
import Derived.Test.YtghpakfjpdifaaaGreatDoorKM
import Derived.Test.YtghpakfjpdifaaaGreatDoorRt
namespace Go.Proofs.YtghpakfjpdifaaaGreatDoor
open Go.RowKit Go.Shelf
set_option maxRecDepth 100000
set_option linter.unusedVariables false
set_option linter.unusedSimpArgs false

theorem run_store_fn (P : Program) (w : World) (a : Addr) (m : Mode) (f : Fn) (xs ys : Array Value) : (store a (.func f xs ys) m).run P w = stored P w a (.func f xs ys) m := run_store P w a _ m rfl

end Go.Proofs.YtghpakfjpdifaaaGreatDoor
