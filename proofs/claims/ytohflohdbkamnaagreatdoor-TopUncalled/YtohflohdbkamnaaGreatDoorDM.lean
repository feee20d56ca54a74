/- The walk of TopUncalled, for its frame. -/
import Derived.Test.YtohflohdbkamnaaGreatDoorX1
import Derived.Test.YtohflohdbkamnaaGreatDoorTe
namespace Go.Proofs.YtohflohdbkamnaaGreatDoor
open Go.RowKit Go.Shelf
set_option linter.unusedVariables false
set_option maxRecDepth 100000

theorem walk_TopUncalled (w : World) (hT : Tb w) (hz : Dz w) (sv : Value) (zs : List Int) (hB : Mt.By zs) (hI : Rd w.heap.size w sv zs) (hsz : zs.length ≤ 140737488351232) :
    Calls Tryz.prog 5 #[sv] w fun e w' => e = .returned (.bool true) ∧ Below w.heap.size w w' := uncalled_any w hT sv zs hB hI
end Go.Proofs.YtohflohdbkamnaaGreatDoor
