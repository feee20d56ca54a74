/- Closed facts of the row of TopUncalled. -/
import Derived.Test.YtohflohdbkamnaaGreatDoorRows
import Derived.Test.YtohflohdbkamnaaGreatDoorChecked
import Derived.JoinedCond
import Derived.ShutString
namespace Go.Proofs.YtohflohdbkamnaaGreatDoor
open Go.RowKit
set_option maxRecDepth 100000

theorem topUncalled_fk3 : (Tryz.f5.params.all (Tryz.pinned.checked.prog.readableRec ·)) = true := by kernel_rfl

theorem topUncalled_fk4 : (namedTie Tryz.pinned.checked.prog Rows.topUncalledRow.named (OpenSpec.ofChange Rows.topUncalledSpec).bare.vars) = true := by kernel_rfl

theorem topUncalled_fk5 : ((Rows.topUncalledRow.stops == [])) = true := by kernel_rfl

theorem topUncalled_fk6 : ((Tryz.pinned.checked.prog.stops == [])) = true := by kernel_rfl

theorem topUncalled_fk7 : ((Rows.topUncalledRow.knobs == [])) = true := by kernel_rfl

theorem topUncalled_fk8 : ((Tryz.pinned.checked.prog.stopKnobs == [])) = true := by kernel_rfl

end Go.Proofs.YtohflohdbkamnaaGreatDoor
