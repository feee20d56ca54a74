/- Closed facts of the row of GateNone. -/
import Derived.Test.YtnffjilmkpbelaaGreatDoorRows
import Derived.Test.YtnffjilmkpbelaaGreatDoorChecked
import Derived.JoinedCond
import Derived.ShutString
namespace Go.Proofs.YtnffjilmkpbelaaGreatDoor
open Go.RowKit
set_option maxRecDepth 100000

theorem gateNone_fk3 : (Tryz.f3.params.all (Tryz.pinned.checked.prog.readableRec ·)) = true := by kernel_rfl

theorem gateNone_fk4 : (namedTie Tryz.pinned.checked.prog Rows.gateNoneRow.named (OpenSpec.ofChange Rows.gateNoneSpec).bare.vars) = true := by kernel_rfl

theorem gateNone_fk5 : ((Rows.gateNoneRow.stops == [])) = true := by kernel_rfl

theorem gateNone_fk6 : ((Tryz.pinned.checked.prog.stops == [])) = true := by kernel_rfl

theorem gateNone_fk7 : ((Rows.gateNoneRow.knobs == [])) = true := by kernel_rfl

theorem gateNone_fk8 : ((Tryz.pinned.checked.prog.stopKnobs == [])) = true := by kernel_rfl

end Go.Proofs.YtnffjilmkpbelaaGreatDoor
