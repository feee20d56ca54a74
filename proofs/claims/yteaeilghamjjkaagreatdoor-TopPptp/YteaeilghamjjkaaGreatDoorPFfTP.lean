import Derived.Test.YteaeilghamjjkaaGreatDoorRows
import Derived.Test.YteaeilghamjjkaaGreatDoorChecked
import Derived.JoinedCond
import Derived.ShutString
namespace Go.Proofs.YteaeilghamjjkaaGreatDoor
open Go.RowKit
set_option maxRecDepth 100000
theorem zL5:(Tryz.f4.params.all (Tryz.pinned.checked.prog.readableRec ·))=true:=by kernel_rfl
theorem zL6:(namedTie Tryz.pinned.checked.prog Rows.topPptpRow.named (OpenSpec.ofChange Rows.topPptpSpec).bare.vars)=true:=by kernel_rfl
theorem zL7:((Rows.topPptpRow.stops==[]))=true:=by kernel_rfl
theorem zL8:((Tryz.pinned.checked.prog.stops==[]))=true:=by kernel_rfl
theorem zL9:((Rows.topPptpRow.knobs==[]))=true:=by kernel_rfl
theorem zMa:((Tryz.pinned.checked.prog.stopKnobs==[]))=true:=by kernel_rfl
end Go.Proofs.YteaeilghamjjkaaGreatDoor
