import Derived.Test.YteaeilghamjjkaaGreatDoorRows
import Derived.Test.YteaeilghamjjkaaGreatDoorChecked
import Derived.JoinedCond
import Derived.ShutString
namespace Go.Proofs.YteaeilghamjjkaaGreatDoor
open Go.RowKit
set_option maxRecDepth 100000
theorem zR6:(Tryz.f3.params.all (Tryz.pinned.checked.prog.readableRec ·))=true:=by kernel_rfl
theorem zR7:(namedTie Tryz.pinned.checked.prog Rows.topFtpRow.named (OpenSpec.ofChange Rows.topFtpSpec).bare.vars)=true:=by kernel_rfl
theorem zR8:((Rows.topFtpRow.stops==[]))=true:=by kernel_rfl
theorem zR9:((Tryz.pinned.checked.prog.stops==[]))=true:=by kernel_rfl
theorem zSa:((Rows.topFtpRow.knobs==[]))=true:=by kernel_rfl
theorem zSb:((Tryz.pinned.checked.prog.stopKnobs==[]))=true:=by kernel_rfl
end Go.Proofs.YteaeilghamjjkaaGreatDoor
