import Derived.Test.YteaeilghamjjkaaGreatDoorRows
import Derived.Test.YteaeilghamjjkaaGreatDoorChecked
import Derived.JoinedCond
import Derived.ShutString
namespace Go.Proofs.YteaeilghamjjkaaGreatDoor
open Go.RowKit
set_option maxRecDepth 100000
theorem zOc:((Rows.topFtpRow.plainKeys==Tryz.pinned.checked.prog.plainKeys))=true:=by kernel_rfl
theorem zOd:(Rows.topFtpRow.shortTexts.isNone)=true:=by kernel_rfl
theorem zOe:(Tryz.pinned.checked.prog.stopsHeard)=true:=by kernel_rfl
theorem zOf:(Tryz.pinned.checked.prog.mayEnter)=true:=by kernel_rfl
theorem zOg:((Rows.topFtpRow.lifted==Tryz.pinned.checked.prog.liftsFinal))=true:=by kernel_rfl
theorem zOh:((Tryz.pinned.checked.prog.make==some Rows.topFtpRow.make))=true:=by kernel_rfl
theorem zOi:((Rows.topFtpRow.kinds==(if Rows.topFtpRow.domain.isEmpty then []else Tryz.f3.params.toList.map fun t=>match Tryz.pinned.checked.prog.underlying t with|some (.int k)=>some k|_=>none)))=true:=by kernel_rfl
theorem zOj:((Rows.topFtpRow.pinned==Rows.topFtpRow.pinnedBy))=true:=by kernel_rfl
theorem zOk:((Rows.topFtpRow.veiled==(Tryz.f3.params.toList++(OpenSpec.ofChange Rows.topFtpSpec).bare.plain.varTypes Tryz.pinned.checked.prog++Tryz.f3.resultTypes.toList).any (Tryz.pinned.checked.prog.veiledRec ·)))=true:=by kernel_rfl
theorem zOl:(Rows.topFtpRow.veiledFits Tryz.pinned.checked.prog Tryz.f3.params.toList (Tryz.f3.params.toList++(OpenSpec.ofChange Rows.topFtpSpec).bare.plain.varTypes Tryz.pinned.checked.prog++Tryz.f3.resultTypes.toList))=true:=by kernel_rfl
end Go.Proofs.YteaeilghamjjkaaGreatDoor
