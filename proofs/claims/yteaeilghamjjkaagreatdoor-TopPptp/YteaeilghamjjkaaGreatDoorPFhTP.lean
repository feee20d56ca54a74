import Derived.Test.YteaeilghamjjkaaGreatDoorRows
import Derived.Test.YteaeilghamjjkaaGreatDoorChecked
import Derived.JoinedCond
import Derived.ShutString
namespace Go.Proofs.YteaeilghamjjkaaGreatDoor
open Go.RowKit
set_option maxRecDepth 100000
theorem zJy:((Rows.topPptpRow.plainKeys==Tryz.pinned.checked.prog.plainKeys))=true:=by kernel_rfl
theorem zJz:(Rows.topPptpRow.shortTexts.isNone)=true:=by kernel_rfl
theorem zJ0:(Tryz.pinned.checked.prog.stopsHeard)=true:=by kernel_rfl
theorem zJ1:(Tryz.pinned.checked.prog.mayEnter)=true:=by kernel_rfl
theorem zJ2:((Rows.topPptpRow.lifted==Tryz.pinned.checked.prog.liftsFinal))=true:=by kernel_rfl
theorem zJ3:((Tryz.pinned.checked.prog.make==some Rows.topPptpRow.make))=true:=by kernel_rfl
theorem zJ4:((Rows.topPptpRow.kinds==(if Rows.topPptpRow.domain.isEmpty then []else Tryz.f4.params.toList.map fun t=>match Tryz.pinned.checked.prog.underlying t with|some (.int k)=>some k|_=>none)))=true:=by kernel_rfl
theorem zJ5:((Rows.topPptpRow.pinned==Rows.topPptpRow.pinnedBy))=true:=by kernel_rfl
theorem zJ6:((Rows.topPptpRow.veiled==(Tryz.f4.params.toList++(OpenSpec.ofChange Rows.topPptpSpec).bare.plain.varTypes Tryz.pinned.checked.prog++Tryz.f4.resultTypes.toList).any (Tryz.pinned.checked.prog.veiledRec ·)))=true:=by kernel_rfl
theorem zJ7:(Rows.topPptpRow.veiledFits Tryz.pinned.checked.prog Tryz.f4.params.toList (Tryz.f4.params.toList++(OpenSpec.ofChange Rows.topPptpSpec).bare.plain.varTypes Tryz.pinned.checked.prog++Tryz.f4.resultTypes.toList))=true:=by kernel_rfl
end Go.Proofs.YteaeilghamjjkaaGreatDoor
