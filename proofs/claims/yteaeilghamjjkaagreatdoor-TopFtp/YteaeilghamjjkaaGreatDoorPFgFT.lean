import Derived.Test.YteaeilghamjjkaaGreatDoorRows
import Derived.Test.YteaeilghamjjkaaGreatDoorChecked
import Derived.JoinedCond
import Derived.ShutString
namespace Go.Proofs.YteaeilghamjjkaaGreatDoor
open Go.RowKit
set_option maxRecDepth 100000
theorem zN3:((Rows.topFtpRow.maps==(Tryz.f3.params.toList++(OpenSpec.ofChange Rows.topFtpSpec).bare.plain.varTypes Tryz.pinned.checked.prog).any (Tryz.pinned.checked.prog.mapsRec ·)))=true:=by kernel_rfl
theorem zN4:((Rows.topFtpRow.ifaces==(Tryz.f3.params.toList++(OpenSpec.ofChange Rows.topFtpSpec).bare.plain.varTypes Tryz.pinned.checked.prog).any (Tryz.pinned.checked.prog.ifacesRec ·)))=true:=by kernel_rfl
theorem zN5:((Rows.topFtpRow.mapsOut==Tryz.pinned.checked.prog.mapsAmong Tryz.f3.resultTypes.toList))=true:=by kernel_rfl
theorem zN6:((Rows.topFtpRow.loops==(Tryz.f3.params.toList++(OpenSpec.ofChange Rows.topFtpSpec).bare.plain.varTypes Tryz.pinned.checked.prog).any (Tryz.pinned.checked.prog.loopsFrom ·)))=true:=by kernel_rfl
theorem zN7:((Rows.topFtpRow.wideKeys==(Tryz.f3.params.toList++(OpenSpec.ofChange Rows.topFtpSpec).bare.plain.varTypes Tryz.pinned.checked.prog++Tryz.f3.resultTypes.toList).any (Tryz.pinned.checked.prog.wideKeysFrom ·)))=true:=by kernel_rfl
theorem zN8:((OpenSpec.ofChange Rows.topFtpSpec).bare.vars.all (Tryz.pinned.checked.prog.varReadable ·))=true:=by kernel_rfl
theorem zN9:(Tryz.f3.resultTypes.all (fun t=>Tryz.pinned.checked.prog.readableRec t && decide (t<Tryz.pinned.checked.prog.types.size)))=true:=by kernel_rfl
theorem zOa:((Rows.topFtpRow.ifacesOut==Tryz.f3.resultTypes.toList.any (Tryz.pinned.checked.prog.ifacesRec ·)))=true:=by kernel_rfl
theorem zOb:((Rows.topFtpRow.loopsOut==Tryz.f3.resultTypes.toList.any (Tryz.pinned.checked.prog.loopsFrom ·)))=true:=by kernel_rfl
end Go.Proofs.YteaeilghamjjkaaGreatDoor
