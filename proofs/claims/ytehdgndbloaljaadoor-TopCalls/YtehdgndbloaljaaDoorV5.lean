/- The law's 'live' of layer 2. -/
import Derived.Test.YtehdgndbloaljaaDoorV4
import Derived.Test.YtehdgndbloaljaaDoorHd
namespace Go.Proofs.YtehdgndbloaljaaDoor
open Go.RowKit Go.Shelf
set_option maxRecDepth 100000

theorem rd_zero (w : World) : Rd w.heap.size w (.slice none 0 0) [] := .inl ⟨none, 0, rfl, rfl, by omega, fun _ => rfl⟩
theorem hdr_zero : hdr 0 0 false 0 0 0 0 [] 20 = [69, 0, 0, 20, 0, 0, 0, 0, 0, 0, 186, 235, 0, 0, 0, 0, 0, 0, 0, 0] := by decide +kernel

end Go.Proofs.YtehdgndbloaljaaDoor