/- The law's 'live' of layer 2. -/
import Derived.Test.YtghpakfjpdifaaaGreatDoorV4
import Derived.Test.YtghpakfjpdifaaaGreatDoorHd
namespace Go.Proofs.YtghpakfjpdifaaaGreatDoor
open Go.RowKit Go.Shelf
set_option maxRecDepth 100000

theorem rd_zero (w : World) : Rd w.heap.size w (.slice none 0 0) [] := .inl ⟨none, 0, rfl, rfl, by omega, fun _ => rfl⟩
end Go.Proofs.YtghpakfjpdifaaaGreatDoor
