/- Package ctrl: frames built. -/
import Derived.Test.YtghpakfjpdifaaaGreatDoorCC
namespace Go.Proofs.YtghpakfjpdifaaaGreatDoor
open Go.RowKit Go.Shelf
set_option maxRecDepth 100000
set_option linter.unusedVariables false
set_option linter.unusedSimpArgs false

/-- The four beginnings, one behind the other. -/
def tab : List Int := [32, 1, 136, 11, 48, 1, 136, 11, 32, 129, 136, 11, 48, 129, 136, 11]
/-- They stand where the package keeps them. -/
def Tb (w : World) : Prop := ∀ i, i < 16 → w.cell? ⟨0, i, none⟩ = some (.int .u8 (tab[i]?.getD 0))
theorem Tb.pos {w : World} (h : Tb w) : 0 < w.heap.size := World.block_lt_of_cell? w ⟨0, 0, none⟩ (h 0 (by omega))
theorem Tb.below {w w' : World} {n : Nat} (h : Tb w) (hb : Below n w w') (hn : 0 < n) : Tb w' := fun i hi => (hb.cell (p := ⟨0, i, none⟩) hn).trans (h i hi)
theorem Tb.later {w w' : World} (h : Tb w) (l : Later w w') : Tb w' := h.below l h.pos

end Go.Proofs.YtghpakfjpdifaaaGreatDoor
