/- Package pool: TrailingZeros64. -/
import Derived.Test.YtohflohdbkamnaaGreatDoorPC
namespace Go.Proofs.YtohflohdbkamnaaGreatDoor
open Go.RowKit Go.Shelf
set_option maxRecDepth 100000
attribute [local go_sem] Oper.semAt_some
set_option linter.unusedVariables false
set_option linter.unusedSimpArgs false

/-- The library's table of places. -/
def Dz (w : World) : Prop := ∀ j, j < 64 → w.cell? ⟨1, j, none⟩ = some (.int .u8 (Lib.deBruijn64tab.getD j 0 : Nat))
theorem Dz.pos {w : World} (h : Dz w) : 1 < w.heap.size := World.block_lt_of_cell? w ⟨1, 0, none⟩ (h 0 (by omega))
theorem Dz.below {w w' : World} {n : Nat} (h : Dz w) (hb : Below n w w') (hn : 1 < n) : Dz w' := fun i hi => (hb.cell (p := ⟨1, i, none⟩) hn).trans (h i hi)
theorem Dz.later {w w' : World} (h : Dz w) (l : Later w w') : Dz w' := h.below l h.pos

end Go.Proofs.YtohflohdbkamnaaGreatDoor
