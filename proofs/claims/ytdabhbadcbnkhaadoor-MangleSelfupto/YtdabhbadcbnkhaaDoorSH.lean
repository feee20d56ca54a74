/- Package segs: the bytes of options. -/
import Derived.Test.YtdabhbadcbnkhaaDoorSG
import Derived.Test.YtdabhbadcbnkhaaDoorRx
namespace Go.Proofs.YtdabhbadcbnkhaaDoor
open Go.RowKit Go.Shelf
set_option maxRecDepth 100000
set_option linter.unusedVariables false
set_option linter.unusedSimpArgs false

theorem HSt.below {tl : List Value} {t : TypeId} {ub : Nat} {N : Nat → Prop} {ys : List Int} {W W' : World} (h : HSt tl t ub N ys W) (l : Later W W') : HSt tl t ub N ys W' := by
  obtain ⟨v, h1, h2, h3⟩ := h
  refine ⟨v, (l.block ub (Array.getElem?_eq_some_iff.1 h1).1).trans h1, ⟨h2.1, h2.2.imp id ?_⟩, h3⟩
  rintro ⟨g, cap, cur, e, hg, hh, r⟩
  exact ⟨g, cap, cur, e, hg, (l.block g (Array.getElem?_eq_some_iff.1 hh).1).trans hh, r⟩
theorem HSt.cell {tl : List Value} {t : TypeId} {ub : Nat} {N : Nat → Prop} {ys : List Int} {W : World} (h : HSt tl t ub N ys W) : ∃ a c, W.cell? ⟨ub, 0, none⟩ = some (.slice a ys.length c) ∧ Ow (ub + 1) W (.slice a ys.length c) ys ∧ ys.length ≤ c := by
  obtain ⟨v, h1, h2, h3⟩ := h
  have hO := Ow.of_row h2
  obtain ⟨a, c, rfl, hc, _⟩ := hO.slice
  exact ⟨a, c, by have := block_cell h1 0; simpa using this, hO, hc⟩

/-- How many bytes lack up to a word. -/
def hpad (ub : Nat) (W : World) : Nat := match W.cell? ⟨ub, 0, none⟩ with | some (.slice _ n _) => padn n | _ => 0

end Go.Proofs.YtdabhbadcbnkhaaDoor