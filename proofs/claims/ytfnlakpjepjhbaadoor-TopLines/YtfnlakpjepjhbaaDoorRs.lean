/- A guarded operation that is not wanted is passed over. -/
import Derived.Test.YtfnlakpjepjhbaaDoorRh
namespace Go.Proofs.YtfnlakpjepjhbaaDoor
open Go.RowKit Go.Shelf
set_option maxRecDepth 100000
set_option linter.unusedVariables false
set_option linter.unusedSimpArgs false

section
variable {P : Program} {l : List Oper} {Q : Exit → Act → World → Prop} {fuel : Nat} {listed : Array Bool} {a : Act} {w : World} {R : World → World → Prop}
/-- Number i, whose guard does not hold, is passed over first. -/
theorem anyR_skipG (hp : Pre R) (i : Nat) {oi : Oper} (hi : nthOp l i = some oi)
    (hs : Region.noSelect l.toArray = true) (hf : Region.free .any l.toArray listed i = true) (hr : (Region.ready .any l.toArray listed).contains i = true)
    (hQ : ∀ v c a w, Q (.panic c) (a.put oi.dst v) w → Q (.panic c) a w) (hg : Region.wanted oi (yielded l.toArray a.tmps) = false)
    (h : wpAnyR P .any l.toArray Q R fuel (listed.setIfInBounds i true) (a.put oi.dst undef) w) : wpAnyR P .any l.toArray Q R (fuel + 1) listed a w := by
  have hi' : l.toArray[i]? = some oi := by rw [← hi, nthOp_eq]; simp
  exact wpAnyR_first hp.1 hp.2 hi' (Region.noSelect_spec hs) (hQ undef) fuel listed a w (Region.free_spec hi' hf) (by simpa using hr) (.inr ⟨hg, rfl⟩) h
end

end Go.Proofs.YtfnlakpjepjhbaaDoor
