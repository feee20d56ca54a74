/- Package segs: numbers put at a header's end. -/
import Derived.Test.YtdabhbadcbnkhaaDoorSA
namespace Go.Proofs.YtdabhbadcbnkhaaDoor
open Go.RowKit Go.Shelf
set_option maxRecDepth 100000
set_option linter.unusedVariables false
set_option linter.unusedSimpArgs false

/-- A number's two bytes, its four. -/
def b2 (n : Int) : List Int := [n / 256, n % 256]
def b4 (n : Int) : List Int := [n / 65536 / 256, n / 65536 % 256, n % 65536 / 256, n % 65536 % 256]
theorem flat_take {α : Type} (f : Int → List α) (ns : List Int) (k : Nat) (h : k < ns.length) : (ns.take (k + 1)).flatMap f = (ns.take k).flatMap f ++ f (ns[k]?.getD 0) := by
  rw [List.take_succ_eq_append_getElem h, List.flatMap_append]
  simp [h]
theorem b2_len (ns : List Int) : (ns.flatMap b2).length = 2 * ns.length := by
  induction ns with
  | nil => rfl
  | cons a r ih => simp [List.flatMap_cons, b2] at ih ⊢; omega
theorem b4_len (ns : List Int) : (ns.flatMap b4).length = 4 * ns.length := by
  induction ns with
  | nil => rfl
  | cons a r ih => simp [List.flatMap_cons, b4] at ih ⊢; omega

end Go.Proofs.YtdabhbadcbnkhaaDoor