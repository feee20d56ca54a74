/- The document's Masq and Dnat; whether rules are the same. -/
import Derived.Test.YtgjemeibaghfaabYO
namespace Go.Proofs.Ytgjemeibaghfaab
open Go.RowKit Go.Shelf
set_option maxRecDepth 100000
set_option linter.unusedVariables false
set_option linter.unusedSimpArgs false

theorem fnd_none {q : Ru → Bool} {l : List Ru} (h : ∀ j (hj : j < l.length), q l[j] = false) : fnd q l = zRu ∧ fdb q l = false := fnd_no fun x hx => by
  obtain ⟨j, hj, rfl⟩ := List.getElem_of_mem hx
  exact h j hj
theorem fnd_some {q : Ru → Bool} {l : List Ru} {k : Nat} (hk : k < l.length) (h : ∀ j (hj : j < l.length), j < k → q l[j] = false) (ht : q l[k] = true) : fnd q l = l[k] ∧ fdb q l = true := by
  have e : l = l.take k ++ [l[k]] ++ l.drop (k + 1) := by rw [List.take_append_getElem hk, List.take_append_drop]
  have := fnd_yes (p := q) (pre := l.take k) (x := l[k]) (rest := l.drop (k + 1)) (fun y hy => by
    obtain ⟨j, hj, rfl⟩ := List.getElem_of_mem hy
    rw [List.getElem_take]
    exact h j (by simp at hj; omega) (by simp at hj; omega)) ht
  rw [← e] at this
  exact this

end Go.Proofs.Ytgjemeibaghfaab