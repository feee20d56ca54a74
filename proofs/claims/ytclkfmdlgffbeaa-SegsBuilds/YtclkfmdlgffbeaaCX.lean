/- The document's BuildIcmp. -/
import Derived.Test.YtclkfmdlgffbeaaCW
import Derived.Test.YtclkfmdlgffbeaaWA
namespace Go.Proofs.Ytclkfmdlgffbeaa
open Go.RowKit Go.Shelf
set_option maxRecDepth 100000
set_option linter.unusedVariables false
set_option linter.unusedSimpArgs false

theorem flt_none (lo : Nat) (h : flt lo 0 ≠ 0) (n : Nat) : flt lo 0 = 4 ∧ flt lo n = 4 := by
  unfold flt at *
  by_cases c : 40 < lo ∨ lo % 4 ≠ 0
  · rw [if_pos c, if_pos c]; exact ⟨rfl, rfl⟩
  · rw [if_neg c, if_neg (by omega)] at h
    exact absurd rfl h
theorem flt_some (lo : Nat) (h : flt lo 0 = 0) (n : Nat) : flt lo n = (if 65535 < 20 + lo + n then 8 else 0) := by
  unfold flt at *
  by_cases c : 40 < lo ∨ lo % 4 ≠ 0
  · rw [if_pos c] at h; exact absurd h (by decide)
  · rw [if_neg c]
theorem own_four (w : World) (a b c d : Int) : (w.alloc (.cells #[.int .u8 a, .int .u8 b, .int .u8 c, .int .u8 d] 5)).ownsRow w.heap.size 5 1 (.slice (some ⟨w.heap.size, 0, none⟩) 4 4) [a, b, c, d].length ([a, b, c, d].map (Value.int .u8)) :=
  ⟨rfl, .inr ⟨w.heap.size, 4, _, rfl, Nat.le_refl _, heap_alloc_new w _, by simp, by simp [maxLen], rfl, rfl⟩⟩

theorem but_app {base n size : Nat} {e : TypeId} {W W' : World} {v : Value} {xs : List Value} (ho : W.ownsRow base e size v n xs) (hg : W.grownBy W' v.ownBlock) : But (fun b => base ≤ b) W W' :=
  ⟨hg.os, hg.tape, hg.output, hg.size, fun i hi he => hg.block i hi (fun e => he (ho.lt i e.symm).1)⟩