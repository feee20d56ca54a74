/- Package segs: options as they lie in memory; which are right, how long they are. -/
import Derived.Test.YtdabhbadcbnkhaaGreatDoorMo
import Derived.Test.YtdabhbadcbnkhaaGreatDoorRh
import Derived.Test.YtdabhbadcbnkhaaGreatDoorSE
namespace Go.Proofs.YtdabhbadcbnkhaaGreatDoor
open Go.RowKit Go.Shelf
set_option maxRecDepth 100000
set_option linter.unusedVariables false
set_option linter.unusedSimpArgs false

/-- The slice value reads as these options, all of it below block n₀. -/
def RdO (n₀ : Nat) (W : World) (sv : Value) (os : List Opt) : Prop :=
  (∃ a cap, sv = .slice a 0 cap ∧ os = [] ∧ cap ≤ 9223372036854775807 ∧ (a = none → cap = 0)) ∨
  ∃ b off cap, sv = .slice (some ⟨b, off, none⟩) os.length cap ∧ os ≠ [] ∧ os.length ≤ cap ∧ cap ≤ 9223372036854775807 ∧ b < n₀ ∧
    ∀ j, j < os.length → ∃ s, W.cell? ⟨b, off + j * 2, none⟩ = some (.int .u8 (os[j]?.getD (0, [])).1) ∧ W.cell? ⟨b, off + j * 2 + 1, none⟩ = some s ∧ Rd n₀ W s (os[j]?.getD (0, [])).2
theorem RdO.below {n₀ : Nat} {A B : World} (h : Below n₀ A B) {sv : Value} {os : List Opt} : RdO n₀ A sv os → RdO n₀ B sv os
  | .inl e => .inl e
  | .inr ⟨b, off, cap, e, hne, hl, hm, hb, hc⟩ => .inr ⟨b, off, cap, e, hne, hl, hm, hb, fun j hj => let ⟨s, h1, h2, h3⟩ := hc j hj; ⟨s, (h.cell (p := ⟨b, off + j * 2, none⟩) hb).trans h1, (h.cell (p := ⟨b, off + j * 2 + 1, none⟩) hb).trans h2, h3.below h⟩⟩
theorem RdO.mono {n₀ n₁ : Nat} {A : World} (h : n₀ ≤ n₁) {sv : Value} {os : List Opt} : RdO n₀ A sv os → RdO n₁ A sv os
  | .inl e => .inl e
  | .inr ⟨b, off, cap, e, hne, hl, hm, hb, hc⟩ => .inr ⟨b, off, cap, e, hne, hl, hm, Nat.lt_of_lt_of_le hb h, fun j hj => let ⟨s, h1, h2, h3⟩ := hc j hj; ⟨s, h1, h2, h3.mono h⟩⟩
theorem RdO.slice {n₀ : Nat} {A : World} {sv : Value} {os : List Opt} : RdO n₀ A sv os → ∃ a cap, sv = .slice a os.length cap ∧ os.length ≤ cap ∧ cap ≤ 9223372036854775807
  | .inl ⟨a, cap, e, hz, hm, _⟩ => ⟨a, cap, by rw [e, hz]; rfl, by rw [hz]; exact Nat.zero_le _, hm⟩
  | .inr ⟨b, off, cap, e, _, hl, hm, _⟩ => ⟨_, cap, e, hl, hm⟩
theorem RdO.cells {n₀ : Nat} {W : World} {sv : Value} {os : List Opt} (h : RdO n₀ W sv os) (hne : 0 < os.length) : ∃ b off cap, sv = .slice (some ⟨b, off, none⟩) os.length cap ∧ os.length ≤ cap ∧ cap ≤ 9223372036854775807 ∧ b < n₀ ∧
    ∀ j, j < os.length → ∃ s, W.cell? ⟨b, off + j * 2, none⟩ = some (.int .u8 (os[j]?.getD (0, [])).1) ∧ W.cell? ⟨b, off + j * 2 + 1, none⟩ = some s ∧ Rd n₀ W s (os[j]?.getD (0, [])).2 := by
  rcases h with ⟨a, cap, _, rfl, _⟩ | ⟨b, off, cap, e, _, hl, hm, hb, hc⟩
  · simp at hne
  · exact ⟨b, off, cap, e, hl, hm, hb, hc⟩

section
variable {P : Program} {l : List Oper} {Q : Exit → Act → World → Prop} {fuel : Nat} {listed : Array Bool} {a : Act} {w : World} {R : World → World → Prop}
end
end Go.Proofs.YtdabhbadcbnkhaaGreatDoor
