/- Contracts of the small functions of package wire and of the document's answers beside them: what each returns; none changes memory that was there. -/
import Derived.Test.YtibjgaelaijgpaaGreatDoorProg
import Derived.Test.YtibjgaelaijgpaaGreatDoorMath
import Derived.WalkKit
import Derived.WalkLawsBesides
import Derived.WalkSpells
import Derived.Outline
import Derived.Below
import Derived.Laws.BitsAllLaws
import Derived.Deep.QuietTactic
import Derived.BigQuiet
namespace Go.Proofs.YtibjgaelaijgpaaGreatDoor
open Go.RowKit
set_option maxRecDepth 100000

theorem hide {p : Prop} (h : p) : Hid p := h
/-- What a slice of bytes reads as: none of them, wherever it leads; or cells below block n₀. -/
def Rd (n₀ : Nat) (W : World) (sv : Value) (zs : List Int) : Prop :=
  (∃ a cap, sv = .slice a 0 cap ∧ zs = [] ∧ cap ≤ 9223372036854775807 ∧ (a = none → cap = 0)) ∨
  ∃ b off cap, sv = .slice (some ⟨b, off, none⟩) zs.length cap ∧ zs ≠ [] ∧ zs.length ≤ cap ∧ cap ≤ 9223372036854775807 ∧ b < n₀ ∧ ∀ j, j < zs.length → W.cell? ⟨b, off + j, none⟩ = some (.int .u8 (zs[j]?.getD 0))

theorem Rd.below {n₀ : Nat} {A B : World} (h : Below n₀ A B) {sv : Value} {zs : List Int} : Rd n₀ A sv zs → Rd n₀ B sv zs
  | .inl e => .inl e
  | .inr ⟨b, off, cap, e, hne, hl, hm, hb, hc⟩ => .inr ⟨b, off, cap, e, hne, hl, hm, hb, fun j hj => (h.cell (p := ⟨b, off + j, none⟩) hb).trans (hc j hj)⟩
theorem Rd.mono {n₀ n₁ : Nat} {A : World} (h : n₀ ≤ n₁) {sv : Value} {zs : List Int} : Rd n₀ A sv zs → Rd n₁ A sv zs
  | .inl e => .inl e
  | .inr ⟨b, off, cap, e, hne, hl, hm, hb, hc⟩ => .inr ⟨b, off, cap, e, hne, hl, hm, Nat.lt_of_lt_of_le hb h, hc⟩
theorem Rd.slice {n₀ : Nat} {A : World} {sv : Value} {zs : List Int} : Rd n₀ A sv zs → ∃ a cap, sv = .slice a zs.length cap ∧ zs.length ≤ cap ∧ cap ≤ 9223372036854775807
  | .inl ⟨a, cap, e, hz, hm, _⟩ => ⟨a, cap, by rw [e, hz]; rfl, by rw [hz]; exact Nat.zero_le _, hm⟩
  | .inr ⟨b, off, cap, e, _, hl, hm, _⟩ => ⟨_, cap, e, hl, hm⟩
/-- The first k of them. -/
theorem Rd.take {n₀ : Nat} {A : World} {a : Option Addr} {len cap : Nat} {zs : List Int} (k : Nat) (hk : k ≤ len) (h : Rd n₀ A (.slice a len cap) zs) : Rd n₀ A (.slice a k cap) (zs.take k) := by
  rcases h with ⟨a', cap', e, hz, hm, hn⟩ | ⟨b, off, cap', e, hne, hl, hm, hb, hc⟩
  · cases e
    obtain rfl : k = 0 := by omega
    exact .inl ⟨a, cap, rfl, by simp, hm, hn⟩
  · cases e
    by_cases h0 : k = 0
    · subst h0
      exact .inl ⟨_, cap, rfl, by simp, hm, fun h => by cases h⟩
    · have hlen : (zs.take k).length = k := by simp; omega
      refine .inr ⟨b, off, cap, by rw [hlen], fun e => by rw [e] at hlen; simp at hlen; omega, by omega, hm, hb, fun j hj => ?_⟩
      rw [hc j (by omega)]
      simp [show j < k by omega]

end Go.Proofs.YtibjgaelaijgpaaGreatDoor
