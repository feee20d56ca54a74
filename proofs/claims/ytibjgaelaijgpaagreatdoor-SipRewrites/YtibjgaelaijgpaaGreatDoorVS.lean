/- Package ipv4's reader: the packet that it takes out. -/
import Derived.Test.YtibjgaelaijgpaaGreatDoorVQ
import Derived.Test.YtibjgaelaijgpaaGreatDoorHd
namespace Go.Proofs.YtibjgaelaijgpaaGreatDoor
open Go.RowKit Go.Shelf
set_option maxRecDepth 100000
set_option linter.unusedVariables false
set_option linter.unusedSimpArgs false

theorem Rd.drop {n₀ : Nat} {A : World} {a : Option Addr} {len cap : Nat} {zs : List Int} (k : Nat) (hk : k ≤ len) (h : Rd n₀ A (.slice a len cap) zs) : Rd n₀ A (sliced a k len cap 1) (zs.drop k) := by
  rcases h with ⟨a', cap', e, hz, hm, hn⟩ | ⟨b, off, cap', e, hne, hl, hm, hb, hc⟩
  · cases e
    obtain rfl : k = 0 := by omega
    subst hz
    cases a with
    | none => exact .inl ⟨none, cap, by simp [sliced], by simp, hm, hn⟩
    | some x => exact .inl ⟨if cap = 0 then some x else (some x).map (·.add (0 * 1)), cap, by simp [sliced], by simp, hm, fun h => by split at h <;> simp at h⟩
  · cases e
    by_cases h0 : k = zs.length
    · subst h0
      exact .inl ⟨if cap = zs.length then some ⟨b, off, none⟩ else (some (⟨b, off, none⟩ : Addr)).map (·.add (zs.length * 1)), cap - zs.length, by simp [sliced], by simp, by omega, fun h => by split at h <;> simp at h⟩
    · refine .inr ⟨b, off + k, cap - k, ?_, ?_, by simp; omega, by omega, hb, fun j hj => ?_⟩
      · simp [sliced]
        rw [if_neg (by omega)]
        unfold Addr.add
        split <;> simp_all
      · intro e
        have := congrArg List.length e
        simp at this
        omega
      · have hj' : k + j < zs.length := by simp at hj; omega
        rw [Nat.add_assoc, hc (k + j) hj']
        simp

theorem Ow.but {base : Nat} {E : Nat → Prop} {W W' : World} {sv : Value} {zs : List Int} (h : Ow base W sv zs) (hb : But E W W') (hE : ∀ b, base ≤ b → ¬ E b) : Ow base W' sv zs := by
  rcases h with h | ⟨g, cap, cur, e, hg, h1, h2, h3, h4, h5⟩
  · exact .inl h
  · exact .inr ⟨g, cap, cur, e, hg, h1, h2, h3, (hb.block g (Array.getElem?_eq_some_iff.1 h4).1 (hE g hg)).trans h4, h5⟩

end Go.Proofs.YtibjgaelaijgpaaGreatDoor
