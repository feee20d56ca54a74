/- Package segs: options as they lie in memory; which are right, how long they are. -/
import Derived.Test.YtdabhbadcbnkhaaDoorMo
import Derived.Test.YtdabhbadcbnkhaaDoorRh
import Derived.Test.YtdabhbadcbnkhaaDoorSE
namespace Go.Proofs.YtdabhbadcbnkhaaDoor
open Go.RowKit Go.Shelf
set_option maxRecDepth 100000
set_option linter.unusedVariables false
set_option linter.unusedSimpArgs false

/-- The slice value reads as these options, all of it below block n₀. -/
def RdO (n₀ : Nat) (W : World) (sv : Value) (os : List Opt) : Prop :=
  (∃ a cap, sv = .slice a 0 cap ∧ os = [] ∧ cap ≤ 9223372036854775807 ∧ (a = none → cap = 0)) ∨
  ∃ b off cap, sv = .slice (some ⟨b, off, none⟩) os.length cap ∧ os ≠ [] ∧ os.length ≤ cap ∧ cap ≤ 9223372036854775807 ∧ b < n₀ ∧
    ∀ j, j < os.length → ∃ s, W.cell? ⟨b, off + j * 2, none⟩ = some (.int .u8 (os[j]?.getD (0, [])).1) ∧ W.cell? ⟨b, off + j * 2 + 1, none⟩ = some s ∧ Rd n₀ W s (os[j]?.getD (0, [])).2
theorem RdO.below {n₀ : Nat} {A B : World} (h : Below n₀ A B) {sv : Value} {os : List Opt} : RdO n₀ A sv os → RdO n₀ B sv os
  | .inl e => .inl e
  | .inr ⟨b, off, cap, e, hne, hl, hm, hb, hc⟩ => .inr ⟨b, off, cap, e, hne, hl, hm, hb, fun j hj => let ⟨s, h1, h2, h3⟩ := hc j hj; ⟨s, (h.cell (p := ⟨b, off + j * 2, none⟩) hb).trans h1, (h.cell (p := ⟨b, off + j * 2 + 1, none⟩) hb).trans h2, h3.below h⟩⟩
theorem RdO.mono {n₀ n₁ : Nat} {A : World} (h : n₀ ≤ n₁) {sv : Value} {os : List Opt} : RdO n₀ A sv os → RdO n₁ A sv os
  | .inl e => .inl e
  | .inr ⟨b, off, cap, e, hne, hl, hm, hb, hc⟩ => .inr ⟨b, off, cap, e, hne, hl, hm, Nat.lt_of_lt_of_le hb h, fun j hj => let ⟨s, h1, h2, h3⟩ := hc j hj; ⟨s, h1, h2, h3.mono h⟩⟩
theorem RdO.slice {n₀ : Nat} {A : World} {sv : Value} {os : List Opt} : RdO n₀ A sv os → ∃ a cap, sv = .slice a os.length cap ∧ os.length ≤ cap ∧ cap ≤ 9223372036854775807
  | .inl ⟨a, cap, e, hz, hm, _⟩ => ⟨a, cap, by rw [e, hz]; rfl, by rw [hz]; exact Nat.zero_le _, hm⟩
  | .inr ⟨b, off, cap, e, _, hl, hm, _⟩ => ⟨_, cap, e, hl, hm⟩
theorem RdO.cells {n₀ : Nat} {W : World} {sv : Value} {os : List Opt} (h : RdO n₀ W sv os) (hne : 0 < os.length) : ∃ b off cap, sv = .slice (some ⟨b, off, none⟩) os.length cap ∧ os.length ≤ cap ∧ cap ≤ 9223372036854775807 ∧ b < n₀ ∧
    ∀ j, j < os.length → ∃ s, W.cell? ⟨b, off + j * 2, none⟩ = some (.int .u8 (os[j]?.getD (0, [])).1) ∧ W.cell? ⟨b, off + j * 2 + 1, none⟩ = some s ∧ Rd n₀ W s (os[j]?.getD (0, [])).2 := by
  rcases h with ⟨a, cap, _, rfl, _⟩ | ⟨b, off, cap, e, _, hl, hm, hb, hc⟩
  · simp at hne
  · exact ⟨b, off, cap, e, hl, hm, hb, hc⟩

def rob (k : Int) (len : Nat) : Bool := k != 0 && (k != 1 || (len : Int) == 0)
def oszi (k : Int) (len : Nat) : Int := if k = 1 then 1 else 2 + (len : Int)
theorem rob_iff (o : Opt) : rob o.1 o.2.length = true ↔ okO o := by
  unfold rob okO
  obtain ⟨k, d⟩ := o
  by_cases h : k = 1 <;> cases d <;> simp_all <;> omega
theorem oszi_eq (o : Opt) : oszi o.1 o.2.length = (osz o : Int) := by unfold oszi osz; split <;> simp

section
variable {P : Program} {l : List Oper} {Q : Exit → Act → World → Prop} {fuel : Nat} {listed : Array Bool} {a : Act} {w : World} {R : World → World → Prop}
theorem anyR_skip (hp : Pre R) (i : Nat) {oi : Oper} (hi : nthOp l i = some oi)
    (hs : Region.noSelect l.toArray = true) (hf : Region.free .any l.toArray listed i = true) (hr : (Region.ready .any l.toArray listed).contains i = true)
    (hQ : ∀ c a w, Q (.panic c) (a.put oi.dst undef) w → Q (.panic c) a w) (hg : Region.wanted oi (yielded l.toArray a.tmps) = false)
    (h : wpAnyR P .any l.toArray Q R fuel (listed.setIfInBounds i true) (a.put oi.dst undef) w) : wpAnyR P .any l.toArray Q R (fuel + 1) listed a w := by
  have hi' : l.toArray[i]? = some oi := by rw [← hi, nthOp_eq]; simp
  exact wpAnyR_first hp.1 hp.2 hi' (Region.noSelect_spec hs) hQ fuel listed a w (Region.free_spec hi' hf) (by simpa using hr) (.inr ⟨hg, rfl⟩) h
end
end Go.Proofs.YtdabhbadcbnkhaaDoor
