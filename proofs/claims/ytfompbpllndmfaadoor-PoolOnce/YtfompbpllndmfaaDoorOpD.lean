/- How an argument that is a slice of numbers of 16 bits reads. -/
import Derived.Test.YtfompbpllndmfaaDoorW4
import Derived.ProofKit
import Derived.OpenShut
namespace Go.Proofs.YtfompbpllndmfaaDoor
open Go.ChangeShapes Go.WideShapes Go.ChangeAt Go.RowKit
set_option maxRecDepth 100000
set_option linter.unusedVariables false

def U16s (ns : List Int) : Prop := ∀ z ∈ ns, 0 ≤ z ∧ z ≤ 65535
def RdH (n₀ : Nat) (W : World) (sv : Value) (ns : List Int) : Prop :=
  (∃ a cap, sv = .slice a 0 cap ∧ ns = [] ∧ cap ≤ 9223372036854775807) ∨
  ∃ b off cap, sv = .slice (some ⟨b, off, none⟩) ns.length cap ∧ ns ≠ [] ∧ ns.length ≤ cap ∧ cap ≤ 9223372036854775807 ∧ b < n₀ ∧ ∀ j, j < ns.length → W.cell? ⟨b, off + j, none⟩ = some (.int .u16 (ns[j]?.getD 0))
theorem RdH.below {n₀ : Nat} {A B : World} (h : Below n₀ A B) {sv : Value} {ns : List Int} : RdH n₀ A sv ns → RdH n₀ B sv ns
  | .inl e => .inl e
  | .inr ⟨b, off, cap, e, hne, hl, hm, hb, hc⟩ => .inr ⟨b, off, cap, e, hne, hl, hm, hb, fun j hj => (h.cell (p := ⟨b, off + j, none⟩) hb).trans (hc j hj)⟩
theorem RdH.mono {n₀ n₁ : Nat} {A : World} (h : n₀ ≤ n₁) {sv : Value} {ns : List Int} : RdH n₀ A sv ns → RdH n₁ A sv ns
  | .inl e => .inl e
  | .inr ⟨b, off, cap, e, hne, hl, hm, hb, hc⟩ => .inr ⟨b, off, cap, e, hne, hl, hm, Nat.lt_of_lt_of_le hb h, hc⟩
theorem RdH.slice {n₀ : Nat} {A : World} {sv : Value} {ns : List Int} : RdH n₀ A sv ns → ∃ a cap, sv = .slice a ns.length cap ∧ ns.length ≤ cap ∧ cap ≤ 9223372036854775807
  | .inl ⟨a, cap, e, hz, hm⟩ => ⟨a, cap, by rw [e, hz]; rfl, by rw [hz]; exact Nat.zero_le _, hm⟩
  | .inr ⟨b, off, cap, e, _, hl, hm, _⟩ => ⟨_, cap, e, hl, hm⟩
theorem RdH.cells {n₀ : Nat} {w : World} {sv : Value} {ns : List Int} (h : RdH n₀ w sv ns) (hne : 0 < ns.length) : ∃ b off cap, sv = .slice (some ⟨b, off, none⟩) ns.length cap ∧ ns.length ≤ cap ∧ cap ≤ 9223372036854775807 ∧ b < n₀ ∧ ∀ j, j < ns.length → w.cell? ⟨b, off + j, none⟩ = some (.int .u16 (ns[j]?.getD 0)) := by
  rcases h with ⟨a, cap, e, hz, _⟩ | ⟨b, off, cap, e, _, hl, hm, hb, hc⟩
  · subst hz; simp at hne
  · exact ⟨b, off, cap, e, hl, hm, hb, hc⟩

theorem rdH_of_row {W : World} (x : Addr) (l c : Nat) (zs : List Int) (hl : l ≤ c) (hm : c ≤ 9223372036854775807) (hz : zs.length = c) (hcell : ∀ i, i < zs.length → W.cell? (x.add i) = some (.int .u16 (zs.getD i 0))) (hwz : ∀ n ∈ zs, (Lit.int .u16 n).wf = true) : ∃ ys, U16s ys ∧ RdH W.heap.size W (.slice (some x) l c) ys := by
  refine ⟨zs.take l, fun z hz => ?_, ?_⟩
  · have := hwz z (List.mem_of_mem_take hz)
    simpa [Lit.wf, IntKind.min, IntKind.max, IntKind.signed, IntKind.bits] using this
  · by_cases h0 : l = 0
    · subst h0
      exact .inl ⟨_, _, rfl, by simp, hm⟩
    · obtain ⟨b, off, spot⟩ := x
      have hc := hcell 0 (by omega)
      have hspot : spot = none := by simpa [Addr.add] using World.cell?_spot hc
      subst hspot
      have hlen : (zs.take l).length = l := by simp; omega
      have hb : b < W.heap.size := by
        have := World.block_lt_of_cell? W _ hc
        simpa [Addr.add] using this
      refine .inr ⟨b, off, c, by rw [hlen], fun e => by rw [e] at hlen; simp at hlen; omega, by omega, hm, hb, fun j hj => ?_⟩
      have := hcell j (by omega)
      rw [show (⟨b, off, none⟩ : Addr).add j = ⟨b, off + j, none⟩ from by unfold Addr.add; split <;> simp_all] at this
      rw [this]
      simp [show j < l by omega]
end Go.Proofs.YtfompbpllndmfaaDoor
