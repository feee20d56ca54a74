/- How an argument that is a slice of numbers of 32 bits reads. -/
import Derived.Test.YtclkfmdlgffbeaaX1
import Derived.ProofKit
import Derived.OpenShut
namespace Go.Proofs.Ytclkfmdlgffbeaa
open Go.ChangeShapes Go.WideShapes Go.ChangeAt Go.RowKit
set_option maxRecDepth 100000
set_option linter.unusedVariables false

theorem rdU_of_row {W : World} (x : Addr) (l c : Nat) (zs : List Int) (hl : l ≤ c) (hm : c ≤ 9223372036854775807) (hz : zs.length = c) (hcell : ∀ i, i < zs.length → W.cell? (x.add i) = some (.int .u32 (zs.getD i 0))) (hwz : ∀ n ∈ zs, (Lit.int .u32 n).wf = true) : ∃ ys, U32s ys ∧ RdU W.heap.size W (.slice (some x) l c) ys := by
  refine ⟨zs.take l, fun z hz => ?_, ?_⟩
  · have := hwz z (List.mem_of_mem_take hz)
    simpa [Lit.wf, IntKind.min, IntKind.max, IntKind.signed, IntKind.bits] using this
  · by_cases h0 : l = 0
    · subst h0
      exact .inl ⟨_, _, rfl, by simp, hm⟩
    · obtain ⟨b, off, spot⟩ := x
      have hc := hcell 0 (by omega)
      have hspot : spot = none := by simpa [Addr.add] using World.cell?_spot hc
      subst hspot
      have hlen : (zs.take l).length = l := by simp; omega
      have hb : b < W.heap.size := by
        have := World.block_lt_of_cell? W _ hc
        simpa [Addr.add] using this
      refine .inr ⟨b, off, c, by rw [hlen], fun e => by rw [e] at hlen; simp at hlen; omega, by omega, hm, hb, fun j hj => ?_⟩
      have := hcell j (by omega)
      rw [show (⟨b, off, none⟩ : Addr).add j = ⟨b, off + j, none⟩ from by unfold Addr.add; split <;> simp_all] at this
      rw [this]
      simp [show j < l by omega]
end Go.Proofs.Ytclkfmdlgffbeaa
