/- Package pool: count, TrailingZeros64, the numbers of a set in order. -/
import Derived.Test.YtomdccljoaieeaaDoorPB
namespace Go.Proofs.YtomdccljoaieeaaDoor
open Go.RowKit Go.Shelf
set_option maxRecDepth 100000
attribute [local go_sem] Oper.semAt_some
set_option linter.unusedVariables false
set_option linter.unusedSimpArgs false

def cnt (ws : Nat → Nat) : Nat → Nat
  | 0 => 0
  | k + 1 => cnt ws k + Pm.pcn 64 (ws k)
theorem pcn_le (n x : Nat) : Pm.pcn n x ≤ n := by
  unfold Pm.pcn
  have := List.countP_le_length (p := fun i => x.testBit i) (l := List.range n)
  simpa using this
theorem cnt_le (ws : Nat → Nat) : ∀ k, cnt ws k ≤ 64 * k
  | 0 => Nat.le_refl _
  | k + 1 => by
    have h1 := cnt_le ws k
    have h2 := pcn_le 64 (ws k)
    unfold cnt
    omega

end Go.Proofs.YtomdccljoaieeaaDoor
