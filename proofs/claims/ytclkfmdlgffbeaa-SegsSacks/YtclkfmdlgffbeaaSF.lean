/- Package segs: what a packet's datagram is. -/
import Derived.Test.YtclkfmdlgffbeaaW9
import Derived.Test.YtclkfmdlgffbeaaSE
namespace Go.Proofs.Ytclkfmdlgffbeaa
open Go.RowKit Go.Shelf
set_option maxRecDepth 100000
set_option linter.unusedVariables false
set_option linter.unusedSimpArgs false

/-- What a packet's datagram is refused with (0: nothing). -/
def pue (proto src dst : Int) (zs : List Int) : Int := if proto ≠ 17 then 12 else if zs.length < 8 then 3 else if wat zs 4 ≠ zs.length then 4 else if wat zs 6 ≠ 0 ∧ Mt.cks (psd src dst 17 zs.length ++ zs) ≠ 0 then 5 else 0
/-- A datagram's cells of zeros. -/
abbrev zud : List Value := [.int .u16 0, .int .u16 0, .bool false, .slice none 0 0]
theorem getAt2_lit (zs : List Int) (p : Int) (k : Nat) (hk : p = k) (h : k + 2 ≤ zs.length) : getAt2 zs p = wat zs k := by
  subst hk
  unfold getAt2
  rw [if_pos (by omega), Int.toNat_natCast]