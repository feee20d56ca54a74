/- Package ipv4's reader: how it refuses, and what it measures. -/
import Derived.Defers
import Derived.Recover
import Derived.Laws.Pointers
import Derived.Test.YtehdgndbloaljaaDoorV3
import Derived.Test.YtehdgndbloaljaaDoorRg
namespace Go.Proofs.YtehdgndbloaljaaDoor
open Go.RowKit Go.Shelf
set_option maxRecDepth 100000
set_option linter.unusedVariables false
set_option linter.unusedSimpArgs false

/-- How long a header says that it is; what is wrong with the sizes. -/
def hl4 (zs : List Int) : Int := zs[0]?.getD 0 % 16 * 4
def msr (zs : List Int) : Int :=
  if zs.length < 20 then 3 else if zs[0]?.getD 0 / 16 ≠ 4 then 6 else if hl4 zs < 20 then 4 else if (zs.length : Int) < hl4 zs then 3 else if wat zs 2 < hl4 zs then 4 else 0
theorem and15 (x : Int) (h : 0 ≤ x ∧ x ≤ 255) : bits .and .u8 x 15 = x % 16 := by
  rw [u8_and x 15 h.1 (by omega) (by omega) (by omega)]
  have : x.toNat &&& (15 : Int).toNat = x.toNat % 16 := Nat.and_two_pow_sub_one_eq_mod x.toNat 4
  omega
theorem hl4_bd {zs : List Int} (h : Mt.By zs) : 0 ≤ hl4 zs ∧ hl4 zs ≤ 60 := by have := h.at 0; unfold hl4; omega

end Go.Proofs.YtehdgndbloaljaaDoor