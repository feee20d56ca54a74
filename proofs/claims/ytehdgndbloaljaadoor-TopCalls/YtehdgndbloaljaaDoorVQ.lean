/- Package ipv4's reader: what it checks, and the packet that it takes out. -/
import Derived.Test.YtehdgndbloaljaaDoorVP
namespace Go.Proofs.YtehdgndbloaljaaDoor
open Go.RowKit Go.Shelf
set_option maxRecDepth 100000
set_option linter.unusedVariables false
set_option linter.unusedSimpArgs false

/-- What is wrong with a header whose sizes fit. -/
def chk (zs : List Int) : Int :=
  if Mt.cks (zs.take (hl4 zs).toNat) ≠ 0 then 5 else if wat zs 6 % 16384 ≠ 0 then 7 else if 32768 ≤ wat zs 6 then 4 else 0

theorem and14 (x : Int) (h : 0 ≤ x ∧ x ≤ 65535) : bits .and .u16 x 16383 = x % 16384 := by
  rw [u16_and x 16383 h.1 (by omega) (by omega) (by omega)]
  have : x.toNat &&& (16383 : Int).toNat = x.toNat % 16384 := Nat.and_two_pow_sub_one_eq_mod x.toNat 14
  omega
theorem nat_bit (n k : Nat) : n &&& 2 ^ k = if n / 2 ^ k % 2 = 1 then 2 ^ k else 0 := by
  apply Nat.eq_of_testBit_eq
  intro i
  rw [Nat.testBit_and, Nat.testBit_two_pow]
  by_cases h : k = i
  · subst h
    rw [Nat.testBit_eq_decide_div_mod_eq]
    split <;> simp_all
  · split <;> simp [h, Nat.testBit_two_pow]
theorem and_top (x : Int) (h : 0 ≤ x ∧ x ≤ 65535) : bits .and .u16 x 32768 = if 32768 ≤ x then 32768 else 0 := by
  rw [u16_and x 32768 h.1 (by omega) (by omega) (by omega)]
  have := nat_bit x.toNat 15
  simp at this
  simp
  rw [this]
  split <;> split <;> omega
theorem and_keep (x : Int) (h : 0 ≤ x ∧ x ≤ 65535) : bits .and .u16 x 16384 = if 16384 ≤ x % 32768 then 16384 else 0 := by
  rw [u16_and x 16384 h.1 (by omega) (by omega) (by omega)]
  have := nat_bit x.toNat 14
  simp at this
  simp
  rw [this]
  split <;> split <;> omega

end Go.Proofs.YtehdgndbloaljaaDoor