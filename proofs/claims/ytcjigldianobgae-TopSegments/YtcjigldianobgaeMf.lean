/- One bit turned: bytes whose check sum was good are good no more. -/
import Derived.Test.YtcjigldianobgaeW4
namespace Go.Proofs.Ytcjigldianobgae
open Go.RowKit
set_option maxRecDepth 100000
set_option linter.unusedVariables false

theorem nat_flip : ∀ r < 8, ∀ n < 256, (n ^^^ 2 ^ r = n + 2 ^ r ∨ n = (n ^^^ 2 ^ r) + 2 ^ r) ∧ n ^^^ 2 ^ r < 256 := by decide +kernel
theorem u8_flip (z : Int) (hz : 0 ≤ z ∧ z ≤ 255) (r : Nat) (hr : r < 8) (p : Int) (hp : p = ((2 ^ r : Nat) : Int)) : (bits .xor .u8 z p = z + p ∨ bits .xor .u8 z p = z - p) ∧ 0 ≤ bits .xor .u8 z p ∧ bits .xor .u8 z p ≤ 255 := by
  obtain ⟨n, rfl⟩ := Int.eq_ofNat_of_zero_le hz.1
  subst hp
  have h2 : 2 ^ r < 256 := by
    have : r = 0 ∨ r = 1 ∨ r = 2 ∨ r = 3 ∨ r = 4 ∨ r = 5 ∨ r = 6 ∨ r = 7 := by omega
    rcases this with rfl | rfl | rfl | rfl | rfl | rfl | rfl | rfl <;> decide
  have e : bits .xor .u8 (n : Int) ((2 ^ r : Nat) : Int) = ((n ^^^ 2 ^ r : Nat) : Int) := u8_xor_nat n (2 ^ r) (by omega) h2
  obtain ⟨h3, h4⟩ := nat_flip r hr n (by omega)
  rw [e]
  refine ⟨?_, by omega, by omega⟩
  rcases h3 with h3 | h3
  · left; omega
  · right; omega
theorem cks_flip (zs : List Int) (hg : Mt.cks zs = 0) (j : Nat) (hj : j < zs.length) (r : Nat) (hr : r < 8) (y : Int) (hy : y = zs[j]?.getD 0 + ((2 ^ r : Nat) : Int) ∨ y = zs[j]?.getD 0 - ((2 ^ r : Nat) : Int)) : Mt.cks (zs.set j y) ≠ 0 := by
  intro h0
  have hrr : r = 0 ∨ r = 1 ∨ r = 2 ∨ r = 3 ∨ r = 4 ∨ r = 5 ∨ r = 6 ∨ r = 7 := by omega
  have hp : ((2 ^ r : Nat) : Int) = 1 ∨ ((2 ^ r : Nat) : Int) = 2 ∨ ((2 ^ r : Nat) : Int) = 4 ∨ ((2 ^ r : Nat) : Int) = 8 ∨ ((2 ^ r : Nat) : Int) = 16 ∨ ((2 ^ r : Nat) : Int) = 32 ∨ ((2 ^ r : Nat) : Int) = 64 ∨ ((2 ^ r : Nat) : Int) = 128 := by
    rcases hrr with rfl | rfl | rfl | rfl | rfl | rfl | rfl | rfl <;> simp
  generalize ((2 ^ r : Nat) : Int) = p at *
  have hg1 := Mt.fd_eq _ (show Mt.fd (Mt.tw true zs) = 65535 from by unfold Mt.cks at hg; omega)
  have hg2 := Mt.fd_eq _ (show Mt.fd (Mt.tw true (zs.set j y)) = 65535 from by unfold Mt.cks at h0; omega)
  rw [Mt.tw_set true _ j y hj] at hg2
  generalize zs[j]?.getD 0 = z at *
  generalize Mt.tw true zs = T at *
  have hd : y - z = p ∨ y - z = -p := by omega
  generalize y - z = d at *
  by_cases htu : Mt.turn true j = true
  · rw [if_pos htu] at hg2
    omega
  · rw [if_neg htu] at hg2
    omega
end Go.Proofs.Ytcjigldianobgae
