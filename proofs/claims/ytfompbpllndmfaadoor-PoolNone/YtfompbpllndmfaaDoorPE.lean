/- Mathematics of words of 64 bits: their ones, rising. -/
import Derived.Test.YtfompbpllndmfaaDoorPA
import Derived.Lib.TrailingZeros
namespace Go.Proofs.YtfompbpllndmfaaDoor.Pm
set_option maxRecDepth 100000
/-- The ones of a word, rising. -/
def bl (x : Nat) : List Nat := (List.range 64).filter (fun j => x.testBit j)
theorem bl_zero : bl 0 = [] := by unfold bl; simp
theorem range_at (k n : Nat) (h : k < n) : List.range n = List.range k ++ k :: (List.range (n - k - 1)).map (fun j => k + 1 + j) := by
  obtain ⟨m, rfl⟩ : ∃ m, n = k + 1 + m := ⟨n - k - 1, by omega⟩
  rw [List.range_add, List.range_succ, List.append_assoc, show k + 1 + m - k - 1 = m from by omega]
  rfl
theorem filter_first (p q : Nat → Bool) (k n : Nat) (h : k < n) (hl : ∀ j, j < k → p j = false) (hk : p k = true) (hq : ∀ j, q j = (p j && decide (j ≠ k))) : (List.range n).filter p = k :: (List.range n).filter q := by
  have e1 : (List.range k).filter p = [] := by rw [List.filter_eq_nil_iff]; intro j hj; rw [hl j (by simpa using hj)]; simp
  have e2 : (List.range k).filter q = [] := by rw [List.filter_eq_nil_iff]; intro j hj; rw [hq, hl j (by simpa using hj)]; simp
  rw [range_at k n h, List.filter_append, List.filter_append, e1, e2, List.filter_cons_of_pos hk, List.filter_cons_of_neg (by rw [hq]; simp)]
  simp only [List.nil_append]
  congr 1
  refine List.filter_congr fun j hj => ?_
  obtain ⟨i, _, rfl⟩ := List.mem_map.1 hj
  rw [hq]
  simp
  omega
theorem low_clear (x : Nat) (h0 : x ≠ 0) (hx : x < 18446744073709551616) : Lib.ctz 64 x < 64 ∧ (∀ j, j < Lib.ctz 64 x → x.testBit j = false) ∧ x.testBit (Lib.ctz 64 x) = true ∧ ∀ j, (x &&& (x - 1)).testBit j = (x.testBit j && decide (j ≠ Lib.ctz 64 x)) := by
  have hc : Lib.ctz 64 x = Lib.ctzFrom 64 x := by unfold Lib.ctz; rw [if_neg h0]
  obtain ⟨m, hm, hk⟩ := Lib.ctzFrom_spec 64 x (by omega) (by simpa using hx)
  rw [hc]
  generalize Lib.ctzFrom 64 x = k at *
  have hp : 0 < 2 ^ k := Nat.two_pow_pos k
  have t1 : ∀ j, x.testBit j = if j < k then false else (2 * m + 1).testBit (j - k) := fun j => by
    have := Nat.testBit_two_pow_mul_add (2 * m + 1) (b := 0) (i := k) hp j
    rw [Nat.add_zero, ← hm] at this
    rw [this]
    split <;> simp
  have e : x - 1 = 2 ^ k * (2 * m) + (2 ^ k - 1) := by rw [hm, Nat.mul_add, Nat.mul_one]; omega
  have t2 : ∀ j, (x - 1).testBit j = if j < k then (2 ^ k - 1).testBit j else (2 * m).testBit (j - k) := fun j => by
    rw [e]
    exact Nat.testBit_two_pow_mul_add (2 * m) (b := 2 ^ k - 1) (i := k) (by omega) j
  refine ⟨hk, fun j hj => by rw [t1, if_pos hj], ?_, fun j => ?_⟩
  · rw [t1, if_neg (by omega), Nat.sub_self]
    simp
  · rw [Nat.testBit_and, t1, t2]
    by_cases hj : j < k
    · simp [hj]
    · rw [if_neg hj, if_neg hj]
      by_cases hjk : j = k
      · subst hjk
        simp
      · obtain ⟨i, hi⟩ : ∃ i, j - k = i + 1 := ⟨j - k - 1, by omega⟩
        rw [hi, Nat.testBit_succ, Nat.testBit_succ]
        rw [show (2 * m + 1) / 2 = m from by omega, show (2 * m) / 2 = m from by omega]
        simp [hjk]
/-- The least of a word's ones, and the others. -/
theorem bl_step (x : Nat) (h0 : x ≠ 0) (hx : x < 18446744073709551616) : bl x = Lib.ctz 64 x :: bl (x &&& (x - 1)) := by
  obtain ⟨h1, h2, h3, h4⟩ := low_clear x h0 hx
  unfold bl
  exact filter_first _ _ _ 64 h1 h2 h3 h4
theorem bl_pcn (x : Nat) : (bl x).length = ((List.range 64).countP (fun i => x.testBit i)) := by
  unfold bl
  rw [List.countP_eq_length_filter]
end Go.Proofs.YtfompbpllndmfaaDoor.Pm
