/- The document's answers for words put and got. -/
import Derived.Test.YtghpakfjpdifaaaGreatDoorW8
namespace Go.Proofs.YtghpakfjpdifaaaGreatDoor
open Go.RowKit Go.Shelf
set_option maxRecDepth 100000

/-- The word of two bytes where both are there, else 0; of four. -/
def getAt2 (zs : List Int) (p : Int) : Int := if 0 ≤ p ∧ p + 2 ≤ zs.length then wat zs p.toNat else 0
def getAt4 (zs : List Int) (p : Int) : Int := if 0 ≤ p ∧ p + 4 ≤ zs.length then wat4 zs p.toNat else 0

theorem get16_at {n₀ : Nat} (sv : Value) (zs : List Int) (hB : Mt.By zs) (p : Int) (w : World) (hI : Rd n₀ w sv zs) :
  Calls Tryz.prog 84 #[sv, .int .i64 p] w fun e w' => e = .returned (.int .u16 (getAt2 zs p)) ∧ ∃ n, w' = w.drewN n := by
 by_cases h : 0 ≤ p ∧ p + 2 ≤ zs.length
 ·obtain ⟨n, rfl⟩ := Int.eq_ofNat_of_zero_le h.1
  unfold getAt2
  rw [if_pos h, Int.toNat_natCast]
  exact get16_rd sv zs hB n (by omega) w hI
 ·unfold getAt2
  rw [if_neg h]
  obtain ⟨a, cap, rfl, h1, h2⟩ := hI.slice
  exact (get16_no a zs.length cap p w (by omega) (by omega)).mono fun e w' ⟨he, hw⟩ => ⟨he, 0, hw⟩

theorem get32_at {n₀ : Nat} (sv : Value) (zs : List Int) (hB : Mt.By zs) (p : Int) (w : World) (hI : Rd n₀ w sv zs) :
  Calls Tryz.prog 49 #[sv, .int .i64 p] w fun e w' => e = .returned (.int .u32 (getAt4 zs p)) ∧ ∃ n, w' = w.drewN n := by
 by_cases h : 0 ≤ p ∧ p + 4 ≤ zs.length
 ·obtain ⟨n, rfl⟩ := Int.eq_ofNat_of_zero_le h.1
  unfold getAt4
  rw [if_pos h, Int.toNat_natCast]
  exact get32_rd sv zs hB n (by omega) w hI
 ·unfold getAt4
  rw [if_neg h]
  obtain ⟨a, cap, rfl, h1, h2⟩ := hI.slice
  exact (get32_no a zs.length cap p w (by omega) (by omega)).mono fun e w' ⟨he, hw⟩ => ⟨he, 0, hw⟩

set_option maxHeartbeats 1000000 in
theorem rget16_at {n₀ : Nat} (sv : Value) (zs : List Int) (hB : Mt.By zs) (p : Int) (hp : -9223372036854775808 ≤ p ∧ p ≤ 9223372036854775807) (hl : zs.length ≤ 140737488355328) (w : World) (hI : Rd n₀ w sv zs) :
  Calls Tryz.prog 62 #[sv, .int .i64 p] w fun e w' => e = .returned (.int .u16 (getAt2 zs p)) ∧ ∃ n, w' = w.drewN n := by
 by_cases h : 0 ≤ p ∧ p + 2 ≤ zs.length
 ·obtain ⟨n, rfl⟩ := Int.eq_ofNat_of_zero_le h.1
  have HG : Hid (getAt2 zs (n : Int) = wat zs n) := by show _ = _; unfold getAt2; rw [if_pos h, Int.toNat_natCast]
  obtain ⟨b, off, cap, rfl, hl1, hm, _, hc⟩ := hI.cells (by omega)
  have c0 := hc n (by omega)
  have c1 := hc (n + 1) (by omega)
  have b0 := hB.at n
  have b1 := hB.at (n + 1)
  have HW : Hid (wat zs n = zs[n]?.getD 0 * 256 + zs[n + 1]?.getD 0) := rfl
  have t0 : ¬ (n : Int) < 0 := by omega
  have t1 : ¬ (zs.length : Int) < 2 := by omega
  have t2 : ¬ (zs.length : Int) - 2 < n := by omega
  have i1 : (n : Int) < zs.length := by omega
  have i2 : (n : Int) + 1 < zs.length := by omega
  generalize zs[n]?.getD 0 = x at c0 b0 HW
  generalize zs[n + 1]?.getD 0 = y at c1 b1 HW
  clear hc h hI hp
  go_enter Tryz.func62, Tryz.ntmps62
  go_wp2
  go_quiet (fail)
  go_wp2
  rw [or_join x y b0 b1]
  go_ret
  exact ⟨by rw [HG.out, HW.out]; rfl, nq, rfl⟩
 ·have HG : Hid (getAt2 zs p = 0) := by show _ = _; unfold getAt2; rw [if_neg h]
  obtain ⟨a, cap, rfl, h1, h2⟩ := hI.slice
  have ht : p < 0 ∨ (0 ≤ p ∧ (zs.length : Int) < 2) ∨ (0 ≤ p ∧ 2 ≤ (zs.length : Int) ∧ (zs.length : Int) - 2 < p) := by omega
  clear h
  rcases ht with t0 | ⟨t0, t1⟩ | ⟨t0, t1, t2⟩
  all_goals
   go_enter Tryz.func62, Tryz.ntmps62
   go_wp2
   go_ret
   exact ⟨by rw [HG.out]; rfl, 0, rfl⟩
end Go.Proofs.YtghpakfjpdifaaaGreatDoor
