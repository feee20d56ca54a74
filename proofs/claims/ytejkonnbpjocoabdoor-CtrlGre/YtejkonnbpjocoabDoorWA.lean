/- The document's answers for four bytes got, and for words put. -/
import Derived.Test.YtejkonnbpjocoabDoorW9
namespace Go.Proofs.YtejkonnbpjocoabDoor
open Go.RowKit Go.Shelf
set_option maxRecDepth 100000

set_option maxHeartbeats 1000000 in
theorem rget32_at {n₀ : Nat} (sv : Value) (zs : List Int) (hB : Mt.By zs) (p : Int) (hp : -9223372036854775808 ≤ p ∧ p ≤ 9223372036854775807) (hl : zs.length ≤ 140737488355328) (w : World) (hI : Rd n₀ w sv zs) :
    Calls Tryd.prog 16 #[sv, .int .i64 p] w fun e w' => e = .returned (.int .u32 (getAt4 zs p)) ∧ ∃ n, w' = w.drewN n := by
  obtain ⟨a, cap, rfl, h1, h2⟩ := hI.slice
  by_cases h : 0 ≤ p ∧ p + 4 ≤ zs.length
  · obtain ⟨n, rfl⟩ := Int.eq_ofNat_of_zero_le h.1
    have HG : Hid (getAt4 zs (n : Int) = wat zs n * 65536 + wat zs (n + 2)) := by show _ = _; unfold getAt4; rw [if_pos h, Int.toNat_natCast]; rfl
    have HG1 : Hid (getAt2 zs (n : Int) = wat zs n) := by show _ = _; unfold getAt2; rw [if_pos (by omega), Int.toNat_natCast]
    have HG2 : Hid (getAt2 zs ((n : Int) + 2) = wat zs (n + 2)) := by show _ = _; unfold getAt2; rw [if_pos (by omega), show ((n : Int) + 2).toNat = n + 2 from by omega]
    have b0 := wat_bd hB n
    have b1 := wat_bd hB (n + 2)
    have t0 : ¬ (n : Int) < 0 := by omega
    have t1 : ¬ (zs.length : Int) < 4 := by omega
    have t2 : ¬ (zs.length : Int) - 4 < n := by omega
    have hn : (n : Int) + 2 ≤ 9223372036854775807 := by omega
    clear h hp
    go_enter Tryd.func16, Tryd.ntmps16
    go_wp2_with fail
    refine (rget16_at _ zs hB n (by omega) hl _ hI).mono ?_
    rintro e w2 ⟨rfl, q, rfl⟩
    rw [HG1.out]
    go_wp2_with fail
    refine (rget16_at _ zs hB ((n : Int) + 2) (by omega) hl _ (hI.drew q)).mono ?_
    rintro e w2 ⟨rfl, q2, rfl⟩
    rw [HG2.out]
    generalize wat zs n = x at *
    generalize wat zs (n + 2) = y at *
    go_wp2
    rw [or_join32 x y b0 b1]
    go_ret
    exact ⟨by rw [HG.out]; rfl, _, rfl⟩
  · have HG : Hid (getAt4 zs p = 0) := by show _ = _; unfold getAt4; rw [if_neg h]
    have ht : p < 0 ∨ (0 ≤ p ∧ (zs.length : Int) < 4) ∨ (0 ≤ p ∧ 4 ≤ (zs.length : Int) ∧ (zs.length : Int) - 4 < p) := by omega
    clear h
    rcases ht with t0 | ⟨t0, t1⟩ | ⟨t0, t1, t2⟩
    all_goals
      go_enter Tryd.func16, Tryd.ntmps16
      go_wp2
      go_ret
      exact ⟨by rw [HG.out]; rfl, 0, rfl⟩