/- The walks of the laws WirePatches and WireAhead. -/
import Derived.Test.YtiigmhddnaocoaaW4
namespace Go.Proofs.Ytiigmhddnaocoaa
open Go.RowKit

set_option maxHeartbeats 1000000 in
theorem walk_WirePatches (w : World) (s : Int) (hs : 0 ≤ s ∧ s ≤ 65535) (o : Int) (ho : 0 ≤ o ∧ o ≤ 65535) (n : Int) (hn : 0 ≤ n ∧ n ≤ 65535) :
    Calls Try.prog 4 #[.int .u16 s, .int .u16 o, .int .u16 n] w fun e w' => e = .returned (.bool true) ∧ Below w.heap.size w w' := by
  go_enter Try.func4, Try.ntmps4
  go_wp2_with fail
  refine (live_any _).mono ?_
  rintro e w1 ⟨rfl, hb1⟩
  go_wp2_with fail
  refine (patch_any s o n _ hs ho hn).mono ?_
  rintro e w2 ⟨rfl, rfl⟩
  go_wp2_with fail
  refine (rpatch_any s o n _ hs ho hn).mono ?_
  rintro e w2 ⟨rfl, rfl⟩
  go_wp2
  go_ret
  exact ⟨rfl, hb1⟩

theorem ahd_back (a b : Int) (ha : 0 ≤ a ∧ a ≤ 4294967295) : (b + ahd a b) % 4294967296 = a := by unfold ahd; split <;> omega
theorem ahd_turn (a b : Int) (h : ahd a b ≠ -2147483648) : ahd b a = - ahd a b := by unfold ahd at *; split <;> split <;> split at h <;> omega
theorem ahd_bd (a b : Int) : -2147483648 ≤ ahd a b ∧ ahd a b ≤ 2147483647 := by unfold ahd; split <;> omega

set_option maxHeartbeats 1000000 in
theorem walk_WireAhead (w : World) (a : Int) (ha : 0 ≤ a ∧ a ≤ 4294967295) (b : Int) (_hb : 0 ≤ b ∧ b ≤ 4294967295) :
    Calls Try.prog 7 #[.int .u32 a, .int .u32 b] w fun e w' => e = .returned (.bool true) ∧ Below w.heap.size w w' := by
  have hd := ahd_bd a b
  have hne : ((b + ahd a b) % 4294967296 != a) = false := by rw [ahd_back a b ha]; simp
  have ht : Hid (ahd a b ≠ -2147483648 → ahd b a = - ahd a b) := ahd_turn a b
  go_enter Try.func7, Try.ntmps7
  go_wp2_with fail
  refine (ahead_any a b _).mono ?_
  rintro e w2 ⟨rfl, rfl⟩
  go_wp2_with fail
  refine (rahead_any a b _).mono ?_
  rintro e w2 ⟨rfl, rfl⟩
  go_wp2_with fail
  refine (live_any _).mono ?_
  rintro e w3 ⟨rfl, hb3⟩
  by_cases hm : ahd a b = -2147483648
  · have hm' : (ahd a b == -2147483648) = true := by simp [hm]
    clear hm
    go_wp2
    go_ret
    exact ⟨rfl, hb3⟩
  · have hm' : (ahd a b == -2147483648) = false := by simp [hm]
    have ht' : Hid (ahd b a = - ahd a b) := ht.out hm
    clear hm ht
    go_wp2_with fail
    refine (ahead_any b a _).mono ?_
    rintro e w2 ⟨rfl, rfl⟩
    rw [ht'.out]
    go_wp2
    go_ret
    exact ⟨rfl, hb3⟩
end Go.Proofs.Ytiigmhddnaocoaa
