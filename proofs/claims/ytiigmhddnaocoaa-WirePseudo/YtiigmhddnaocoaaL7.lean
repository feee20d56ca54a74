/- The walk of the law WirePseudo. -/
import Derived.Deep.RegionWith
import Derived.Test.YtiigmhddnaocoaaW8
namespace Go.Proofs.Ytiigmhddnaocoaa
open Go.RowKit

set_option maxHeartbeats 40000000 in
theorem walk_WirePseudo (w : World) (s : Int) (hs : 0 ≤ s ∧ s ≤ 4294967295) (d : Int) (hd : 0 ≤ d ∧ d ≤ 4294967295) (p : Int) (_hp : 0 ≤ p ∧ p ≤ 255) :
    Calls Try.prog 6 #[.int .u32 s, .int .u32 d, .int .u8 p] w fun e w' => e = .returned (.bool true) ∧ Below w.heap.size w w' := by
  have hm : 0 ≤ s % 70000 ∧ s % 70000 < 70000 := by omega
  go_enter Try.func6, Try.ntmps6
  go_wp2_with fail
  generalize s % 70000 = n at *
  go_region_with (first
    | (go_at_call 10; refine (live_any _).mono ?_; rintro e w1 ⟨rfl, hb1⟩)
    | (go_at_call_of 25 n; refine (pseudo_any s d p n hs hd _).mono ?_; rintro e w2 ⟨a2, rfl, hO2, hb2⟩; have hcv2 := conv_rd 22 9 5 Try.underlying22 Try.underlying5 Try.underlying9 hO2.rd)
    | (go_at_call 26; refine (rpseudo_any s d p n hs hd _).mono ?_; rintro e w3 ⟨v3, rfl, hO3, hb3⟩; have hcv3 := conv_rd 22 9 5 Try.underlying22 Try.underlying5 Try.underlying9 hO3.rd; have hcv2' := conv_rd 22 9 5 Try.underlying22 Try.underlying5 Try.underlying9 (hO2.below hb3 (Nat.le_refl _)).rd)
    | (go_at_call 25; refine (pseudo_any s d p (-1) hs hd _).mono ?_; rintro e w4 ⟨a4, rfl, hO4, hb4⟩))
  all_goals go_wp2
  all_goals go_ret
  all_goals
    have h1 : Below w.heap.size w w1 := (below_draw (Below.refl w.heap.size w) 1).trans hb1
    have h2 := h1.trans (hb2.mono h1.size)
    have h3 := h2.trans (hb3.mono h2.size)
    exact ⟨rfl, h3.trans (hb4.mono h3.size)⟩
end Go.Proofs.Ytiigmhddnaocoaa
