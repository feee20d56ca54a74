/- The walk of the law WireSums. -/
import Derived.Test.YtiigmhddnaocoaaW5
namespace Go.Proofs.Ytiigmhddnaocoaa
open Go.RowKit

set_option maxHeartbeats 1000000 in
theorem walk_WireSums (w : World) (sv : Value) (zs : List Int) (hB : Mt.By zs) (hI : Rd w.heap.size w sv zs) :
    Calls Try.prog 3 #[sv] w fun e w' => e = .returned (.bool true) ∧ Below w.heap.size w w' := by
  obtain ⟨a, cap, rfl, hl, hm⟩ := hI.slice
  have hI2 := hI.take (min zs.length 5000) (by omega)
  have hB2 := hB.take (min zs.length 5000)
  have hl2 : (zs.take (min zs.length 5000)).length ≤ 1099511627776 := by simp; omega
  generalize zs.take (min zs.length 5000) = ys at *
  generalize zs.length = len at *
  clear hI hB
  go_enter Try.func3, Try.ntmps3
  go_wp2_with fail
  refine (few_any a len cap w hl hm).mono ?_
  rintro e w1 ⟨rfl, rfl⟩
  generalize min len 5000 = ln at *
  go_wp2_with fail
  refine (live_any _).mono ?_
  rintro e w2 ⟨rfl, hb2⟩
  have hI3 := (hI2.below hb2).mono hb2.size
  go_wp2_with fail
  refine (sum_any _ ys hB2 hl2 w2 hI3).mono ?_
  rintro e w3 ⟨rfl, hb3⟩
  have hI4 := (hI3.below hb3).mono hb3.size
  go_wp2_with fail
  refine (rsum_any _ ys hB2 hl2 w3 hI4).mono ?_
  rintro e w4 ⟨rfl, hb4⟩
  have hI5 := (hI4.below hb4).mono hb4.size
  go_wp2_with fail
  refine (good_any _ ys hB2 hl2 w4 hI5).mono ?_
  rintro e w5 ⟨rfl, hb5⟩
  have hI6 := (hI5.below hb5).mono hb5.size
  go_wp2_with fail
  refine (rgood_any _ ys hB2 hl2 w5 hI6).mono ?_
  rintro e w6 ⟨rfl, hb6⟩
  have hall := ((hb2.trans (hb3.mono hb2.size)).trans (hb4.mono (Nat.le_trans hb2.size hb3.size))).trans ((hb5.trans (hb6.mono hb5.size)).mono (Nat.le_trans hb2.size (Nat.le_trans hb3.size hb4.size)))
  clear hI2 hI3 hI4 hI5 hI6 hb2 hb3 hb4 hb5 hb6
  generalize (Mt.cks ys == 0) = g
  cases g
  · go_wp2
    go_ret
    exact ⟨rfl, hall⟩
  · go_wp2
    go_ret
    exact ⟨rfl, hall⟩
end Go.Proofs.Ytiigmhddnaocoaa
