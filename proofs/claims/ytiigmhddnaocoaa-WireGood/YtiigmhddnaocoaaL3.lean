/- The walk of the law WireGood. -/
import Derived.Test.YtiigmhddnaocoaaW6
namespace Go.Proofs.Ytiigmhddnaocoaa
open Go.RowKit

/-- Bytes of an even number with their sum in two bytes of 0 are good. -/
theorem good_put (zs : List Int) (h : Mt.By zs) (k : Nat) (he : k % 2 = 0) (hk : k + 1 < zs.length) : Mt.cks (Mt.put2 (Mt.put2 zs k 0) k (Mt.cks (Mt.put2 zs k 0))) = 0 := by
  have hB := h.put2 k (v := 0) (by omega)
  have h1 := Mt.tw_put2 (Mt.put2 zs k 0) k (Mt.cks (Mt.put2 zs k 0)) he (by rw [Mt.put2_length]; exact hk)
  obtain ⟨e0, e1⟩ := Mt.put2_at zs k 0 hk
  rw [e0, e1] at h1
  have h2 := Mt.fd_good (Mt.tw true (Mt.put2 zs k 0)) (Mt.tw_nonneg _ _ hB)
  show 65535 - Mt.fd _ = 0
  rw [h1]
  have h3 : Mt.cks (Mt.put2 zs k 0) = 65535 - Mt.fd (Mt.tw true (Mt.put2 zs k 0)) := rfl
  rw [h3]
  have h4 : Mt.tw true (Mt.put2 zs k 0) + (65535 - Mt.fd (Mt.tw true (Mt.put2 zs k 0))) - (0 / 256 * 256 + 0 % 256) = Mt.tw true (Mt.put2 zs k 0) + (65535 - Mt.fd (Mt.tw true (Mt.put2 zs k 0))) := by omega
  rw [h4, h2]
  omega

theorem putAt2_nat (zs : List Int) (k : Nat) (v : Int) (hk : k + 1 < zs.length) : putAt2 zs (k : Int) v = Mt.put2 zs k v := by
  unfold putAt2; rw [if_pos (by omega), Int.toNat_natCast]

set_option maxHeartbeats 1000000 in
theorem walk_WireGood (w : World) (sv : Value) (zs : List Int) (hB : Mt.By zs) (hI : Rd w.heap.size w sv zs) (at_ : Int) (hat : 0 ≤ at_ ∧ at_ ≤ 65535) :
    Calls Try.prog 8 #[sv, .int .u16 at_] w fun e w' => e = .returned (.bool true) ∧ Below w.heap.size w w' := by
  obtain ⟨a, cap, rfl, hl, hm⟩ := hI.slice
  have hfew := few_rd _ zs w hI
  obtain ⟨hB2, hl3⟩ := take5 zs hB
  generalize zs.take 5000 = ys at *
  generalize zs.length = len at *
  have HF := hide hfew
  clear hfew hI hB
  by_cases hev : ys.length % 2 = 0 ∧ 2 ≤ ys.length
  · obtain ⟨h1, h2⟩ := hev
    have t1 : ((ys.length : Int) % 2 != 0) = false := by simp; omega
    have t2 : ¬ (ys.length : Int) < 2 := by omega
    have hm0 := Int.emod_nonneg at_ (b := (ys.length : Int) / 2) (by omega)
    have hm1 := Int.emod_lt_of_pos at_ (b := (ys.length : Int) / 2) (by omega)
    obtain ⟨r, hr⟩ := Int.eq_ofNat_of_zero_le hm0
    rw [hr] at hm1
    have hk : r * 2 + 1 < ys.length := by omega
    clear hm0
    have HG : Hid (Mt.cks (Mt.put2 (Mt.put2 ys (r * 2) 0) (r * 2) (Mt.cks (Mt.put2 ys (r * 2) 0))) = 0) := good_put ys hB2 (r * 2) (by omega) hk
    go_enter Try.func8, Try.ntmps8
    go_wp2_with fail
    refine (unhide HF).mono ?_
    rintro e w1 ⟨a1, cap1, rfl, hI2, rfl⟩
    clear HF
    go_wp2_with fail
    rw [show ((r : Int) * 2) = ((r * 2 : Nat) : Int) from by omega]
    refine (put16_any _ ys _ 0 _ (by omega) hI2 (by omega)).mono ?_
    rintro e w2 ⟨a2, rfl, hO2, hb2⟩
    rw [putAt2_nat ys (r * 2) 0 hk] at hO2
    have hBz := hB2.put2 (r * 2) (v := 0) (by omega)
    have hlz := Mt.put2_length ys (r * 2) 0
    generalize Mt.put2 ys (r * 2) 0 = z at *
    go_wp2_with fail
    refine (live_any _).mono ?_
    rintro e w3 ⟨rfl, hb3⟩
    have hO3 := hO2.below hb3 (Nat.le_refl _)
    go_wp2_with fail
    refine (sum_any _ z hBz (by omega) _ hO3.rd).mono ?_
    rintro e w4 ⟨rfl, hb4⟩
    have hO4 := hO3.below hb4 (Nat.le_refl _)
    have hcb := Mt.cks_bd z
    go_wp2_with fail
    try rw [show ((r : Int) * 2) = ((r * 2 : Nat) : Int) from by omega]
    refine (put16_any _ z _ (Mt.cks z) _ (by omega) hO4.rd hcb).mono ?_
    rintro e w5 ⟨a5, rfl, hO5, hb5⟩
    rw [putAt2_nat z (r * 2) _ (by omega), hlz] at hO5
    have hBg := hBz.put2 (r * 2) hcb
    have hlg := Mt.put2_length z (r * 2) (Mt.cks z)
    generalize Mt.put2 z (r * 2) (Mt.cks z) = g at *
    go_wp2_with fail
    refine (good_any _ g hBg (by omega) _ hO5.rd).mono ?_
    rintro e w6 ⟨rfl, hb6⟩
    rw [HG.out]
    go_wp2
    go_ret
    exact ⟨rfl, (((hb2.trans (hb3.mono hb2.size)).trans (hb4.mono (Nat.le_trans hb2.size hb3.size))).trans ((hb5.trans (hb6.mono hb5.size)).mono (Nat.le_trans hb2.size (Nat.le_trans hb3.size hb4.size))))⟩
  · by_cases t1 : ys.length % 2 = 0
    · have t1' : ((ys.length : Int) % 2 != 0) = false := by simp; omega
      have t2 : (ys.length : Int) < 2 := by omega
      clear hev
      go_enter Try.func8, Try.ntmps8
      go_wp2_with fail
      refine (unhide HF).mono ?_
      rintro e w1 ⟨a1, cap1, rfl, hI2, rfl⟩
      clear HF
      go_wp2_with fail
      refine (live_any _).mono ?_
      rintro e w3 ⟨rfl, hb3⟩
      go_wp2
      go_ret
      exact ⟨rfl, hb3⟩
    · have t1' : ((ys.length : Int) % 2 != 0) = true := by simp; omega
      clear hev
      go_enter Try.func8, Try.ntmps8
      go_wp2_with fail
      refine (unhide HF).mono ?_
      rintro e w1 ⟨a1, cap1, rfl, hI2, rfl⟩
      clear HF
      go_wp2_with fail
      refine (live_any _).mono ?_
      rintro e w3 ⟨rfl, hb3⟩
      go_wp2
      go_ret
      exact ⟨rfl, hb3⟩
end Go.Proofs.Ytiigmhddnaocoaa
