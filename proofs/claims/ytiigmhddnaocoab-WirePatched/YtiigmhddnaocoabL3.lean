/- The walk of the law WireGood. -/
import Derived.Test.YtiigmhddnaocoabW6
namespace Go.Proofs.Ytiigmhddnaocoab
open Go.RowKit

/-- Bytes of an even number with their sum in two bytes of 0 are good. -/
theorem good_put (zs : List Int) (h : Mt.By zs) (k : Nat) (he : k % 2 = 0) (hk : k + 1 < zs.length) : Mt.cks (Mt.put2 (Mt.put2 zs k 0) k (Mt.cks (Mt.put2 zs k 0))) = 0 := by
  have hB := h.put2 k (v := 0) (by omega)
  have h1 := Mt.tw_put2 (Mt.put2 zs k 0) k (Mt.cks (Mt.put2 zs k 0)) he (by rw [Mt.put2_length]; exact hk)
  obtain ⟨e0, e1⟩ := Mt.put2_at zs k 0 hk
  rw [e0, e1] at h1
  have h2 := Mt.fd_good (Mt.tw true (Mt.put2 zs k 0)) (Mt.tw_nonneg _ _ hB)
  show 65535 - Mt.fd _ = 0
  rw [h1]
  have h3 : Mt.cks (Mt.put2 zs k 0) = 65535 - Mt.fd (Mt.tw true (Mt.put2 zs k 0)) := rfl
  rw [h3]
  have h4 : Mt.tw true (Mt.put2 zs k 0) + (65535 - Mt.fd (Mt.tw true (Mt.put2 zs k 0))) - (0 / 256 * 256 + 0 % 256) = Mt.tw true (Mt.put2 zs k 0) + (65535 - Mt.fd (Mt.tw true (Mt.put2 zs k 0))) := by omega
  rw [h4, h2]
  omega

theorem putAt2_nat (zs : List Int) (k : Nat) (v : Int) (hk : k + 1 < zs.length) : putAt2 zs (k : Int) v = Mt.put2 zs k v := by
  unfold putAt2; rw [if_pos (by omega), Int.toNat_natCast]