/- Package pool: count, TrailingZeros64, the numbers of a set in order. -/
import Derived.Test.YtfompbpllndmfaaDoorPB
namespace Go.Proofs.YtfompbpllndmfaaDoor
open Go.RowKit Go.Shelf
set_option maxRecDepth 100000
attribute [local go_sem] Oper.semAt_some
set_option linter.unusedVariables false
set_option linter.unusedSimpArgs false

def cnt (ws : Nat → Nat) : Nat → Nat
  | 0 => 0
  | k + 1 => cnt ws k + Pm.pcn 64 (ws k)
theorem pcn_le (n x : Nat) : Pm.pcn n x ≤ n := by
  unfold Pm.pcn
  have := List.countP_le_length (p := fun i => x.testBit i) (l := List.range n)
  simpa using this
theorem cnt_le (ws : Nat → Nat) : ∀ k, cnt ws k ≤ 64 * k
  | 0 => Nat.le_refl _
  | k + 1 => by
    have h1 := cnt_le ws k
    have h2 := pcn_le 64 (ws k)
    unfold cnt
    omega

set_option maxHeartbeats 2000000 in
theorem count_any (base b : Nat) (low high : Int) (ws : Nat → Nat) (c0 : Nat) (hc0 : cnt ws 1024 = c0) (w : World) (hT : PB base w b low high ws) :
    Calls Tryd.prog 19 #[.pointer (some ⟨b, 2, none⟩)] w fun e w' => e = .returned (.int .i64 (c0 : Nat)) ∧ w' = w := by
  have HQ := hide (fun i (hi : i < 1024) => hT.word i hi)
  have HO := hide (fun i W => ones_any (ws i) W (hT.2.1 i))
  have HC0 := hide hc0
  clear hc0
  go_enter Tryd.func19, Tryd.ntmps19
  go_wp2_with fail
  go_loopw [3, 5] (fun sm i wr => ∃ k : Nat, k ≤ 1024 ∧ i = .int .i64 (k : Int) ∧ sm = .int .i64 (cnt ws k : Nat) ∧ wr = w) (fun _ i _ => 1024 - (intOf i).toNat)
  case atStart => exact ⟨0, by omega, rfl, rfl, rfl⟩
  case round =>
    obtain ⟨k, hk, rfl, rfl, rfl⟩ := hrel
    by_cases hlt : k < 1024
    · have hlt' : (k : Int) < 1024 := by omega
      have k1 := HQ.out k hlt
      have hc := cnt_le ws k
      have hp := pcn_le 64 (ws k)
      have hs : cnt ws (k + 1) = cnt ws k + Pm.pcn 64 (ws k) := rfl
      have HS := hide hs
      clear hs
      have HOK := hide (HO.out k wr)
      generalize cnt ws k = c at *
      generalize Pm.pcn 64 (ws k) = d at *
      have hb : (c : Int) + (d : Int) ≤ 9223372036854775807 := by omega
      go_wp2_with fail
      refine HOK.out.mono ?_
      rintro e w2 ⟨rfl, rfl⟩
      go_wp2_with fail
      go_roundw
      case rel => exact ⟨k + 1, by omega, by go_num, by rw [HS.out]; go_num, by first | rfl | trivial⟩
      case measure => simp [intOf]; omega
    · obtain rfl : k = 1024 := by omega
      rw [HC0.out]
      go_wp2_with fail
      go_ret
      exact ⟨rfl, rfl⟩

end Go.Proofs.YtfompbpllndmfaaDoor
