/- Bytes that read takes: what they are; the header that is built of what they tell has the same bytes. -/
import Derived.Test.YtiigmhddnaocoacMh
namespace Go.Proofs.Ytiigmhddnaocoac
open Go.RowKit Go.Shelf
set_option linter.unusedVariables false
set_option linter.unusedSimpArgs false

theorem rde_zero {q : Bool} {zs : List Int} (h : rde q zs = 0) : msr zs = 0 ∧ ral q zs ≤ zs.length ∧ chk zs = 0 := by
  unfold rde at h
  split at h
  · rename_i h1; exact absurd h h1
  · rename_i h1
    split at h
    · omega
    · split at h
      · rename_i h3; exact absurd h h3
      · rename_i h2 h3
        exact ⟨by simpa using h1, by omega, by simpa using h3⟩
theorem msr_zero {zs : List Int} (h : msr zs = 0) : 20 ≤ zs.length ∧ zs[0]?.getD 0 / 16 = 4 ∧ 20 ≤ hl4 zs ∧ hl4 zs ≤ zs.length ∧ hl4 zs ≤ wat zs 2 := by
  unfold msr at h
  split at h
  · omega
  · split at h
    · omega
    · split at h
      · omega
      · split at h
        · omega
        · split at h
          · omega
          · rename_i h1 h2 h3 h4 h5
            exact ⟨by omega, by simpa using h2, by omega, by omega, by omega⟩
theorem chk_zero {zs : List Int} (h : chk zs = 0) : Mt.cks (zs.take (hl4 zs).toNat) = 0 ∧ wat zs 6 % 16384 = 0 ∧ wat zs 6 < 32768 := by
  unfold chk at h
  split at h
  · omega
  · split at h
    · omega
    · split at h
      · omega
      · rename_i h1 h2 h3
        exact ⟨by simpa using h1, by simpa using h2, by omega⟩

/-- The sizes of what is told. -/
theorem told_fit (zs : List Int) (hB : Mt.By zs) (k n : Nat) (hk : hl4 zs = k) (hn : wat zs 2 = n) (h : rde false zs = 0) :
    20 ≤ k ∧ k ≤ 60 ∧ k % 4 = 0 ∧ k ≤ n ∧ n ≤ zs.length ∧ n ≤ 65535 ∧ ((zs.take k).drop 20).length = k - 20 ∧ ((zs.take n).drop k).length = n - k := by
  obtain ⟨h1, h2, h3⟩ := rde_zero h
  obtain ⟨m1, m2, m3, m4, m5⟩ := msr_zero h1
  have hb := hl4_bd hB
  have hw := wat_bd hB 2
  have hr : ral false zs = wat zs 2 := by simp [ral]
  have h4 : hl4 zs % 4 = 0 := by unfold hl4; omega
  refine ⟨by omega, by omega, by omega, by omega, by omega, by omega, ?_, ?_⟩
  · simp; omega
  · simp; omega

theorem two_parts (zs : List Int) (k n i : Nat) (h20 : 20 ≤ k) (hkn : k ≤ n) (hn : n ≤ zs.length) (hi : 20 ≤ i) (hi2 : i < n) : ((zs.take k).drop 20 ++ (zs.take n).drop k)[i - 20]?.getD 0 = zs[i]?.getD 0 := by
  have hl : ((zs.take k).drop 20).length = k - 20 := by simp; omega
  by_cases h : i < k
  · rw [List.getElem?_append_left (by omega), List.getElem?_drop, show 20 + (i - 20) = i from by omega, List.getElem?_take_of_lt h]
  · rw [List.getElem?_append_right (by omega), hl, List.getElem?_drop, show k + (i - 20 - (k - 20)) = i from by omega, List.getElem?_take_of_lt hi2]

theorem bytes_back (zs : List Int) (hB : Mt.By zs) (k n : Nat) (hk : hl4 zs = k) (hn : wat zs 2 = n) (h : rde false zs = 0) (i : Nat) (hi : i < n) (h10 : i ≠ 10) (h11 : i ≠ 11) :
    (hdr (zs[1]?.getD 0) (wat zs 4) (decide (16384 ≤ wat zs 6 % 32768)) (zs[8]?.getD 0) (zs[9]?.getD 0) (wat4 zs 12) (wat4 zs 16) ((zs.take k).drop 20) (n : Int) ++ (zs.take n).drop k)[i]?.getD 0 = zs[i]?.getD 0 := by
  obtain ⟨f1, f2, f3, f4, f5, f6, f7, f8⟩ := told_fit zs hB k n hk hn h
  obtain ⟨h1, h2, h3⟩ := rde_zero h
  obtain ⟨m1, m2, m3, m4, m5⟩ := msr_zero h1
  obtain ⟨c1, c2, c3⟩ := chk_zero h3
  rw [hdr_eq, List.append_assoc]
  by_cases hge : 20 ≤ i
  · rw [List.getElem?_append_right (by rw [h20_length]; exact hge), h20_length]
    exact two_parts zs k n i f1 f4 f5 hge hi
  · rw [List.getElem?_append_left (by rw [h20_length]; omega), f7]
    generalize hsum _ _ _ _ _ _ _ _ _ = s
    have b := fun j => hB.at j
    have b0 := b 0; have b2 := b 2; have b3 := b 3; have b4 := b 4; have b5 := b 5; have b6 := b 6; have b7 := b 7
    have b12 := b 12; have b13 := b 13; have b14 := b 14; have b15 := b 15; have b16 := b 16; have b17 := b 17; have b18 := b 18; have b19 := b 19
    have e0 : zs[0]?.getD 0 = 64 + (20 + ((k - 20 : Nat) : Int)) / 4 := by unfold hl4 at hk; omega
    have w2 : wat zs 2 = zs[2]?.getD 0 * 256 + zs[3]?.getD 0 := rfl
    have w4 : wat zs 4 = zs[4]?.getD 0 * 256 + zs[5]?.getD 0 := rfl
    have w6 : wat zs 6 = zs[6]?.getD 0 * 256 + zs[7]?.getD 0 := rfl
    have w12 : wat4 zs 12 = (zs[12]?.getD 0 * 256 + zs[13]?.getD 0) * 65536 + (zs[14]?.getD 0 * 256 + zs[15]?.getD 0) := rfl
    have w16 : wat4 zs 16 = (zs[16]?.getD 0 * 256 + zs[17]?.getD 0) * 65536 + (zs[18]?.getD 0 * 256 + zs[19]?.getD 0) := rfl
    have hkeep : (if decide (16384 ≤ wat zs 6 % 32768) = true then (64 : Int) else 0) = zs[6]?.getD 0 ∧ zs[7]?.getD 0 = 0 := by
      by_cases hc : 16384 ≤ wat zs 6 % 32768
      · simp [hc]; omega
      · simp [hc]; omega
    have hcase : i = 0 ∨ i = 1 ∨ i = 2 ∨ i = 3 ∨ i = 4 ∨ i = 5 ∨ i = 6 ∨ i = 7 ∨ i = 8 ∨ i = 9 ∨ i = 12 ∨ i = 13 ∨ i = 14 ∨ i = 15 ∨ i = 16 ∨ i = 17 ∨ i = 18 ∨ i = 19 := by omega
    unfold h20
    rcases hcase with rfl | rfl | rfl | rfl | rfl | rfl | rfl | rfl | rfl | rfl | rfl | rfl | rfl | rfl | rfl | rfl | rfl | rfl
    · simp only [List.getElem?_cons_zero, Option.getD_some]; omega
    · rfl
    · show (n : Int) / 256 = _; omega
    · show (n : Int) % 256 = _; omega
    · show wat zs 4 / 256 = _; omega
    · show wat zs 4 % 256 = _; omega
    · exact hkeep.1
    · exact hkeep.2.symm
    · rfl
    · rfl
    · show wat4 zs 12 / 65536 / 256 = _; omega
    · show wat4 zs 12 / 65536 % 256 = _; omega
    · show wat4 zs 12 % 65536 / 256 = _; omega
    · show wat4 zs 12 % 65536 % 256 = _; omega
    · show wat4 zs 16 / 65536 / 256 = _; omega
    · show wat4 zs 16 / 65536 % 256 = _; omega
    · show wat4 zs 16 % 65536 / 256 = _; omega
    · show wat4 zs 16 % 65536 % 256 = _; omega
end Go.Proofs.Ytiigmhddnaocoac
