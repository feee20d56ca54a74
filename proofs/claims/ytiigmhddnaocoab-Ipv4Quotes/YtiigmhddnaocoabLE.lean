/- The walks of the laws Ipv4Quotes, Ipv4Parses. -/
import Derived.Test.YtiigmhddnaocoabVR
import Derived.Test.YtiigmhddnaocoabVY
namespace Go.Proofs.Ytiigmhddnaocoab
open Go.RowKit Go.Shelf
set_option linter.unusedVariables false
set_option linter.unusedSimpArgs false

/-- The document's Same of two packets that were read from the same bytes. -/
theorem rsame_pkt (zs : List Int) (so1 sd1 so2 sd2 : Value) (zo zd : List Int) (w : World) (hO : Mt.By zo) (hD : Mt.By zd) (h1 : Rd w.heap.size w so1 zo) (h2 : Rd w.heap.size w sd1 zd) (h3 : Rd w.heap.size w so2 zo) (h4 : Rd w.heap.size w sd2 zd) :
    Calls Try.prog 21 #[pkt zs so1 sd1, pkt zs so2 sd2] w fun e w' => e = .returned (.bool true) ∧ Below w.heap.size w w' := by
  refine (rsame_any (zs[1]?.getD 0) (wat zs 4) (zs[8]?.getD 0) (zs[9]?.getD 0) (wat4 zs 12) (wat4 zs 16) (zs[1]?.getD 0) (wat zs 4) (zs[8]?.getD 0) (zs[9]?.getD 0) (wat4 zs 12) (wat4 zs 16) (decide (16384 ≤ wat zs 6 % 32768)) (decide (16384 ≤ wat zs 6 % 32768)) so1 sd1 so2 sd2 zo zd zo zd w hO hD hO hD h1 h2 h3 h4).mono ?_
  rintro e w' ⟨rfl, hb⟩
  exact ⟨by simp [smP], hb⟩
theorem same_zero (w : World) : Calls Try.prog 21 #[.agg zc.toArray, .agg zc.toArray] w fun e w' => e = .returned (.bool true) ∧ Below w.heap.size w w' :=
  (rsame_any 0 0 0 0 0 0 0 0 0 0 0 0 false false (.slice none 0 0) (.slice none 0 0) (.slice none 0 0) (.slice none 0 0) [] [] [] [] w Mt.By.nil Mt.By.nil Mt.By.nil Mt.By.nil (rd_zero w) (rd_zero w) (rd_zero w) (rd_zero w)).mono fun e w' ⟨he, hb⟩ => ⟨he, hb⟩

set_option maxHeartbeats 4000000 in
theorem walk_Ipv4Quotes (w : World) (sv : Value) (zs : List Int) (hB : Mt.By zs) (hI : Rd w.heap.size w sv zs) (hl : zs.length ≤ 140737488351232) :
    Calls Try.prog 8 #[sv] w fun e w' => e = .returned (.bool true) ∧ Below w.heap.size w w' := by
  obtain ⟨a, cap, rfl, hl1, hm1⟩ := hI.slice
  go_enter Try.func8, Try.ntmps8
  go_wp2_with fail
  refine (quote_any _ zs w hB (by omega) hI).mono ?_
  rintro e w1 ⟨hb1, ⟨h1, rfl⟩ | ⟨h1, so1, sd1, rfl, hO1, hD1⟩⟩
  · have hbA := (Below.refl w1.heap.size w1).alloc (Nat.le_refl _) (.cells zc.toArray 41)
    have hpA := heap_alloc_new w1 (.cells zc.toArray 41)
    have hw2 := hb1.trans (hbA.mono hb1.size)
    have HH1 := hide h1
    clear h1
    go_wp2_with fail
    refine (rquote_any _ zs _ hB (by omega) ((hI.below hw2).mono hw2.size)).mono ?_
    rintro e w3 ⟨hb3, ⟨h3, rfl⟩ | ⟨h3, _⟩⟩
    · have hp3 := (hb3.block w1.heap.size (by simp)).trans hpA
      have hw3 := hw2.trans (hb3.mono hw2.size)
      have hbB := (Below.refl w3.heap.size w3).alloc (Nat.le_refl _) (.cells zc.toArray 41)
      have hpB := heap_alloc_new w3 (.cells zc.toArray 41)
      have hp4 := (hbB.block w1.heap.size (Array.getElem?_eq_some_iff.1 hp3).1).trans hp3
      have hw4 := hw3.trans (hbB.mono hw3.size)
      clear h3
      go_wp2_with fail
      refine (live2_any _).mono ?_
      rintro e w5 ⟨rfl, hb5⟩
      have C1 := block_cell ((hb5.block w1.heap.size (Array.getElem?_eq_some_iff.1 hp4).1).trans hp4)
      have C2 := block_cell ((hb5.block w3.heap.size (by simp)).trans hpB)
      have hw5 := hw4.trans (hb5.mono hw4.size)
      go_wp2_with fail
      refine (same_zero _).mono ?_
      rintro e w6 ⟨rfl, hb6⟩
      have hw6 := hw5.trans (hb6.mono hw5.size)
      go_wp2
      go_ret
      exact ⟨rfl, hw6⟩
    · exact absurd h3 HH1.out
  · obtain ⟨ao1, co1, rfl, _, _⟩ := hO1.slice
    obtain ⟨ad1, cd1, rfl, _, _⟩ := hD1.slice
    have hBo : Mt.By ((zs.take (hl4 zs).toNat).drop 20) := (hB.take _).drop _
    have hBd : Mt.By ((zs.take (ral true zs).toNat).drop (hl4 zs).toNat) := (hB.take _).drop _
    have hL1 : ∃ lo, ((zs.take (hl4 zs).toNat).drop 20).length = lo := ⟨_, rfl⟩
    have hL2 : ∃ ld, ((zs.take (ral true zs).toNat).drop (hl4 zs).toNat).length = ld := ⟨_, rfl⟩
    obtain ⟨lo, hLo⟩ := hL1
    obtain ⟨ld, hLd⟩ := hL2
    rw [hLo] at hO1 ⊢
    rw [hLd] at hD1 ⊢
    have HLo := hide hLo
    have HLd := hide hLd
    clear hLo hLd
    have hbA := (Below.refl w1.heap.size w1).alloc (Nat.le_refl _) (.cells #[.int .u8 (zs[1]?.getD 0), .int .u16 (wat zs 4), .bool (decide (16384 ≤ wat zs 6 % 32768)), .int .u8 (zs[8]?.getD 0), .int .u8 (zs[9]?.getD 0), .int .u32 (wat4 zs 12), .int .u32 (wat4 zs 16), .slice ao1 lo co1, .slice ad1 ld cd1] 41)
    have hpA := heap_alloc_new w1 (.cells #[.int .u8 (zs[1]?.getD 0), .int .u16 (wat zs 4), .bool (decide (16384 ≤ wat zs 6 % 32768)), .int .u8 (zs[8]?.getD 0), .int .u8 (zs[9]?.getD 0), .int .u32 (wat4 zs 12), .int .u32 (wat4 zs 16), .slice ao1 lo co1, .slice ad1 ld cd1] 41)
    have hw2 := hb1.trans (hbA.mono hb1.size)
    have HH1 := hide h1
    clear h1
    unfold pkt
    go_wp2_with fail
    refine (rquote_any _ zs _ hB (by omega) ((hI.below hw2).mono hw2.size)).mono ?_
    rintro e w3 ⟨hb3, ⟨h3, rfl⟩ | ⟨h3, so3, sd3, rfl, hO3, hD3⟩⟩
    · exact absurd HH1.out h3
    · obtain ⟨ao3, co3, rfl, _, _⟩ := hO3.slice
      obtain ⟨ad3, cd3, rfl, _, _⟩ := hD3.slice
      rw [HLo.out] at hO3 ⊢
      rw [HLd.out] at hD3 ⊢
      unfold pkt
      have hp3 := (hb3.block w1.heap.size (by simp)).trans hpA
      have hw3 := hw2.trans (hb3.mono hw2.size)
      have hbB := (Below.refl w3.heap.size w3).alloc (Nat.le_refl _) (.cells #[.int .u8 (zs[1]?.getD 0), .int .u16 (wat zs 4), .bool (decide (16384 ≤ wat zs 6 % 32768)), .int .u8 (zs[8]?.getD 0), .int .u8 (zs[9]?.getD 0), .int .u32 (wat4 zs 12), .int .u32 (wat4 zs 16), .slice ao3 lo co3, .slice ad3 ld cd3] 41)
      have hpB := heap_alloc_new w3 (.cells #[.int .u8 (zs[1]?.getD 0), .int .u16 (wat zs 4), .bool (decide (16384 ≤ wat zs 6 % 32768)), .int .u8 (zs[8]?.getD 0), .int .u8 (zs[9]?.getD 0), .int .u32 (wat4 zs 12), .int .u32 (wat4 zs 16), .slice ao3 lo co3, .slice ad3 ld cd3] 41)
      have hp4 := (hbB.block w1.heap.size (Array.getElem?_eq_some_iff.1 hp3).1).trans hp3
      have hw4 := hw3.trans (hbB.mono hw3.size)
      clear h3
      go_wp2_with fail
      refine (live2_any _).mono ?_
      rintro e w5 ⟨rfl, hb5⟩
      have C1 := block_cell ((hb5.block w1.heap.size (Array.getElem?_eq_some_iff.1 hp4).1).trans hp4)
      have C2 := block_cell ((hb5.block w3.heap.size (by simp)).trans hpB)
      have hw5 := hw4.trans (hb5.mono hw4.size)
      go_wp2_with fail
      have l15 : Later w1 w5 := ((hbA.trans (hb3.mono (by simp))).trans (hbB.mono (by have := hb3.size; simp at this; omega))).trans (hb5.mono (by have := hb3.size; simp at this; simp; omega))
      have l35 : Later w3 w5 := hbB.trans (hb5.mono (by simp))
      refine (rsame_pkt zs _ _ _ _ _ _ w5 hBo hBd (hO1.below l15 (Nat.le_refl _)).rd (hD1.below l15 (Nat.le_refl _)).rd (hO3.below l35 (Nat.le_refl _)).rd (hD3.below l35 (Nat.le_refl _)).rd).mono ?_
      rintro e w6 ⟨rfl, hb6⟩
      have hw6 := hw5.trans (hb6.mono hw5.size)
      go_wp2
      go_ret
      exact ⟨rfl, hw6⟩

set_option maxHeartbeats 4000000 in
theorem walk_Ipv4Parses (w : World) (sv : Value) (zs : List Int) (hB : Mt.By zs) (hI : Rd w.heap.size w sv zs) (hl : zs.length ≤ 140737488351232) :
    Calls Try.prog 7 #[sv] w fun e w' => e = .returned (.bool true) ∧ Below w.heap.size w w' := by
  obtain ⟨i0, hi, hz0, hz1, hz2⟩ := info_parts info_u8
  obtain ⟨a, cap, rfl, hl1, hm1⟩ := hI.slice
  have hR1 : Rd w.heap.size (w.alloc (.cells #[] 5)) (.slice a zs.length cap) zs := hI.below ((Below.refl _ w).alloc (Nat.le_refl _) _)
  have hb0 : Below w.heap.size w (w.alloc (.cells #[] 5)) := (Below.refl _ w).alloc (Nat.le_refl _) _
  go_enter Try.func7, Try.ntmps7
  go_wp2_with (at_builtin; refine wpList_app _ rfl (.tmp 8) (.tmp 9) 22 rfl w.heap.size 5 i0 Try.underlying22 hi hz0 hz1 hz2 _ [] rfl (own_empty w _) w.heap.size _ zs rfl hR1 (by simp; omega) (by simp) ?_; intro v0 w0 hown0 hg0; have hbw0 := below_app hb0 (own_empty w _) hg0 (Nat.le_refl _) hb0.size; clear hg0; have hO0 := Ow.of_row hown0; clear hown0; simp only [List.nil_append] at hO0; obtain ⟨a0, cap0, rfl, hp0, hm0⟩ := hO0.slice)
  refine (parse_any (.slice a0 zs.length cap0) zs w0 hB (by omega) hO0.rd).mono ?_
  rintro e w1 ⟨hb1, ⟨h1, rfl⟩ | ⟨h1, so1, sd1, rfl, hO1, hD1⟩⟩
  · have hbw1 := hbw0.trans (hb1.mono hbw0.size)
    have hbA := (Below.refl w1.heap.size w1).alloc (Nat.le_refl _) (.cells zc.toArray 41)
    have hpA := heap_alloc_new w1 (.cells zc.toArray 41)
    have hw2 := hbw1.trans (hbA.mono hbw1.size)
    have HH1 := hide h1
    clear h1
    go_wp2_with fail
    refine (rparse_any _ zs _ hB (by omega) ((hI.below hw2).mono hw2.size)).mono ?_
    rintro e w3 ⟨hb3, ⟨h3, rfl⟩ | ⟨h3, _⟩⟩
    · have hp3 := (hb3.block w1.heap.size (by simp)).trans hpA
      have hw3 := hw2.trans (hb3.mono hw2.size)
      have hbB := (Below.refl w3.heap.size w3).alloc (Nat.le_refl _) (.cells zc.toArray 41)
      have hpB := heap_alloc_new w3 (.cells zc.toArray 41)
      have hp4 := (hbB.block w1.heap.size (Array.getElem?_eq_some_iff.1 hp3).1).trans hp3
      have hw4 := hw3.trans (hbB.mono hw3.size)
      clear h3
      go_wp2_with fail
      refine (live2_any _).mono ?_
      rintro e w5 ⟨rfl, hb5⟩
      have C1 := block_cell ((hb5.block w1.heap.size (Array.getElem?_eq_some_iff.1 hp4).1).trans hp4)
      have C2 := block_cell ((hb5.block w3.heap.size (by simp)).trans hpB)
      have hw5 := hw4.trans (hb5.mono hw4.size)
      go_wp2_with fail
      refine (same_zero _).mono ?_
      rintro e w6 ⟨rfl, hb6⟩
      have hw6 := hw5.trans (hb6.mono hw5.size)
      have hwb6 : Later w0 w6 := ((((hb1.trans (hbA.mono hb1.size)).trans (hb3.mono (by have := hb1.size; simp; omega))).trans (hbB.mono (Nat.le_trans (Nat.le_trans hb1.size (by simp)) hb3.size))).trans (hb5.mono (by have h1 := hb1.size; have h2 := hb3.size; simp at h2; simp; omega))).trans (hb6.mono (by have h1 := hb1.size; have h2 := hb3.size; have h3 := hb5.size; simp at h2 h3; omega))
      have hcO := conv_rd 22 9 5 Try.underlying22 Try.underlying5 Try.underlying9 (hO0.below hwb6 (Nat.le_refl _)).rd
      have hcI := conv_rd 22 9 5 Try.underlying22 Try.underlying5 Try.underlying9 (hI.below hw6)
      have hss : ((strOfNums zs).toList == (strOfNums zs).toList) = true := by simp
      generalize strOfNums zs = str at *
      go_wp2
      go_ret
      exact ⟨rfl, hw6⟩
    · exact absurd h3 HH1.out
  · have hbw1 := hbw0.trans (hb1.mono hbw0.size)
    obtain ⟨ao1, co1, rfl, _, _⟩ := hO1.slice
    obtain ⟨ad1, cd1, rfl, _, _⟩ := hD1.slice
    have hBo : Mt.By ((zs.take (hl4 zs).toNat).drop 20) := (hB.take _).drop _
    have hBd : Mt.By ((zs.take (ral false zs).toNat).drop (hl4 zs).toNat) := (hB.take _).drop _
    have hL1 : ∃ lo, ((zs.take (hl4 zs).toNat).drop 20).length = lo := ⟨_, rfl⟩
    have hL2 : ∃ ld, ((zs.take (ral false zs).toNat).drop (hl4 zs).toNat).length = ld := ⟨_, rfl⟩
    obtain ⟨lo, hLo⟩ := hL1
    obtain ⟨ld, hLd⟩ := hL2
    rw [hLo] at hO1 ⊢
    rw [hLd] at hD1 ⊢
    have HLo := hide hLo
    have HLd := hide hLd
    clear hLo hLd
    have hbA := (Below.refl w1.heap.size w1).alloc (Nat.le_refl _) (.cells #[.int .u8 (zs[1]?.getD 0), .int .u16 (wat zs 4), .bool (decide (16384 ≤ wat zs 6 % 32768)), .int .u8 (zs[8]?.getD 0), .int .u8 (zs[9]?.getD 0), .int .u32 (wat4 zs 12), .int .u32 (wat4 zs 16), .slice ao1 lo co1, .slice ad1 ld cd1] 41)
    have hpA := heap_alloc_new w1 (.cells #[.int .u8 (zs[1]?.getD 0), .int .u16 (wat zs 4), .bool (decide (16384 ≤ wat zs 6 % 32768)), .int .u8 (zs[8]?.getD 0), .int .u8 (zs[9]?.getD 0), .int .u32 (wat4 zs 12), .int .u32 (wat4 zs 16), .slice ao1 lo co1, .slice ad1 ld cd1] 41)
    have hw2 := hbw1.trans (hbA.mono hbw1.size)
    have HH1 := hide h1
    clear h1
    unfold pkt
    go_wp2_with fail
    refine (rparse_any _ zs _ hB (by omega) ((hI.below hw2).mono hw2.size)).mono ?_
    rintro e w3 ⟨hb3, ⟨h3, rfl⟩ | ⟨h3, so3, sd3, rfl, hO3, hD3⟩⟩
    · exact absurd HH1.out h3
    · obtain ⟨ao3, co3, rfl, _, _⟩ := hO3.slice
      obtain ⟨ad3, cd3, rfl, _, _⟩ := hD3.slice
      rw [HLo.out] at hO3 ⊢
      rw [HLd.out] at hD3 ⊢
      unfold pkt
      have hp3 := (hb3.block w1.heap.size (by simp)).trans hpA
      have hw3 := hw2.trans (hb3.mono hw2.size)
      have hbB := (Below.refl w3.heap.size w3).alloc (Nat.le_refl _) (.cells #[.int .u8 (zs[1]?.getD 0), .int .u16 (wat zs 4), .bool (decide (16384 ≤ wat zs 6 % 32768)), .int .u8 (zs[8]?.getD 0), .int .u8 (zs[9]?.getD 0), .int .u32 (wat4 zs 12), .int .u32 (wat4 zs 16), .slice ao3 lo co3, .slice ad3 ld cd3] 41)
      have hpB := heap_alloc_new w3 (.cells #[.int .u8 (zs[1]?.getD 0), .int .u16 (wat zs 4), .bool (decide (16384 ≤ wat zs 6 % 32768)), .int .u8 (zs[8]?.getD 0), .int .u8 (zs[9]?.getD 0), .int .u32 (wat4 zs 12), .int .u32 (wat4 zs 16), .slice ao3 lo co3, .slice ad3 ld cd3] 41)
      have hp4 := (hbB.block w1.heap.size (Array.getElem?_eq_some_iff.1 hp3).1).trans hp3
      have hw4 := hw3.trans (hbB.mono hw3.size)
      clear h3
      go_wp2_with fail
      refine (live2_any _).mono ?_
      rintro e w5 ⟨rfl, hb5⟩
      have C1 := block_cell ((hb5.block w1.heap.size (Array.getElem?_eq_some_iff.1 hp4).1).trans hp4)
      have C2 := block_cell ((hb5.block w3.heap.size (by simp)).trans hpB)
      have hw5 := hw4.trans (hb5.mono hw4.size)
      go_wp2_with fail
      have l15 : Later w1 w5 := ((hbA.trans (hb3.mono (by simp))).trans (hbB.mono (by have := hb3.size; simp at this; omega))).trans (hb5.mono (by have := hb3.size; simp at this; simp; omega))
      have l35 : Later w3 w5 := hbB.trans (hb5.mono (by simp))
      refine (rsame_pkt zs _ _ _ _ _ _ w5 hBo hBd (hO1.below l15 (Nat.le_refl _)).rd (hD1.below l15 (Nat.le_refl _)).rd (hO3.below l35 (Nat.le_refl _)).rd (hD3.below l35 (Nat.le_refl _)).rd).mono ?_
      rintro e w6 ⟨rfl, hb6⟩
      have hw6 := hw5.trans (hb6.mono hw5.size)
      have hwb6 : Later w0 w6 := ((((hb1.trans (hbA.mono hb1.size)).trans (hb3.mono (by have := hb1.size; simp; omega))).trans (hbB.mono (Nat.le_trans (Nat.le_trans hb1.size (by simp)) hb3.size))).trans (hb5.mono (by have h1 := hb1.size; have h2 := hb3.size; simp at h2; simp; omega))).trans (hb6.mono (by have h1 := hb1.size; have h2 := hb3.size; have h3 := hb5.size; simp at h2 h3; omega))
      have hcO := conv_rd 22 9 5 Try.underlying22 Try.underlying5 Try.underlying9 (hO0.below hwb6 (Nat.le_refl _)).rd
      have hcI := conv_rd 22 9 5 Try.underlying22 Try.underlying5 Try.underlying9 (hI.below hw6)
      have hss : ((strOfNums zs).toList == (strOfNums zs).toList) = true := by simp
      generalize strOfNums zs = str at *
      go_wp2
      go_ret
      exact ⟨rfl, hw6⟩
end Go.Proofs.Ytiigmhddnaocoab
