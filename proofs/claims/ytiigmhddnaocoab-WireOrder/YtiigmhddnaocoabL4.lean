/- The walks of the laws WireOrder and WireZeros. -/
import Derived.Test.YtiigmhddnaocoabW6
namespace Go.Proofs.Ytiigmhddnaocoab
open Go.RowKit

theorem cks_order (a b : List Int) (ha : a.length % 2 = 0) (hb : b.length % 2 = 0) : Mt.cks (a ++ b) = Mt.cks (b ++ a) := by
  unfold Mt.cks
  rw [Mt.tw_append, Mt.tw_append]
  simp [Mt.turn, ha, hb, Int.add_comm]

set_option maxHeartbeats 1000000 in
theorem walk_WireOrder (w : World) (sa : Value) (us : List Int) (hA : Mt.By us) (hIa : Rd w.heap.size w sa us) (sb : Value) (bs : List Int) (hB : Mt.By bs) (hIb : Rd w.heap.size w sb bs) :
    Calls Try.prog 5 #[sa, sb] w fun e w' => e = .returned (.bool true) ∧ Below w.heap.size w w' := by
  obtain ⟨i0, hi, hz0, hz1, hz2⟩ := info_parts info_u8
  obtain ⟨a, capa, rfl, hla, hma⟩ := hIa.slice
  obtain ⟨b, capb, rfl, hlb, hmb⟩ := hIb.slice
  have HFa := hide (few_rd _ us w hIa)
  have HFb := hide (few_rd _ bs w hIb)
  obtain ⟨hA2, hla3⟩ := take5 us hA
  obtain ⟨hB2, hlb3⟩ := take5 bs hB
  generalize us.take 5000 = xs at *
  generalize bs.take 5000 = ys at *
  generalize us.length = la at *
  generalize bs.length = lb at *
  clear hIa hIb hA hB
  by_cases hev : xs.length % 2 = 0 ∧ ys.length % 2 = 0
  · obtain ⟨h1, h2⟩ := hev
    have t1 : ((xs.length : Int) % 2 != 0) = false := by simp; omega
    have t2 : ((ys.length : Int) % 2 != 0) = false := by simp; omega
    have HO := hide (cks_order xs ys h1 h2)
    go_enter Try.func5, Try.ntmps5
    go_wp2_with fail
    refine (unhide HFa).mono ?_
    rintro e w1 ⟨a1, cap1, rfl, hIa2, rfl⟩
    go_wp2_with fail
    refine (unhide HFb).mono ?_
    rintro e w1 ⟨b1, capb1, rfl, hIb2, rfl⟩
    clear HFa HFb
    have hbA : Below w1.heap.size w1 (w1.alloc (.cells #[] 5)) := (Below.refl _ w1).alloc (Nat.le_refl _) _
    go_wp2_with (first
      | (at_builtin; refine wpList_app _ rfl (.tmp 22) (.tmp 23) 22 rfl w1.heap.size 5 i0 Try.underlying22 hi hz0 hz1 hz2 _ [] rfl (own_empty w1 _) w1.heap.size _ xs rfl (hIa2.below hbA) (by simp; omega) (by simp) ?_; intro v2 w2 hown2 hg2; have hb2 := below_app hbA (own_empty w1 _) hg2 (Nat.le_refl _) (by simp); clear hg2; simp only [List.nil_append] at hown2)
      | (at_builtin; refine wpList_app _ rfl (.tmp 24) (.tmp 25) 22 rfl w1.heap.size 5 i0 Try.underlying22 hi hz0 hz1 hz2 _ xs rfl hown2 w1.heap.size _ ys rfl (hIb2.below hb2) (by omega) hb2.size ?_; intro v3 w3 hown3 hg3; have hb3 := below_app hb2 hown2 hg3 (Nat.le_refl _) hb2.size; clear hg3 hown2; have hO3 := Ow.of_row hown3; have hbB := hb3.alloc hb3.size (.cells #[] 5))
      | (at_builtin; refine wpList_app _ rfl (.tmp 27) (.tmp 28) 22 rfl w3.heap.size 5 i0 Try.underlying22 hi hz0 hz1 hz2 _ [] rfl (own_empty w3 _) w1.heap.size _ ys rfl (hIb2.below hbB) (by simp; omega) (by simp) ?_; intro v4 w4 hown4 hg4; have hb4 := below_app ((Below.refl w3.heap.size w3).alloc (Nat.le_refl _) _) (own_empty w3 _) hg4 (Nat.le_refl _) (by simp); clear hg4 hbB; simp only [List.nil_append] at hown4; have hb5 := hb3.trans (hb4.mono hb3.size))
      | (at_builtin; refine wpList_app _ rfl (.tmp 29) (.tmp 30) 22 rfl w3.heap.size 5 i0 Try.underlying22 hi hz0 hz1 hz2 _ ys rfl hown4 w1.heap.size _ xs rfl (hIa2.below hb5) (by omega) hb4.size ?_; intro v6 w6 hown6 hg6; have hb6 := below_app hb4 hown4 hg6 (Nat.le_refl _) hb4.size; clear hg6 hown4; have hO6 := Ow.of_row hown6; have hO3' := hO3.below hb6 (Nat.le_refl _)))
    have hBx := hA2.append hB2
    have hBy := hB2.append hA2
    have hlx : (xs ++ ys).length ≤ 10000 := by simp; omega
    have hly : (ys ++ xs).length ≤ 10000 := by simp; omega
    have hball := hb5.trans (((Below.refl w4.heap.size w4)).mono hb5.size)
    have hbz := hb3.trans (hb6.mono hb3.size)
    clear hown3 hown6 hO3 hIa2 hIb2 hbA hb2 hb5 hb4 hb3
    generalize xs ++ ys = p at *
    generalize ys ++ xs = q at *
    refine (live_any _).mono ?_
    rintro e w7 ⟨rfl, hb7⟩
    have hO3a := hO3'.below hb7 (Nat.le_refl _)
    have hO6a := hO6.below hb7 (Nat.le_refl _)
    go_wp2_with fail
    refine (sum_any _ p hBx (by omega) _ hO3a.rd).mono ?_
    rintro e w8 ⟨rfl, hb8⟩
    have hO6b := hO6a.below hb8 (Nat.le_refl _)
    go_wp2_with fail
    refine (sum_any _ q hBy (by omega) _ hO6b.rd).mono ?_
    rintro e w9 ⟨rfl, hb9⟩
    rw [HO.out]
    go_wp2
    go_ret
    exact ⟨rfl, (hbz.trans (hb7.mono hbz.size)).trans ((hb8.trans (hb9.mono hb8.size)).mono (Nat.le_trans hbz.size hb7.size))⟩
  · have ht : ((xs.length : Int) % 2 != 0) = true ∨ (((xs.length : Int) % 2 != 0) = false ∧ ((ys.length : Int) % 2 != 0) = true) := by
      by_cases h : xs.length % 2 = 0
      · exact .inr ⟨by simp; omega, by simp; omega⟩
      · exact .inl (by simp; omega)
    clear hev
    rcases ht with t1 | ⟨t1, t2⟩
    all_goals
      go_enter Try.func5, Try.ntmps5
      go_wp2_with fail
      refine (unhide HFa).mono ?_
      rintro e w1 ⟨a1, cap1, rfl, hIa2, rfl⟩
      go_wp2_with fail
      refine (unhide HFb).mono ?_
      rintro e w1 ⟨b1, capb1, rfl, hIb2, rfl⟩
      clear HFa HFb
      go_wp2_with fail
      refine (live_any _).mono ?_
      rintro e w3 ⟨rfl, hb3⟩
      go_wp2
      go_ret
      exact ⟨rfl, hb3⟩

theorem cks_behind (b : List Int) (n : Nat) : Mt.cks (b ++ List.replicate n 0) = Mt.cks b := by
  unfold Mt.cks; rw [Mt.tw_append, Mt.tw_zeros, Int.add_zero]
theorem cks_ahead (b : List Int) (n : Nat) (hn : n % 2 = 0) : Mt.cks (List.replicate n 0 ++ b) = Mt.cks b := by
  unfold Mt.cks; rw [Mt.tw_append, Mt.tw_zeros, Int.zero_add]; simp [Mt.turn, hn]
theorem By_zeros (n : Nat) : Mt.By (List.replicate n 0) := fun z hz => by rw [(List.mem_replicate.1 hz).2]; omega

set_option maxHeartbeats 1000000 in
theorem walk_WireZeros (w : World) (sv : Value) (zs : List Int) (hB : Mt.By zs) (hI : Rd w.heap.size w sv zs) (n : Int) (hn : 0 ≤ n ∧ n ≤ 255) :
    Calls Try.prog 6 #[sv, .int .u8 n] w fun e w' => e = .returned (.bool true) ∧ Below w.heap.size w w' := by
  obtain ⟨i0, hi, hz0, hz1, hz2⟩ := info_parts info_u8
  obtain ⟨a, cap, rfl, hl, hm⟩ := hI.slice
  have HF := hide (few_rd _ zs w hI)
  obtain ⟨hB2, hl3⟩ := take5 zs hB
  generalize zs.take 5000 = ys at *
  generalize zs.length = len at *
  clear hI hB
  obtain ⟨k, rfl⟩ := Int.eq_ofNat_of_zero_le hn.1
  go_enter Try.func6, Try.ntmps6
  go_wp2_with fail
  refine (unhide HF).mono ?_
  rintro e w1 ⟨a1, cap1, rfl, hI2, rfl⟩
  clear HF
  have HO1 := hide (cks_behind ys (k * 2))
  have HO2 := hide (cks_ahead ys (k * 2) (by omega))
  have hBz := By_zeros (k * 2)
  have hlz : (List.replicate (k * 2) (0 : Int)).length ≤ 510 := by simp; omega
  go_wp2_with (first
    | (at_make; refine wpList_make_full _ rfl _ _ 22 rfl w1.heap.size 5 i0 (.int .u8 0) 1 Try.underlying22 hi hz0 hz1 _ _ _ _ (k * 2) rfl rfl (by omega) (by omega) (by rw [hz2]; omega) (by unfold maxLen; omega) (Nat.le_refl _) ?_; intro w2 hown2 hg2; have hz := own_made hown2; clear hown2; have hb2 : Below w1.heap.size w1 w2 := (Below.refl _ w1).grown hg2 (Nat.le_refl _) (fun _ e => by cases e); have hlt2 := (hz.lt w1.heap.size rfl).2; clear hg2; generalize List.replicate (k * 2) (0 : Int) = z at *; have hbA : Below w2.heap.size w2 (w2.alloc (.cells #[] 5)) := (Below.refl _ w2).alloc (Nat.le_refl _) _)
    | (at_builtin; refine wpList_app _ rfl (.tmp 14) (.tmp 15) 22 rfl w2.heap.size 5 i0 Try.underlying22 hi hz0 hz1 hz2 _ [] rfl (own_empty w2 _) w1.heap.size _ ys rfl (hI2.below (hb2.trans (hbA.mono hb2.size))) (by simp; omega) (by simp) ?_; intro v3 w3 hown3 hg3; have hb3 := below_app hbA (own_empty w2 _) hg3 (Nat.le_refl _) (by simp); clear hg3; simp only [List.nil_append] at hown3)
    | (at_builtin; refine wpList_app _ rfl (.tmp 16) (.tmp 17) 22 rfl w2.heap.size 5 i0 Try.underlying22 hi hz0 hz1 hz2 _ ys rfl hown3 w3.heap.size _ z rfl (Ow.of_row (row_below hz hb3 (Nat.le_refl _))).rd (by omega) hb3.size ?_; intro v4 w4 hown4 hg4; have hb4 := below_app hb3 hown3 hg4 (Nat.le_refl _) hb3.size; clear hg4 hown3; have hO4 := Ow.of_row hown4; clear hown4; have hz4 := row_below hz hb4 (Nat.le_refl _); have hb14 := hb2.trans (hb4.mono hb2.size))
    | (at_builtin; refine wpList_app _ rfl (.tmp 19) (.tmp 20) 22 rfl w1.heap.size 5 i0 Try.underlying22 hi hz0 hz1 hz2 _ z rfl hz4 w1.heap.size _ ys rfl (hI2.below hb14) (by omega) hb14.size ?_; intro v6 w6 hown6 hg6; have hb6 := below_app hb14 hz4 hg6 (Nat.le_refl _) hb14.size; have hO4' := hO4.grown hg6 (fun j e => by cases e; exact hlt2); clear hg6; have hO6 := Ow.of_row hown6; clear hown6; have hI6 := hI2.below hb6; have hz6 := hb6.size))
  have hBx := hB2.append hBz
  have hBy := hBz.append hB2
  have hlx : (ys ++ z).length ≤ 10000 := by simp; omega
  have hly : (z ++ ys).length ≤ 10000 := by simp; omega
  clear hz hz4 hO4 hb4 hb14 hb3 hbA hb2 hlt2 hI2
  generalize ys ++ z = p at *
  generalize z ++ ys = q at *
  have hI6' := hI6.mono hz6
  refine (live_any _).mono ?_
  rintro e w7 ⟨rfl, hb7⟩
  have hO4a := hO4'.below hb7 (Nat.le_refl _)
  have hO6a := hO6.below hb7 (Nat.le_refl _)
  have hI7 := (hI6'.below hb7).mono hb7.size
  go_wp2_with fail
  refine (sum_any _ p hBx (by omega) _ hO4a.rd).mono ?_
  rintro e w8 ⟨rfl, hb8⟩
  rw [HO1.out]
  have hO6b := hO6a.below hb8 (Nat.le_refl _)
  have hI8 := (hI7.below hb8).mono hb8.size
  go_wp2_with fail
  refine (sum_any _ ys hB2 (by omega) _ hI8).mono ?_
  rintro e w9 ⟨rfl, hb9⟩
  have hO6c := hO6b.below hb9 (Nat.le_refl _)
  have hI9 := (hI8.below hb9).mono hb9.size
  go_wp2_with fail
  refine (sum_any _ q hBy (by omega) _ hO6c.rd).mono ?_
  rintro e w10 ⟨rfl, hb10⟩
  rw [HO2.out]
  have hI10 := (hI9.below hb10).mono hb10.size
  go_wp2_with fail
  refine (sum_any _ ys hB2 (by omega) _ hI10).mono ?_
  rintro e w11 ⟨rfl, hb11⟩
  go_wp2
  go_ret
  have h7 := hb6.trans (hb7.mono hb6.size)
  have h8 := h7.trans (hb8.mono h7.size)
  have h9 := h8.trans (hb9.mono h8.size)
  have h10 := h9.trans (hb10.mono h9.size)
  exact ⟨rfl, h10.trans (hb11.mono h10.size)⟩
end Go.Proofs.Ytiigmhddnaocoab
