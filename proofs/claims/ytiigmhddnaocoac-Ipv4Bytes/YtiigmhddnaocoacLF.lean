/- The walk of the law Ipv4Bytes. -/
import Derived.Test.YtiigmhddnaocoacVR
import Derived.Test.YtiigmhddnaocoacMb
namespace Go.Proofs.Ytiigmhddnaocoac
open Go.RowKit Go.Shelf
set_option linter.unusedVariables false
set_option linter.unusedSimpArgs false

theorem same_zero (w : World) : Calls Try.prog 15 #[.agg zc.toArray, .agg zc.toArray] w fun e w' => e = .returned (.bool true) ∧ Below w.heap.size w w' :=
  (rsame_any 0 0 0 0 0 0 0 0 0 0 0 0 false false (.slice none 0 0) (.slice none 0 0) (.slice none 0 0) (.slice none 0 0) [] [] [] [] w Mt.By.nil Mt.By.nil Mt.By.nil Mt.By.nil (rd_zero w) (rd_zero w) (rd_zero w) (rd_zero w)).mono fun e w' ⟨he, hb⟩ => ⟨he, hb⟩

set_option maxHeartbeats 4000000 in
theorem walk_Ipv4Bytes (w : World) (sv : Value) (zs : List Int) (hB : Mt.By zs) (hI : Rd w.heap.size w sv zs) (hl : zs.length ≤ 140737488351232) :
    Calls Try.prog 5 #[sv] w fun e w' => e = .returned (.bool true) ∧ Below w.heap.size w w' := by
  obtain ⟨a, cap, rfl, hl1, hm1⟩ := hI.slice
  go_enter Try.func5, Try.ntmps5
  go_wp2_with fail
  refine (parse_any _ zs w hB (by omega) hI).mono ?_
  rintro e w1 ⟨hb1, ⟨h1, rfl⟩ | ⟨h1, so1, sd1, rfl, hO1, hD1⟩⟩
  · have hb2 := hb1.alloc hb1.size (.cells zc.toArray 26)
    have h1' : (rde false zs != 0) = true := by simpa using h1
    have HR := hide h1
    clear h1
    go_wp2_with fail
    refine (live2_any _).mono ?_
    rintro e w3 ⟨rfl, hb3⟩
    have c3 : ∀ i, w3.cell? ⟨w1.heap.size, i, none⟩ = zc.toArray[i]? := fun i => (hb3.cell (p := ⟨w1.heap.size, i, none⟩) (by simp)).trans (cell_new w1 _ _ i)
    have hw3 := hb2.trans (hb3.mono hb2.size)
    go_wp2_with fail
    refine (same_zero _).mono ?_
    rintro e w4 ⟨rfl, hb4⟩
    go_wp2
    go_ret
    exact ⟨rfl, hw3.trans (hb4.mono hw3.size)⟩
  · obtain ⟨k, hk⟩ := Int.eq_ofNat_of_zero_le (show 0 ≤ hl4 zs by have := hl4_bd hB; omega)
    obtain ⟨n, hn⟩ := Int.eq_ofNat_of_zero_le (show 0 ≤ wat zs 2 by have := wat_bd hB 2; omega)
    obtain ⟨f1, f2, f3, f4, f5, f6, f7, f8⟩ := told_fit zs hB k n hk hn h1
    have hback := bytes_back zs hB k n hk hn h1
    have hral : ral false zs = n := by simp [ral]; exact hn
    rw [hk, Int.toNat_natCast] at hO1
    rw [hral, hk, Int.toNat_natCast, Int.toNat_natCast] at hD1
    obtain ⟨ao, co, rfl, ho1, ho2⟩ := hO1.slice
    obtain ⟨ad, cd, rfl, hd1, hd2⟩ := hD1.slice
    have Hbk := hide hback
    clear hback hral hk hn h1
    have hbx : Below w1.heap.size w1 (w1.alloc (.cells #[.int .u8 (zs[1]?.getD 0), .int .u16 (wat zs 4), .bool (decide (16384 ≤ wat zs 6 % 32768)), .int .u8 (zs[8]?.getD 0), .int .u8 (zs[9]?.getD 0), .int .u32 (wat4 zs 12), .int .u32 (wat4 zs 16), .slice ao ((zs.take k).drop 20).length co, .slice ad ((zs.take n).drop k).length cd] 26)) := (Below.refl _ _).alloc (Nat.le_refl _) _
    have hBo : Mt.By ((zs.take k).drop 20) := (hB.take _).drop _
    have hBd : Mt.By ((zs.take n).drop k) := (hB.take _).drop _
    have q1 := hB.at 1
    have q8 := hB.at 8
    have q9 := hB.at 9
    have q4 := wat_bd hB 4
    have qs : 0 ≤ wat4 zs 12 ∧ wat4 zs 12 ≤ 4294967295 := by have h1 := wat_bd hB 12; have h2 := wat_bd hB (12 + 2); unfold wat4; omega
    have qd : 0 ≤ wat4 zs 16 ∧ wat4 zs 16 ≤ 4294967295 := by have h1 := wat_bd hB 16; have h2 := wat_bd hB (16 + 2); unfold wat4; omega
    have hfz : Hid (((zs.take k).drop 20).length ≤ 40 ∧ ((zs.take k).drop 20).length % 4 = 0 ∧ 20 + ((zs.take k).drop 20).length + ((zs.take n).drop k).length = n) := by show _ ∧ _ ∧ _; omega
    clear f7 f8
    unfold pkt
    generalize (zs.take k).drop 20 = zo at *
    generalize (zs.take n).drop k = zd at *
    generalize zs[1]?.getD 0 = z1 at *
    generalize zs[8]?.getD 0 = z8 at *
    generalize zs[9]?.getD 0 = z9 at *
    generalize wat4 zs 12 = zs12 at *
    generalize wat4 zs 16 = zs16 at *
    generalize wat zs 4 = zw4 at *
    generalize decide (16384 ≤ wat zs 6 % 32768) = kp at *
    go_wp2_with fail
    refine (build_yes z1 zw4 z8 z9 zs12 zs16 kp _ _ zo zd _ hBo ((hO1.below hbx (Nat.le_refl _)).rd) ((hD1.below hbx (Nat.le_refl _)).rd) hfz.out.1 hfz.out.2.1 (by have := hfz.out.2.2; omega) q1 q4 q8 q9 qs qd).mono ?_
    rintro e w3 ⟨v3, rfl, hO3, hb3⟩
    have hnn : (20 : Int) + zo.length + zd.length = (n : Int) := by have := hfz.out.2.2; omega
    rw [hnn] at hO3
    have hlen : (hdr z1 zw4 kp z8 z9 zs12 zs16 zo (n : Int) ++ zd).length = n := by rw [List.length_append, hdr_len]; exact hfz.out.2.2
    generalize hdr z1 zw4 kp z8 z9 zs12 zs16 zo (n : Int) ++ zd = bb at *
    clear hnn hO1 hD1 ho1 hd1
    have hw3 : Below w.heap.size w w3 := (hb1.trans (hbx.mono hb1.size)).trans (hb3.mono (by have := hb1.size; simp; omega))
    obtain ⟨a3, cap3, rfl, hl3, hm3⟩ := hO3.slice
    rw [hlen] at hl3 ⊢
    have hIz := hI.below hw3
    obtain ⟨g, hg, _, _, hcb, _⟩ := hO3.at (by omega)
    subst hg
    obtain ⟨b, off, cap', e', _, _, hb, hcz⟩ := hIz.cells (by omega)
    cases e'
    have t1 : ¬ (zs.length : Int) < n := by omega
    have t2 : n ≤ zs.length := f5
    clear hfz hIz hO3 hl3 hb3 hbx
    have hcb' : ∀ j, j < n → w3.cell? ⟨g, j, none⟩ = some (.int .u8 (bb[j]?.getD 0)) := fun j h => (hcb j (by omega)).1
    have H1 := hide hcb'
    have H2 := hide hcz
    clear hcb hcb' hcz
    go_wp2
    go_loopw [7] (fun i wr => ∃ m : Nat, m ≤ n ∧ i = .int .i64 m ∧ ∃ q, wr = w3.drewN q) (fun i _ => n - (intOf i).toNat)
    case atStart => exact ⟨0, by omega, rfl, 0, rfl⟩
    case round =>
      obtain ⟨m, hmn, rfl, q, rfl⟩ := hrel
      by_cases hlt : m < n
      · have c1 := unhide H1 m hlt
        have c2 := unhide H2 m (by omega)
        have t3 : (m : Int) < n := by omega
        have t4 : (m : Int) < zs.length := by omega
        by_cases heq : bb[m]?.getD 0 = zs[m]?.getD 0
        · rw [heq] at c1
          generalize zs[m]?.getD 0 = x at c1 c2 heq
          clear heq
          go_wp2_with fail
          have hne : (x != x) = false := by simp
          go_quiet (fail)
          go_wp2
          go_roundw
          case rel => exact ⟨m + 1, by omega, by go_num, _, rfl⟩
          case measure => simp [intOf]; omega
        · have hcase : m = 10 ∨ m = 11 := by
            refine Classical.byContradiction (fun hno => heq (Hbk.out m hlt (by omega) (by omega)))
          have hne : (bb[m]?.getD 0 != zs[m]?.getD 0) = true := by simpa using heq
          generalize bb[m]?.getD 0 = x at c1 hne heq
          generalize zs[m]?.getD 0 = y at c2 hne heq
          have HE := hide heq
          clear heq hne
          rcases hcase with rfl | rfl
          · go_wp2_with fail
            have hne : (x != y) = true := by simpa using HE.out
            go_quiet (fail)
            go_wp2
            go_roundw
            case rel => exact ⟨10 + 1, by omega, by go_num, _, rfl⟩
            case measure => simp [intOf]; omega
          · go_wp2_with fail
            have hne : (x != y) = true := by simpa using HE.out
            go_quiet (fail)
            go_wp2
            go_roundw
            case rel => exact ⟨11 + 1, by omega, by go_num, _, rfl⟩
            case measure => simp [intOf]; omega
      · go_wp2_with fail
        refine (live2_any _).mono ?_
        rintro e w5 ⟨rfl, hb5⟩
        go_wp2
        go_ret
        exact ⟨rfl, (below_draw hw3 q).trans (hb5.mono hw3.size)⟩
end Go.Proofs.Ytiigmhddnaocoac
