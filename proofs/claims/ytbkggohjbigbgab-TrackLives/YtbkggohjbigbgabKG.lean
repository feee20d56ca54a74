/- The walks of TrackPlain and TrackLives. -/
import Derived.Test.YtbkggohjbigbgabKF
namespace Go.Proofs.Ytbkggohjbigbgab
open Go.RowKit Go.Shelf
set_option maxRecDepth 100000
set_option linter.unusedVariables false
set_option linter.unusedSimpArgs false

theorem cell_of_block {W : World} {g : Nat} {cur : Array Value} {e : TypeId} (h : W.heap[g]? = some (.cells cur e (0, 0))) (j : Nat) : W.cell? ⟨g, j, none⟩ = cur[j]? := by
  simp [World.cell?, h]

theorem nx_bd {s fl : Int} {b : Bool} (hfl : 0 ≤ fl ∧ fl ≤ 255) (hs : 0 ≤ s ∧ s ≤ 7) : nx s b fl = 0 ∨ nx s b fl = 1 ∨ nx s b fl = 2 ∨ nx s b fl = 3 ∨ nx s b fl = 4 ∨ nx s b fl = 5 ∨ nx s b fl = 6 ∨ nx s b fl = 7 := by
  rw [nx_eq hfl]
  generalize (bits .and .u8 fl 4 != 0) = R
  generalize (bits .and .u8 fl 2 != 0) = S
  generalize (bits .and .u8 fl 1 != 0) = F
  generalize (bits .and .u8 fl 16 != 0) = A
  have : s = 0 ∨ s = 1 ∨ s = 2 ∨ s = 3 ∨ s = 4 ∨ s = 5 ∨ s = 6 ∨ s = 7 := by omega
  rcases this with rfl | rfl | rfl | rfl | rfl | rfl | rfl | rfl <;> revert b R S F A <;> decide +kernel

theorem pbA : ∀ n : Nat, n < 256 → 0 ≤ bits .and .u8 n 23 ∧ bits .and .u8 n 23 < 24 ∧ bits .and .u8 (bits .and .u8 n 23) 4 = bits .and .u8 n 4 ∧ bits .and .u8 (bits .and .u8 n 23) 2 = bits .and .u8 n 2 ∧ bits .and .u8 (bits .and .u8 n 23) 1 = bits .and .u8 n 1 ∧ bits .and .u8 (bits .and .u8 n 23) 16 = bits .and .u8 n 16 := by decide +kernel
theorem pbB : ∀ n : Nat, n < 256 → 0 ≤ bits .andNot .u8 n 23 ∧ bits .andNot .u8 n 23 < 256 ∧ bits .and .u8 (bits .andNot .u8 n 23) 23 = 0 := by decide +kernel
theorem pbC : ∀ a : Nat, a < 24 → ∀ n : Nat, n < 256 → bits .and .u8 n 23 = 0 → 0 ≤ bits .or .u8 a n ∧ bits .or .u8 a n ≤ 255 ∧ bits .and .u8 (bits .or .u8 a n) 4 = bits .and .u8 a 4 ∧ bits .and .u8 (bits .or .u8 a n) 2 = bits .and .u8 a 2 ∧ bits .and .u8 (bits .or .u8 a n) 1 = bits .and .u8 a 1 ∧ bits .and .u8 (bits .or .u8 a n) 16 = bits .and .u8 a 16 := by decide +kernel
theorem plain_bits {x y : Int} (hx : 0 ≤ x ∧ x ≤ 255) (hy : 0 ≤ y ∧ y ≤ 255) : 0 ≤ bits .or .u8 (bits .and .u8 x 23) (bits .andNot .u8 y 23) ∧ bits .or .u8 (bits .and .u8 x 23) (bits .andNot .u8 y 23) ≤ 255 ∧ (∀ s b, nx s b (bits .or .u8 (bits .and .u8 x 23) (bits .andNot .u8 y 23)) = nx s b x) ∧ bgn (bits .or .u8 (bits .and .u8 x 23) (bits .andNot .u8 y 23)) = bgn x := by
  have hA := pbA x.toNat (by omega)
  have hB := pbB y.toNat (by omega)
  rw [Int.toNat_of_nonneg hx.1] at hA
  rw [Int.toNat_of_nonneg hy.1] at hB
  obtain ⟨a0, a1, a4, a2, aa, a16⟩ := hA
  obtain ⟨b0, b1, b2⟩ := hB
  generalize bits .andNot .u8 y 23 = c at *
  have hC := pbC (bits .and .u8 x 23).toNat (by omega) c.toNat (by omega)
  rw [Int.toNat_of_nonneg a0, Int.toNat_of_nonneg b0] at hC
  obtain ⟨c0, c1, d4, d2, da, d16⟩ := hC b2
  refine ⟨c0, c1, fun s b => ?_, ?_⟩
  · rw [nx_eq ⟨c0, c1⟩, nx_eq hx, d4, d2, da, d16, a4, a2, aa, a16]
  · rw [bgn_eq ⟨c0, c1⟩, bgn_eq hx, d4, d2, da, d16, a4, a2, aa, a16]

set_option maxHeartbeats 1000000 in
theorem walk_TrackPlain (w : World) (s : Int) (hs : -9223372036854775808 ≤ s ∧ s ≤ 9223372036854775807) (b : Bool) (x : Int) (hx : 0 ≤ x ∧ x ≤ 255) (y : Int) (hy : 0 ≤ y ∧ y ≤ 255) :
    Calls Try.prog 3 #[.int .i64 s, .bool b, .agg #[.int .u8 x, .int .u8 y]] w fun e w' => e = .returned (.bool true) ∧ Below w.heap.size w w' := by
  obtain ⟨o0, o1, on, ob⟩ := plain_bits hx hy
  have ON := hide (on s b)
  have OB := hide ob
  clear on ob
  have hb0 : Below w.heap.size w (w.alloc (.cells #[.int .u8 x, .int .u8 y] 23)) := (Below.refl _ _).alloc (Nat.le_refl _) _
  have p0 := heap_alloc_new w (.cells #[.int .u8 x, .int .u8 y] 23)
  have P0 := hide p0
  clear p0
  go_enter Try.func3, Try.ntmps3
  go_wp2_with fail
  generalize w.alloc (.cells #[.int .u8 x, .int .u8 y] 23) = W0 at *
  refine (next_any s b x _).mono ?_
  rintro e w1 ⟨rfl, hb1⟩
  have hw1 := hb0.trans (hb1.mono hb0.size)
  go_wp2_with fail
  refine (next_any s b _ _).mono ?_
  rw [ON.out]
  generalize nx s b x = n at *
  rintro e w2 ⟨rfl, hb2⟩
  have hw2 := hw1.trans (hb2.mono hw1.size)
  go_wp2_with fail
  refine (live7_any _).mono ?_
  rintro e w3 ⟨rfl, hb3⟩
  have hw3 := hw2.trans (hb3.mono hw2.size)
  have p3 := (hb3.block _ (Nat.lt_of_lt_of_le (Nat.lt_of_lt_of_le (Array.getElem?_eq_some_iff.1 P0.out).1 hb1.size) hb2.size)).trans ((hb2.block _ (Nat.lt_of_lt_of_le (Array.getElem?_eq_some_iff.1 P0.out).1 hb1.size)).trans ((hb1.block _ (Array.getElem?_eq_some_iff.1 P0.out).1).trans P0.out))
  have P3 := cell_of_block p3
  go_wp2_with fail
  refine (begins_any x _).mono ?_
  rintro e w4 ⟨rfl, rfl⟩
  go_wp2_with fail
  refine (begins_any _ _).mono ?_
  rw [OB.out]
  rintro e w4 ⟨rfl, rfl⟩
  go_wp2_with fail
  go_ret
  exact ⟨by simp, hw3⟩

set_option maxHeartbeats 8000000 in
theorem walk_TrackLives (w : World) (vb : Value) (bs : List Bool) (hIb : RdB w.heap.size w vb bs) (vf : Value) (zs : List Int) (hB : Mt.By zs) (hIf : Rd w.heap.size w vf zs) :
    Calls Try.prog 4 #[vb, vf] w fun e w' => e = .returned (.bool true) ∧ Below w.heap.size w w' := by
  obtain ⟨ab, cb, rfl, hcb, hmb⟩ := hIb.slice
  obtain ⟨af, cf, rfl, hcf, hmf⟩ := hIf.slice
  have hlb : (bs.length : Int) ≤ 9223372036854775807 := by omega
  have hlf : (zs.length : Int) ≤ 9223372036854775807 := by omega
  go_enter Try.func4, Try.ntmps4
  go_wp2
  go_loopw [5, 6] (fun s i wr => ∃ (k : Nat) (sv : Int), k ≤ bs.length ∧ k ≤ zs.length ∧ k ≤ 40 ∧ i = .int .i64 (k : Int) ∧ s = .int .i64 sv ∧ (0 ≤ sv ∧ sv ≤ 7) ∧ Below w.heap.size w wr) (fun _ i _ => bs.length - (intOf i).toNat)
  case atStart => exact ⟨0, 0, by omega, by omega, by omega, rfl, rfl, by omega, Below.refl _ _⟩
  case round =>
    obtain ⟨k, sv, hk1, hk2, hk3, rfl, rfl, hsv, hbw⟩ := hrel
    by_cases hlt : k < bs.length ∧ k < zs.length ∧ k < 40
    · obtain ⟨l1, l2, l3⟩ := hlt
      obtain ⟨b, off, cp, e, _, _, hbb, hcs⟩ := (hIb.below hbw).cells (by omega)
      simp at e
      obtain ⟨rfl, rfl⟩ := e
      obtain ⟨b2, off2, cp2, e2, _, _, hbb2, hcs2⟩ := (hIf.below hbw).cells' (by omega)
      simp at e2
      obtain ⟨rfl, rfl⟩ := e2
      have c1 := hcs k l1
      have c2 := hcs2 k l2
      have hfl := hB.at k
      generalize bs[k]?.getD false = bk at *
      generalize zs[k]?.getD 0 = fl at *
      clear hcs hcs2
      have l1' : (k : Int) < bs.length := by omega
      have l2' : (k : Int) < zs.length := by omega
      have l3' : (k : Int) < 40 := by omega
      go_upto_region 5 with fail
      go_cut [7, 8] (fun n o wx => n = .int .i64 (nx sv bk fl) ∧ o = .bool (nx sv bk fl != 0) ∧ Later wr wx)
      case first =>
        refine anyR_begin (R := Later) Later.pre Later.drew 15 rfl (by kernel_rfl) (fun W1 hW1 => ?_)
        have d1 : ∀ w1, Later W1 w1 → w1.cell? ⟨b, off + k, none⟩ = some (.bool bk) := fun w1 h => (hW1.trans h).cell c1
        have d2 : ∀ w1, Later W1 w1 → w1.cell? ⟨b2, off2 + k, none⟩ = some (.int .u8 fl) := fun w1 h => (hW1.trans h).cell c2
        refine anyR_val Later.pre 0 rfl (by kernel_rfl) (by kernel_rfl) (by kernel_rfl) (fun _ _ _ _ h => h) rfl ?_; apply Exists.intro; refine ⟨fun w1 hw1 => ?_, ?_⟩; (· (go_simp; rfl)); simp only [Act.put, List.setIfInBounds_toArray, List.set_cons_zero, List.set_cons_succ]
        refine anyR_val Later.pre 1 rfl (by kernel_rfl) (by kernel_rfl) (by kernel_rfl) (fun _ _ _ _ h => h) rfl ?_; apply Exists.intro; refine ⟨fun w1 hw1 => ?_, ?_⟩; (· (go_simp; rfl)); simp only [Act.put, List.setIfInBounds_toArray, List.set_cons_zero, List.set_cons_succ]
        refine anyR_val Later.pre 2 rfl (by kernel_rfl) (by kernel_rfl) (by kernel_rfl) (fun _ _ _ _ h => h) rfl ?_; apply Exists.intro; refine ⟨fun w1 hw1 => ?_, ?_⟩; (· (go_simp; rfl)); simp only [Act.put, List.setIfInBounds_toArray, List.set_cons_zero, List.set_cons_succ]
        refine anyR_val Later.pre 3 rfl (by kernel_rfl) (by kernel_rfl) (by kernel_rfl) (fun _ _ _ _ h => h) rfl ?_; apply Exists.intro; refine ⟨fun w1 hw1 => ?_, ?_⟩; (· (go_simp; rfl)); simp only [Act.put, List.setIfInBounds_toArray, List.set_cons_zero, List.set_cons_succ]
        refine anyR_val Later.pre 4 rfl (by kernel_rfl) (by kernel_rfl) (by kernel_rfl) (fun _ _ _ _ h => h) rfl ?_; apply Exists.intro; refine ⟨fun w1 hw1 => ?_, ?_⟩; (· (go_simp; rfl)); simp only [Act.put, List.setIfInBounds_toArray, List.set_cons_zero, List.set_cons_succ]
        refine anyR_val Later.pre 5 rfl (by kernel_rfl) (by kernel_rfl) (by kernel_rfl) (fun _ _ _ _ h => h) rfl ?_; apply Exists.intro; refine ⟨fun w1 hw1 => ?_, ?_⟩; (· (go_simp; rfl)); simp only [Act.put, List.setIfInBounds_toArray, List.set_cons_zero, List.set_cons_succ]
        refine anyR_val Later.pre 6 rfl (by kernel_rfl) (by kernel_rfl) (by kernel_rfl) (fun _ _ _ _ h => h) rfl ?_; apply Exists.intro; refine ⟨fun w1 hw1 => ?_, ?_⟩; (· (go_simp; rfl)); simp only [Act.put, List.setIfInBounds_toArray, List.set_cons_zero, List.set_cons_succ]
        refine anyR_val Later.pre 7 rfl (by kernel_rfl) (by kernel_rfl) (by kernel_rfl) (fun _ _ _ _ h => h) rfl ?_; apply Exists.intro; refine ⟨fun w1 hw1 => ?_, ?_⟩; (· (go_simp; rfl)); simp only [Act.put, List.setIfInBounds_toArray, List.set_cons_zero, List.set_cons_succ]
        refine anyR_val Later.pre 8 rfl (by kernel_rfl) (by kernel_rfl) (by kernel_rfl) (fun _ _ _ _ h => h) rfl ?_; apply Exists.intro; refine ⟨fun w1 hw1 => ?_, ?_⟩; (· (go_simp; rfl)); simp only [Act.put, List.setIfInBounds_toArray, List.set_cons_zero, List.set_cons_succ]
        refine anyR_one 9 rfl (by kernel_rfl) rfl (fun W2 hW2 => ?_)
        refine wp_enter 6 #[.int .i64 sv, .bool bk, .int .u8 fl] (by go_simp) ?_
        refine (next_any sv bk fl W2).mono ?_
        generalize hn : nx sv bk fl = n
        have HN := hide hn
        clear hn
        rintro e W3 ⟨rfl, hb3⟩
        refine ⟨hb3, ?_⟩
        simp only [Act.put, List.setIfInBounds_toArray, List.set_cons_zero, List.set_cons_succ]
        refine anyR_val Later.pre 10 rfl (by kernel_rfl) (by kernel_rfl) (by kernel_rfl) (fun _ _ _ _ h => h) rfl ?_; apply Exists.intro; refine ⟨fun w1 hw1 => ?_, ?_⟩; (· (go_simp; rfl)); simp only [Act.put, List.setIfInBounds_toArray, List.set_cons_zero, List.set_cons_succ]
        refine anyR_val Later.pre 11 rfl (by kernel_rfl) (by kernel_rfl) (by kernel_rfl) (fun _ _ _ _ h => h) rfl ?_; apply Exists.intro; refine ⟨fun w1 hw1 => ?_, ?_⟩; (· (go_simp; rfl)); simp only [Act.put, List.setIfInBounds_toArray, List.set_cons_zero, List.set_cons_succ]
        refine anyR_val Later.pre 12 rfl (by kernel_rfl) (by kernel_rfl) (by kernel_rfl) (fun _ _ _ _ h => h) rfl ?_; apply Exists.intro; refine ⟨fun w1 hw1 => ?_, ?_⟩; (· (go_simp; rfl)); simp only [Act.put, List.setIfInBounds_toArray, List.set_cons_zero, List.set_cons_succ]
        refine anyR_val Later.pre 13 rfl (by kernel_rfl) (by kernel_rfl) (by kernel_rfl) (fun _ _ _ _ h => h) rfl ?_; apply Exists.intro; refine ⟨fun w1 hw1 => ?_, ?_⟩; (· (go_simp; rfl)); simp only [Act.put, List.setIfInBounds_toArray, List.set_cons_zero, List.set_cons_succ]
        refine anyR_val Later.pre 14 rfl (by kernel_rfl) (by kernel_rfl) (by kernel_rfl) (fun _ _ _ _ h => h) rfl ?_; apply Exists.intro; refine ⟨fun w1 hw1 => ?_, ?_⟩; (· (go_simp; rfl)); simp only [Act.put, List.setIfInBounds_toArray, List.set_cons_zero, List.set_cons_succ]
        refine anyR_done (by kernel_rfl) (fun W6 hW6 => ?_)
        have hl6 : Later wr W6 := ((hW1.trans hW2).trans hb3).trans hW6
        clear d1 d2
        go_wp2_with fail
        go_meet
        exact ⟨by rw [HN.out], by rw [HN.out], hl6⟩
      case rest =>
        obtain ⟨rfl, rfl, hlx⟩ := hcut
        have hbx : Below w.heap.size w wc := hbw.trans (hlx.mono hbw.size)
        have hnx := nx_bd (b := bk) hfl hsv
        clear c1 c2
        generalize nx sv bk fl = n at *
        rcases hnx with rfl | hnx
        · go_wp2_with fail
          go_roundw
          case rel => exact ⟨k + 1, sv, by omega, by omega, by omega, by go_num, rfl, hsv, hbx⟩
          case measure => simp [intOf]; omega
        · rcases hnx with rfl | rfl | rfl | rfl | rfl | rfl | rfl <;>
          · go_wp2_with fail
            refine (live_any _ _).mono ?_
            rintro e w2 ⟨rfl, rfl⟩
            simp only [show lv 1 = true from rfl, show lv 2 = true from rfl, show lv 3 = true from rfl, show lv 4 = true from rfl, show lv 5 = true from rfl, show lv 6 = true from rfl, show lv 7 = false from rfl]
            go_wp2_with fail
            refine (time_any 6 _ _).mono ?_
            rintro e w2 ⟨rfl, rfl⟩
            simp only [show tm 6 1 = 120 from rfl, show tm 6 2 = 60 from rfl, show tm 6 3 = 432000 from rfl, show tm 6 4 = 120 from rfl, show tm 6 5 = 60 from rfl, show tm 6 6 = 120 from rfl, show tm 6 7 = 10 from rfl]
            go_wp2_with fail
            go_roundw
            case rel => exact ⟨k + 1, _, by omega, by omega, by omega, by go_num, rfl, by omega, hbx⟩
            case measure => simp [intOf]; omega
    · have hlv : lv sv = (sv != 0 && sv != 7) := by
        have : sv = 0 ∨ sv = 1 ∨ sv = 2 ∨ sv = 3 ∨ sv = 4 ∨ sv = 5 ∨ sv = 6 ∨ sv = 7 := by omega
        rcases this with rfl | rfl | rfl | rfl | rfl | rfl | rfl | rfl <;> rfl
      have hcs : (bs.length : Int) ≤ k ∨ ((k : Int) < bs.length ∧ (zs.length : Int) ≤ k) ∨ ((k : Int) < bs.length ∧ (k : Int) < zs.length ∧ 40 ≤ (k : Int)) := by omega
      clear hlt
      rcases hcs with h1 | ⟨h0, h1⟩ | ⟨h0, h1, h2⟩ <;>
      · go_wp2_with fail
        refine (live7_any _).mono ?_
        rintro e w2 ⟨rfl, hb2⟩
        go_wp2_with fail
        refine (live_any _ _).mono ?_
        rintro e w3 ⟨rfl, rfl⟩
        rw [hlv]
        have hw2 := hbw.trans (hb2.mono hbw.size)
        rcases Bool.eq_false_or_eq_true (sv != 0) with h0 | h0
        · rcases Bool.eq_false_or_eq_true (sv != 7) with h7 | h7
          · rw [h0, h7]; go_wp2_with fail; go_ret; exact ⟨by simp, hw2⟩
          · rw [h0, h7]; go_wp2_with fail; go_ret; exact ⟨by simp, hw2⟩
        · rw [h0]; go_wp2_with fail; go_ret; exact ⟨by simp, hw2⟩
end Go.Proofs.Ytbkggohjbigbgab
