/- The walk of TrackOpen. -/
import Derived.Test.YtbkggohjbigbgaaKF
namespace Go.Proofs.Ytbkggohjbigbgaa
open Go.RowKit Go.Shelf
set_option maxRecDepth 100000
set_option linter.unusedVariables false
set_option linter.unusedSimpArgs false

def invB (s : Int) (an : Bool) : Bool := (decide (0 ≤ s) && decide (s ≤ 7)) && (if s ≤ 1 then !an else if s ≤ 6 then an else true)
theorem invB_bd {s : Int} {an : Bool} (h : invB s an = true) : s = 0 ∨ s = 1 ∨ s = 2 ∨ s = 3 ∨ s = 4 ∨ s = 5 ∨ s = 6 ∨ s = 7 := by
  unfold invB at h
  simp only [Bool.and_eq_true, decide_eq_true_eq] at h
  omega

theorem open_syn {s fl : Int} (b an : Bool) (hfl : 0 ≤ fl ∧ fl ≤ 255) (hi : invB s an = true) (h2 : (bits .and .u8 fl 2 != 0) = true) (h4 : (bits .and .u8 fl 4 != 0) = false) (hn : nx s b fl ≠ 0) :
    (s = 0 ∧ b = false ∧ nx s b fl = 1 ∧ an = false) ∨ (s = 1 ∧ b = false ∧ nx s b fl = 1 ∧ an = false) ∨ (s = 1 ∧ b = true ∧ nx s b fl = 2 ∧ an = false) ∨ (s = 2 ∧ nx s b fl = 2 ∧ an = true) ∨ (s = 6 ∧ b = false ∧ nx s b fl = 1 ∧ an = true) ∨ (s = 7 ∧ b = false ∧ nx s b fl = 1) := by
  rw [nx_eq hfl, h2, h4] at *
  revert hn
  generalize (bits .and .u8 fl 1 != 0) = F
  generalize (bits .and .u8 fl 16 != 0) = A
  clear h2 h4 hfl
  rcases invB_bd hi with rfl | rfl | rfl | rfl | rfl | rfl | rfl | rfl <;> revert hi <;> cases b <;> cases an <;> cases F <;> cases A <;> decide +kernel

theorem open_non {s fl : Int} (b an : Bool) (hfl : 0 ≤ fl ∧ fl ≤ 255) (hi : invB s an = true) (h : ((bits .and .u8 fl 2 != 0) && !(bits .and .u8 fl 4 != 0)) = false) (hn : nx s b fl ≠ 0) :
    1 ≤ nx s b fl ∧ nx s b fl ≤ 7 ∧ (nx s b fl = 3 → an = true) ∧ invB (nx s b fl) an = true := by
  rw [nx_eq hfl] at *
  revert hn h
  generalize (bits .and .u8 fl 4 != 0) = R
  generalize (bits .and .u8 fl 2 != 0) = S
  generalize (bits .and .u8 fl 1 != 0) = F
  generalize (bits .and .u8 fl 16 != 0) = A
  clear hfl
  rcases invB_bd hi with rfl | rfl | rfl | rfl | rfl | rfl | rfl | rfl <;> revert hi <;> revert b an R S F A <;> decide +kernel

set_option maxHeartbeats 8000000 in
theorem walk_TrackOpen (w : World) (vb : Value) (bs : List Bool) (hIb : RdB w.heap.size w vb bs) (vf : Value) (zs : List Int) (hB : Mt.By zs) (hIf : Rd w.heap.size w vf zs) :
    Calls Try.prog 8 #[vb, vf] w fun e w' => e = .returned (.bool true) ∧ Below w.heap.size w w' := by
  obtain ⟨ab, cb, rfl, hcb, hmb⟩ := hIb.slice
  obtain ⟨af, cf, rfl, hcf, hmf⟩ := hIf.slice
  have hlb : (bs.length : Int) ≤ 9223372036854775807 := by omega
  have hlf : (zs.length : Int) ≤ 9223372036854775807 := by omega
  go_enter Try.func8, Try.ntmps8
  go_wp2
  go_loopw [5, 6, 7] (fun s a i wr => ∃ (k : Nat) (sv : Int) (an : Bool), k ≤ bs.length ∧ k ≤ zs.length ∧ k ≤ 40 ∧ i = .int .i64 (k : Int) ∧ s = .int .i64 sv ∧ a = .bool an ∧ invB sv an = true ∧ Below w.heap.size w wr) (fun _ _ i _ => bs.length - (intOf i).toNat)
  case atStart => exact ⟨0, 0, false, by omega, by omega, by omega, rfl, rfl, rfl, by decide, Below.refl _ _⟩
  case round =>
    obtain ⟨k, sv, an, hk1, hk2, hk3, rfl, rfl, rfl, hinv, hbw⟩ := hrel
    by_cases hlt : k < bs.length ∧ k < zs.length ∧ k < 40
    · obtain ⟨l1, l2, l3⟩ := hlt
      obtain ⟨b, off, cp, e, _, _, hbb, hcs⟩ := (hIb.below hbw).cells (by omega)
      simp at e
      obtain ⟨rfl, rfl⟩ := e
      obtain ⟨b2, off2, cp2, e2, _, _, hbb2, hcs2⟩ := (hIf.below hbw).cells' (by omega)
      simp at e2
      obtain ⟨rfl, rfl⟩ := e2
      have c1 := hcs k l1
      have c2 := hcs2 k l2
      have hfl := hB.at k
      generalize bs[k]?.getD false = bk at *
      generalize zs[k]?.getD 0 = fl at *
      clear hcs hcs2
      have l1' : (k : Int) < bs.length := by omega
      have l2' : (k : Int) < zs.length := by omega
      have l3' : (k : Int) < 40 := by omega
      have HI := hide hinv
      clear hinv
      go_upto_region 6 with fail
      go_cut [8, 9] (fun n o wx => n = .int .i64 (nx sv bk fl) ∧ o = .bool (nx sv bk fl != 0) ∧ Later wr wx)
      case first =>
        refine anyR_begin (R := Later) Later.pre Later.drew 15 rfl (by kernel_rfl) (fun W1 hW1 => ?_)
        have d1 : ∀ w1, Later W1 w1 → w1.cell? ⟨b, off + k, none⟩ = some (.bool bk) := fun w1 h => (hW1.trans h).cell c1
        have d2 : ∀ w1, Later W1 w1 → w1.cell? ⟨b2, off2 + k, none⟩ = some (.int .u8 fl) := fun w1 h => (hW1.trans h).cell c2
        refine anyR_val Later.pre 0 rfl (by kernel_rfl) (by kernel_rfl) (by kernel_rfl) (fun _ _ _ _ h => h) rfl ?_; apply Exists.intro; refine ⟨fun w1 hw1 => ?_, ?_⟩; (· (go_simp; rfl)); simp only [Act.put, List.setIfInBounds_toArray, List.set_cons_zero, List.set_cons_succ]
        refine anyR_val Later.pre 1 rfl (by kernel_rfl) (by kernel_rfl) (by kernel_rfl) (fun _ _ _ _ h => h) rfl ?_; apply Exists.intro; refine ⟨fun w1 hw1 => ?_, ?_⟩; (· (go_simp; rfl)); simp only [Act.put, List.setIfInBounds_toArray, List.set_cons_zero, List.set_cons_succ]
        refine anyR_val Later.pre 2 rfl (by kernel_rfl) (by kernel_rfl) (by kernel_rfl) (fun _ _ _ _ h => h) rfl ?_; apply Exists.intro; refine ⟨fun w1 hw1 => ?_, ?_⟩; (· (go_simp; rfl)); simp only [Act.put, List.setIfInBounds_toArray, List.set_cons_zero, List.set_cons_succ]
        refine anyR_val Later.pre 3 rfl (by kernel_rfl) (by kernel_rfl) (by kernel_rfl) (fun _ _ _ _ h => h) rfl ?_; apply Exists.intro; refine ⟨fun w1 hw1 => ?_, ?_⟩; (· (go_simp; rfl)); simp only [Act.put, List.setIfInBounds_toArray, List.set_cons_zero, List.set_cons_succ]
        refine anyR_val Later.pre 4 rfl (by kernel_rfl) (by kernel_rfl) (by kernel_rfl) (fun _ _ _ _ h => h) rfl ?_; apply Exists.intro; refine ⟨fun w1 hw1 => ?_, ?_⟩; (· (go_simp; rfl)); simp only [Act.put, List.setIfInBounds_toArray, List.set_cons_zero, List.set_cons_succ]
        refine anyR_val Later.pre 5 rfl (by kernel_rfl) (by kernel_rfl) (by kernel_rfl) (fun _ _ _ _ h => h) rfl ?_; apply Exists.intro; refine ⟨fun w1 hw1 => ?_, ?_⟩; (· (go_simp; rfl)); simp only [Act.put, List.setIfInBounds_toArray, List.set_cons_zero, List.set_cons_succ]
        refine anyR_val Later.pre 6 rfl (by kernel_rfl) (by kernel_rfl) (by kernel_rfl) (fun _ _ _ _ h => h) rfl ?_; apply Exists.intro; refine ⟨fun w1 hw1 => ?_, ?_⟩; (· (go_simp; rfl)); simp only [Act.put, List.setIfInBounds_toArray, List.set_cons_zero, List.set_cons_succ]
        refine anyR_val Later.pre 7 rfl (by kernel_rfl) (by kernel_rfl) (by kernel_rfl) (fun _ _ _ _ h => h) rfl ?_; apply Exists.intro; refine ⟨fun w1 hw1 => ?_, ?_⟩; (· (go_simp; rfl)); simp only [Act.put, List.setIfInBounds_toArray, List.set_cons_zero, List.set_cons_succ]
        refine anyR_val Later.pre 8 rfl (by kernel_rfl) (by kernel_rfl) (by kernel_rfl) (fun _ _ _ _ h => h) rfl ?_; apply Exists.intro; refine ⟨fun w1 hw1 => ?_, ?_⟩; (· (go_simp; rfl)); simp only [Act.put, List.setIfInBounds_toArray, List.set_cons_zero, List.set_cons_succ]
        refine anyR_one 9 rfl (by kernel_rfl) rfl (fun W2 hW2 => ?_)
        refine wp_enter 9 #[.int .i64 sv, .bool bk, .int .u8 fl] (by go_simp) ?_
        refine (next_any sv bk fl W2).mono ?_
        generalize hn : nx sv bk fl = n
        have HN := hide hn
        clear hn
        rintro e W3 ⟨rfl, hb3⟩
        refine ⟨hb3, ?_⟩
        simp only [Act.put, List.setIfInBounds_toArray, List.set_cons_zero, List.set_cons_succ]
        refine anyR_val Later.pre 10 rfl (by kernel_rfl) (by kernel_rfl) (by kernel_rfl) (fun _ _ _ _ h => h) rfl ?_; apply Exists.intro; refine ⟨fun w1 hw1 => ?_, ?_⟩; (· (go_simp; rfl)); simp only [Act.put, List.setIfInBounds_toArray, List.set_cons_zero, List.set_cons_succ]
        refine anyR_val Later.pre 11 rfl (by kernel_rfl) (by kernel_rfl) (by kernel_rfl) (fun _ _ _ _ h => h) rfl ?_; apply Exists.intro; refine ⟨fun w1 hw1 => ?_, ?_⟩; (· (go_simp; rfl)); simp only [Act.put, List.setIfInBounds_toArray, List.set_cons_zero, List.set_cons_succ]
        refine anyR_val Later.pre 12 rfl (by kernel_rfl) (by kernel_rfl) (by kernel_rfl) (fun _ _ _ _ h => h) rfl ?_; apply Exists.intro; refine ⟨fun w1 hw1 => ?_, ?_⟩; (· (go_simp; rfl)); simp only [Act.put, List.setIfInBounds_toArray, List.set_cons_zero, List.set_cons_succ]
        refine anyR_val Later.pre 13 rfl (by kernel_rfl) (by kernel_rfl) (by kernel_rfl) (fun _ _ _ _ h => h) rfl ?_; apply Exists.intro; refine ⟨fun w1 hw1 => ?_, ?_⟩; (· (go_simp; rfl)); simp only [Act.put, List.setIfInBounds_toArray, List.set_cons_zero, List.set_cons_succ]
        refine anyR_val Later.pre 14 rfl (by kernel_rfl) (by kernel_rfl) (by kernel_rfl) (fun _ _ _ _ h => h) rfl ?_; apply Exists.intro; refine ⟨fun w1 hw1 => ?_, ?_⟩; (· (go_simp; rfl)); simp only [Act.put, List.setIfInBounds_toArray, List.set_cons_zero, List.set_cons_succ]
        refine anyR_done (by kernel_rfl) (fun W6 hW6 => ?_)
        have hl6 : Later wr W6 := ((hW1.trans hW2).trans hb3).trans hW6
        clear d1 d2
        go_wp2_with fail
        go_meet
        exact ⟨by rw [HN.out], by rw [HN.out], hl6⟩
      case rest =>
        obtain ⟨rfl, rfl, hlx⟩ := hcut
        have hbx : Below w.heap.size w wc := hbw.trans (hlx.mono hbw.size)
        have e1 := hlx.cell c1
        have e2 := hlx.cell c2
        clear c1 c2
        by_cases hn0 : nx sv bk fl = 0
        · rw [hn0]
          have hinv := HI.out
          go_wp2_with fail
          go_roundw
          case rel => exact ⟨k + 1, sv, an, by omega, by omega, by omega, by go_num, rfl, rfl, hinv, hbx⟩
          case measure => simp [intOf]; omega
        have hsy := open_syn bk an hfl HI.out
        have hno := open_non bk an hfl HI.out
        rcases Bool.eq_false_or_eq_true (bits .and .u8 fl 2 != 0) with h2 | h2
        · rcases Bool.eq_false_or_eq_true (bits .and .u8 fl 4 != 0) with h4 | h4
          · have h4' : (bits .and .u8 fl 4 == 0) = false := by simpa using h4
            obtain ⟨m1, m2, m3, m4⟩ := hno (by rw [h2, h4]; rfl) hn0
            clear hsy hno
            generalize nx sv bk fl = n at *
            have M4 := hide m4
            clear m4
            by_cases hn3 : n = 3
            · obtain rfl := m3 hn3
              subst hn3
              go_wp2_with fail
              go_roundw
              case rel => exact ⟨k + 1, 3, true, by omega, by omega, by omega, by go_num, rfl, rfl, M4.out, hbx⟩
              case measure => simp [intOf]; omega
            · have n0 : (n != 0) = true := by simpa using hn0
              have n3 : (n == 3) = false := by simpa using hn3
              clear m3 hn0 hn3
              go_wp2_with fail
              go_roundw
              case rel => exact ⟨k + 1, n, an, by omega, by omega, by omega, by go_num, rfl, rfl, M4.out, hbx⟩
              case measure => simp [intOf]; omega
          · have h4' : (bits .and .u8 fl 4 == 0) = true := by simpa using h4
            have hc := hsy h2 h4 hn0
            clear hsy hno
            generalize nx sv bk fl = n at *
            rcases hc with ⟨rfl, rfl, rfl, rfl⟩ | ⟨rfl, rfl, rfl, rfl⟩ | ⟨rfl, rfl, rfl, rfl⟩ | ⟨rfl, rfl, rfl⟩ | ⟨rfl, rfl, rfl, rfl⟩ | ⟨rfl, rfl, rfl⟩
            · go_wp2_with fail; go_roundw; (case rel => exact ⟨k + 1, 1, false, by omega, by omega, by omega, by go_num, rfl, rfl, by first | assumption | decide | (cases an <;> decide), hbx⟩); (case measure => simp [intOf]; omega)
            · go_wp2_with fail; go_roundw; (case rel => exact ⟨k + 1, 1, false, by omega, by omega, by omega, by go_num, rfl, rfl, by first | assumption | decide | (cases an <;> decide), hbx⟩); (case measure => simp [intOf]; omega)
            · go_wp2_with fail; go_roundw; (case rel => exact ⟨k + 1, 2, true, by omega, by omega, by omega, by go_num, rfl, rfl, by first | assumption | decide | (cases an <;> decide), hbx⟩); (case measure => simp [intOf]; omega)
            · go_wp2_with fail; go_roundw; (case rel => exact ⟨k + 1, 2, true, by omega, by omega, by omega, by go_num, rfl, rfl, by first | assumption | decide | (cases an <;> decide), hbx⟩); (case measure => simp [intOf]; omega)
            · go_wp2_with fail; go_roundw; (case rel => exact ⟨k + 1, 1, false, by omega, by omega, by omega, by go_num, rfl, rfl, by first | assumption | decide | (cases an <;> decide), hbx⟩); (case measure => simp [intOf]; omega)
            · cases an
              · go_wp2_with fail; go_roundw; (case rel => exact ⟨k + 1, 1, false, by omega, by omega, by omega, by go_num, rfl, rfl, by first | assumption | decide | (cases an <;> decide), hbx⟩); (case measure => simp [intOf]; omega)
              · go_wp2_with fail; go_roundw; (case rel => exact ⟨k + 1, 1, false, by omega, by omega, by omega, by go_num, rfl, rfl, by first | assumption | decide | (cases an <;> decide), hbx⟩); (case measure => simp [intOf]; omega)
        · obtain ⟨m1, m2, m3, m4⟩ := hno (by rw [h2]; rfl) hn0
          clear hsy hno
          generalize nx sv bk fl = n at *
          have M4 := hide m4
          clear m4
          by_cases hn3 : n = 3
          · obtain rfl := m3 hn3
            subst hn3
            go_wp2_with fail
            go_roundw
            case rel => exact ⟨k + 1, 3, true, by omega, by omega, by omega, by go_num, rfl, rfl, M4.out, hbx⟩
            case measure => simp [intOf]; omega
          · have n0 : (n != 0) = true := by simpa using hn0
            have n3 : (n == 3) = false := by simpa using hn3
            clear m3 hn0 hn3
            go_wp2_with fail
            go_roundw
            case rel => exact ⟨k + 1, n, an, by omega, by omega, by omega, by go_num, rfl, rfl, M4.out, hbx⟩
            case measure => simp [intOf]; omega
    · have hcs : (bs.length : Int) ≤ k ∨ ((k : Int) < bs.length ∧ (zs.length : Int) ≤ k) ∨ ((k : Int) < bs.length ∧ (k : Int) < zs.length ∧ 40 ≤ (k : Int)) := by omega
      clear hlt
      rcases hcs with h1 | ⟨h0, h1⟩ | ⟨h0, h1, h2⟩ <;>
      · go_wp2_with fail
        refine (live7_any _).mono ?_
        rintro e w2 ⟨rfl, hb2⟩
        have hw2 := hbw.trans (hb2.mono hbw.size)
        go_wp2_with fail
        go_ret
        exact ⟨rfl, hw2⟩
end Go.Proofs.Ytbkggohjbigbgaa
