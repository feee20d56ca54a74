/- The walk of TopPorts. -/
import Derived.Test.YtfompbpllndmfaaDoorPK
namespace Go.Proofs.YtfompbpllndmfaaDoor
open Go.RowKit Go.Shelf
set_option maxRecDepth 100000
set_option linter.unusedVariables false
set_option linter.unusedSimpArgs false

theorem fr_take {ws : Nat → Nat} {a b : Nat} (h : ∀ m, fr ws m = decide (a ≤ m ∧ m ≤ b)) (m : Nat) : fr (wsR ws a) m = decide (a + 1 ≤ m ∧ m ≤ b) := by
  unfold wsR
  rw [fr_remove, h m, Bool.eq_iff_iff]
  simp
  omega
theorem fr_give {ws : Nat → Nat} {a k : Nat} (h : ∀ m, fr ws m = decide (a ≤ m ∧ m < k)) (hak : a ≤ k) (m : Nat) : fr (wsA ws k) m = decide (a ≤ m ∧ m < k + 1) := by
  unfold wsA
  rw [fr_add, h m, Bool.eq_iff_iff]
  simp
  omega

theorem take_low (base b low high : Nat) (ws : Nat → Nat) (a c : Nat) (w : World) (hT : PB base w b (low : Int) (high : Int) ws) (hz : Dz w) (ha : 1 ≤ a) (hac : a ≤ c) (hc : c < 65536) (h : ∀ m, fr ws m = decide (a ≤ m ∧ m ≤ c)) :
    Calls Tryd.prog 9 #[.pointer (some ⟨b, 0, none⟩), .int .u16 0] w fun e w' => e = .returned (.tuple #[.int .u16 (a : Int), .int .i64 0]) ∧ PB base w' b (low : Int) (high : Int) (wsR ws a) ∧ But (fun g => g = b) w w' := by
  have hq : fr ws 0 = false := by rw [h]; simp; omega
  have hL := els_interval ws a c hac hc (fun m _ => h m)
  obtain ⟨L, hL2⟩ := nums_cons a c hac
  have hn : fsn false 0 (els ws) = a := by unfold fsn; rw [hL, hL2]; simp
  have hb : fsb false (els ws) = true := by unfold fsb; rw [hL, hL2]; simp
  refine (take8_any base b low high ws 0 w hT (by omega) hz).mono ?_
  rintro e w' ⟨rfl, ht, hbt⟩
  rw [hq] at ht ⊢
  rw [hn] at ht ⊢
  rw [tke_t hb]
  rcases ht with ⟨h1, _⟩ | ⟨_, h2⟩
  · rw [hb] at h1; cases h1
  · exact ⟨rfl, h2, hbt⟩
theorem take_none (base b low high : Nat) (ws : Nat → Nat) (wish : Nat) (w : World) (hT : PB base w b (low : Int) (high : Int) ws) (hz : Dz w) (hw : wish < 65536) (h : ∀ m, fr ws m = false) :
    Calls Tryd.prog 9 #[.pointer (some ⟨b, 0, none⟩), .int .u16 (wish : Int)] w fun e w' => e = .returned (.tuple #[.int .u16 0, .int .i64 9]) ∧ PB base w' b (low : Int) (high : Int) ws ∧ But (fun g => g = b) w w' := by
  have hL := els_none ws (fun m _ => h m)
  have hn : fsn false wish (els ws) = 0 := by unfold fsn; rw [hL]; rfl
  have hb : fsb false (els ws) = false := by unfold fsb; rw [hL]; rfl
  refine (take8_any base b low high ws wish w hT hw hz).mono ?_
  rintro e w' ⟨rfl, ht, hbt⟩
  rw [h wish] at ht ⊢
  rw [hn] at ht ⊢
  rw [tke_f hb]
  rcases ht with ⟨_, h2⟩ | ⟨h1, _⟩
  · exact ⟨rfl, h2, hbt⟩
  · rw [hb] at h1; cases h1
theorem cnt_none {ws : Nat → Nat} (h : ∀ m, fr ws m = false) : cnt ws 1024 = 0 := by
  rw [cnt_eq]
  show (els ws).length = 0
  rw [els_none ws (fun m _ => h m)]
  rfl
theorem cnt_interval {ws : Nat → Nat} {a b : Nat} (hab : a ≤ b) (hb : b < 65536) (h : ∀ m, fr ws m = decide (a ≤ m ∧ m ≤ b)) : cnt ws 1024 = b - a + 1 := by
  rw [cnt_eq]
  show (els ws).length = _
  rw [els_interval ws a b hab hb (fun m _ => h m), nums_length]

set_option maxHeartbeats 8000000 in
theorem ports_walk (w : World) (hz : Dz w) (lo nn : Nat) (hlo : lo ≤ 65535) (hnn : nn ≤ 255) :
    Calls Tryd.prog 6 #[.int .u16 (lo : Int), .int .u8 (nn : Int)] w fun e w' => e = .returned (.bool true) ∧ Below w.heap.size w w' := by
  have hlo' : (lo : Int) ≤ 65535 := by omega
  have hnn' : (nn : Int) ≤ 255 := by omega
  go_enter Tryd.func6, Tryd.ntmps6
  have hcase : lo = 0 ∨ (lo ≠ 0 ∧ 65535 < lo + nn) ∨ (1 ≤ lo ∧ lo + nn ≤ 65535) := by omega
  rcases hcase with rfl | ⟨ha, hb⟩ | ⟨h1, h2⟩
  case' inl =>
    go_upto_region 3 with fail
    obtain ⟨lw, hlw, h1, h2⟩ : ∃ lw : Nat, (1 : Int) = (lw : Int) ∧ 1 ≤ lw ∧ lw + nn ≤ 65535 := ⟨1, rfl, by omega, by omega⟩
    rw [show Value.int IntKind.u16 1 = Value.int IntKind.u16 (lw : Int) from by rw [← hlw]]
    clear hlw hlo' hlo
  case' inr.inl =>
    have ha' : ¬ (lo : Int) = 0 := by omega
    have hb' : (65535 : Int) < (lo : Int) + (nn : Int) := by omega
    go_upto_region 3 with fail
    obtain ⟨lw, hlw, h1, h2⟩ : ∃ lw : Nat, (1 : Int) = (lw : Int) ∧ 1 ≤ lw ∧ lw + nn ≤ 65535 := ⟨1, rfl, by omega, by omega⟩
    rw [show Value.int IntKind.u16 1 = Value.int IntKind.u16 (lw : Int) from by rw [← hlw]]
    clear hlw ha hb ha' hb' hlo' hlo
  case' inr.inr =>
    have ha' : ¬ (lo : Int) = 0 := by omega
    have hb' : ¬ (65535 : Int) < (lo : Int) + (nn : Int) := by omega
    go_upto_region 3 with fail
    clear ha' hb' hlo' hlo
    obtain ⟨lw, rfl⟩ : ∃ lw : Nat, lw = lo := ⟨lo, rfl⟩
  all_goals
    have hs' : (lw : Int) + (nn : Int) ≤ 65535 := by omega
    have hl' : (lw : Int) ≤ 65535 := by omega
    have HNEW := hide (new8_yes lw (lw + nn) h1 (by omega) (by omega) w)
    rw [show ((lw + nn : Nat) : Int) = (lw : Int) + (nn : Int) from by omega] at HNEW
    go_wp2_with fail
    refine HNEW.out.mono ?_
    rintro e w1 ⟨rfl, l1, hT1⟩
    have hf1 : ∀ m, fr (wsOf (nums lw (lw + nn))) m = decide (lw + 0 ≤ m ∧ m ≤ lw + nn) := fun m => by
      rw [fr_wsOf, decide_eq_decide, mem_nums (by omega)]
      omega
    generalize hbt : w.heap.size = b at *
    have hzp : 0 < b := by rw [← hbt]; exact hz.pos
    have l1' : Below b w w1 := by rw [← hbt]; exact l1
    clear HNEW l1
    generalize wsOf (nums lw (lw + nn)) = ws1 at *
    go_wp2_with fail
    go_loopw [6] (fun i wr => ∃ (k : Nat) (ws : Nat → Nat), k ≤ nn + 1 ∧ i = .int .i64 (k : Int) ∧ PB b wr b (lw : Int) ((lw : Int) + (nn : Int)) ws ∧ (∀ m, fr ws m = decide (lw + k ≤ m ∧ m ≤ lw + nn)) ∧ Below b w wr) (fun i _ => nn + 1 - (intOf i).toNat)
    case atStart => exact ⟨0, ws1, by omega, rfl, hT1, hf1, l1'⟩
    case round =>
      obtain ⟨k, ws, hk, rfl, hT, hf, hbw⟩ := hrel
      by_cases hlt : k ≤ nn
      · have hlt' : (k : Int) ≤ (nn : Int) := by omega
        have HTK := hide (take_low b b lw (lw + nn) ws (lw + k) (lw + nn) wr (by rw [show ((lw + nn : Nat) : Int) = (lw : Int) + (nn : Int) from by omega]; exact hT) (hz.below hbw hzp) (by omega) (by omega) (by omega) hf)
        rw [show ((lw + nn : Nat) : Int) = (lw : Int) + (nn : Int) from by omega, show ((lw + k : Nat) : Int) = (lw : Int) + (k : Int) from by omega] at HTK
        have HFT := hide (fr_take hf)
        have hk6 : (lw : Int) + (k : Int) ≤ 65535 := by omega
        clear hf hT
        go_wp2_with fail
        refine HTK.out.mono ?_
        rintro e w2 ⟨rfl, hT2, hb2⟩
        have hbw2 : Below b w w2 := hbw.trans (hb2.below (by have := hbw.size; omega) (fun g hg e => by omega))
        have HT2 := hide hT2
        clear HTK hT2 hb2
        go_wp2_with fail
        go_roundw
        case rel => exact ⟨k + 1, _, by omega, by go_num, HT2.out, fun m => by rw [HFT.out m, Nat.add_assoc], hbw2⟩
        case measure => simp [intOf]; omega
      · obtain rfl : k = nn + 1 := by omega
        have hgt' : ¬ ((nn + 1 : Nat) : Int) ≤ (nn : Int) := by omega
        have hno : ∀ m, fr ws m = false := fun m => by rw [hf m]; simp; omega
        have HT0 := hide (take_none b b lw (lw + nn) ws lw wr (by rw [show ((lw + nn : Nat) : Int) = (lw : Int) + (nn : Int) from by omega]; exact hT) (hz.below hbw hzp) (by omega) hno)
        have HFR := hide (fun W (h : PB b W b (lw : Int) ((lw + nn : Nat) : Int) ws) => free8_any b b (lw : Int) ((lw + nn : Nat) : Int) ws 0 (cnt_none hno) W h)
        have HNO := hide hno
        clear hno hf hT hk hlt
        rename World => wl
        go_wp2_with fail
        refine HT0.out.mono ?_
        rintro e w3 ⟨rfl, hT3, hb3⟩
        have hbw3 : Below b w w3 := hbw.trans (hb3.below (by have := hbw.size; omega) (fun g hg e => by omega))
        clear HT0 hb3
        go_wp2_with fail
        refine (HFR.out w3 hT3).mono ?_
        rintro e w4 ⟨rfl, rfl⟩
        go_wp2_with fail
        clear HFR
        go_loopw [11] (fun i wr => ∃ (k : Nat) (ws : Nat → Nat), k ≤ nn + 1 ∧ i = .int .i64 (k : Int) ∧ PB b wr b (lw : Int) ((lw + nn : Nat) : Int) ws ∧ (∀ m, fr ws m = decide (lw ≤ m ∧ m < lw + k)) ∧ Below b w wr) (fun i _ => nn + 1 - (intOf i).toNat)
        case atStart => exact ⟨0, ws, by omega, rfl, hT3, fun m => by rw [HNO.out m]; symm; simp <;> omega, hbw3⟩
        case round =>
          obtain ⟨k, ws2, hk, rfl, hT, hf, hbw5⟩ := hrel
          by_cases hlt : k ≤ nn
          · have hlt' : (k : Int) ≤ (nn : Int) := by omega
            have HGV := hide (give_yes b b lw (lw + nn) ws2 (lw + k) wr hT (by omega) (by unfold hsP; rw [hf]; simp; omega))
            rw [show ((lw + k : Nat) : Int) = (lw : Int) + (k : Int) from by omega] at HGV
            have HFG := hide (fr_give hf (by omega))
            have hk6 : (lw : Int) + (k : Int) ≤ 65535 := by omega
            clear hf hT
            go_wp2_with fail
            refine HGV.out.mono ?_
            rintro e w5 ⟨rfl, hT5, hb5⟩
            have hbw6 : Below b w w5 := hbw5.trans (hb5.below (by have := hbw5.size; omega) (fun g hg e => by omega))
            have HT5 := hide hT5
            clear HGV hT5 hb5
            go_wp2_with fail
            go_roundw
            case rel => exact ⟨k + 1, _, by omega, by go_num, HT5.out, fun m => by rw [HFG.out m, Nat.add_assoc], hbw6⟩
            case measure => simp [intOf]; omega
          · obtain rfl : k = nn + 1 := by omega
            have hgt2 : ¬ ((nn + 1 : Nat) : Int) ≤ (nn : Int) := by omega
            have hfi : ∀ m, fr ws2 m = decide (lw ≤ m ∧ m ≤ lw + nn) := fun m => by rw [hf m, decide_eq_decide]; omega
            have hcn : cnt ws2 1024 = nn + 1 := by rw [cnt_interval (by omega) (by omega) hfi]; (try omega)
            have HFR := hide (free8_any b b (lw : Int) ((lw + nn : Nat) : Int) ws2 (nn + 1) hcn wr hT)
            have HUS := hide (used_none b b lw (lw + nn) ws2 (by omega) (by omega) wr hT (fun m hm1 hm2 => by rw [hfi m]; simp; omega))
            clear hf hfi hcn hk hlt hT
            go_wp2_with fail
            refine HFR.out.mono ?_
            rintro e w6 ⟨rfl, rfl⟩
            go_wp2_with fail
            refine HUS.out.mono ?_
            rintro e w7 ⟨rfl, l7⟩
            have hfin : Below b w w7 := hbw5.trans (l7.mono (by have := hbw5.size; omega))
            go_wp2_with fail
            go_ret
            exact ⟨by simp, by rw [hbt]; exact hfin⟩

theorem walk_TopPorts (w : World) (hz : Dz w) (low : Int) (hl : 0 ≤ low ∧ low ≤ 65535) (n : Int) (hn : 0 ≤ n ∧ n ≤ 255) :
    Calls Tryd.prog 6 #[.int .u16 low, .int .u8 n] w fun e w' => e = .returned (.bool true) ∧ Below w.heap.size w w' := by
  obtain ⟨lo, rfl⟩ : ∃ lo : Nat, low = (lo : Int) := ⟨low.toNat, by omega⟩
  obtain ⟨nn, rfl⟩ : ∃ nn : Nat, n = (nn : Int) := ⟨n.toNat, by omega⟩
  exact ports_walk w hz lo nn (by omega) (by omega)
end Go.Proofs.YtfompbpllndmfaaDoor
