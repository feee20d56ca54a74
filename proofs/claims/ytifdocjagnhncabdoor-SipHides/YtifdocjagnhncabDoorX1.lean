/- Several texts in one. -/
import Derived.Test.YtifdocjagnhncabDoorX2
import Derived.Test.YtifdocjagnhncabDoorRh
import Derived.Laws.Closers25b
import Derived.Laws.BitsLemmas
/- The document's Right. -/
namespace Go.Proofs.YtifdocjagnhncabDoor
open Go.RowKit Go.Shelf
set_option maxRecDepth 100000
set_option linter.unusedVariables false
set_option linter.unusedSimpArgs false

set_option maxRecDepth 100000 in
set_option maxHeartbeats 16000000 in
theorem rright14_any (st : ByteArray) (hs : List Hr) (sv sb : Value) (zb : List Int) (w : World) (hI : RdM w.heap.size w sv hs) (hB : Rd w.heap.size w sb zb) (hz : szM st hs zb.length ≤ 9000000000000000000) (hzs : st.size ≤ 140737488355328 ∧ ∀ h ∈ hs, h.1.size ≤ 140737488355328 ∧ h.2.size ≤ 140737488355328) :
    Calls Tryd.prog 10 #[.agg #[.string st, sv, sb]] w fun e w' => e = .returned (.bool (rgB st hs zb.length)) ∧ Later w w' := by
  obtain ⟨ah, ch, rfl, hl1, hm1⟩ := hI.slice
  obtain ⟨ab, cb, rfl, hl2, hm2⟩ := hB.slice
  have HR : Hid (rgB st hs zb.length = (allB lnC st && (!(st.size == 0) && ((decide (hs.length ≤ 64) && (hs.all (okh zb.length) && decide (hs.countP (fun h => swV h.1 clN) = 1))) && decide (szM st hs zb.length ≤ 4096))))) := rfl
  generalize rgB st hs zb.length = r at *
  have l0 : Later w (w.alloc (.cells #[.string st, .slice ah hs.length ch, .slice ab zb.length cb] 39)) := later_allocR _ _
  have C0 := hide (heap_alloc_new w (.cells #[.string st, .slice ah hs.length ch, .slice ab zb.length cb] 39))
  have hzz : hsz hs ≤ 9000000000000000000 := by unfold szM at hz; omega
  have HSZ := hide (fun W (l : Later w W) => rsize_any st hs _ _ zb W (hI.later l) (hB.later l) hz)
  generalize szM st hs zb.length = sz at *
  go_enter Tryd.func10, Tryd.ntmps10
  go_upto_region 1 with fail
  generalize w.alloc _ = w0 at *
  have HI := hide (hI.later l0)
  generalize w.heap.size = gm at *
  have k0 := block_cell C0.out
  by_cases hs0 : st.size = 0
  · have HE : Hid (r = false) := by show _ = _; rw [HR.out, hs0]; simp
    obtain rfl := str_empty st hs0
    go_wp2_with fail
    go_ret
    exact ⟨by rw [HE.out]; rfl, l0⟩
  have hne := str_ne hs0
  have HR2 : Hid (r = (allB lnC st && ((decide (hs.length ≤ 64) && (hs.all (okh zb.length) && decide (hs.countP (fun h => swV h.1 clN) = 1))) && decide (sz ≤ 4096)))) := by show _ = _; rw [HR.out, show (st.size == 0) = false from by simpa using hs0]; rfl
  clear HR hs0
  go_wp2_with fail
  refine (rplain_any st w0 (by omega)).mono ?_
  generalize allB lnC st = b1 at *
  rintro e w1 ⟨rfl, hw⟩
  rw [hw]
  clear hw w1
  cases b1 with
  | false =>
    go_wp2_with fail
    go_ret
    exact ⟨by rw [HR2.out]; rfl, l0⟩
  | true =>
    by_cases h64 : hs.length ≤ 64
    case neg =>
      have h1 : (64 : Int) < (hs.length : Int) := by omega
      have HE : Hid (r = false) := by show _ = _; rw [HR2.out]; simp [h64]
      go_wp2_with fail
      go_ret
      exact ⟨by rw [HE.out]; rfl, l0⟩
    have h1 : ¬ (64 : Int) < (hs.length : Int) := by omega
    go_wp2_with fail
    refine (HSZ.out w0 l0).mono ?_
    rintro e w2 ⟨⟨rr, rfl, hrr⟩, l2⟩
    clear k0
    by_cases hb : sz ≤ 4096
    case neg =>
      have h2 : 4096 < rr := by rw [decide_eq_true (by omega : 4096 < sz)] at hrr; exact of_decide_eq_true hrr
      have HE : Hid (r = false) := by show _ = _; rw [HR2.out]; simp [hb]
      clear hrr
      go_wp2_with fail
      go_ret
      exact ⟨by rw [HE.out]; rfl, Later.trans l0 l2⟩
    have h2 : ¬ 4096 < rr := by rw [decide_eq_false (by omega : ¬ 4096 < sz)] at hrr; exact of_decide_eq_false hrr
    have HR3 : Hid (r = (hs.all (okh zb.length) && decide (hs.countP (fun h => swV h.1 clN) = 1))) := by show _ = _; rw [HR2.out]; simp [h64, hb]
    have C2 := hide (later_keep l2 C0.out)
    have L2 : Later w w2 := Later.trans l0 l2
    have HI2 := hide (HI.out.later l2)
    clear HR2 hrr C0 HSZ
    go_upto_region 5 with fail
    clear h1 h2
    go_loopw [3, 4, 5, 6] (fun nv iv pv vv wr => ∃ k : Nat, k ≤ hs.length ∧ iv = .int .i64 (k : Int) ∧ nv = .int .i64 (((hs.take k).countP (fun h => swV h.1 clN) : Nat) : Int) ∧ Later w2 wr ∧ Hid ((hs.take k).all (okh zb.length) = true)) (fun _ iv _ _ _ => hs.length - (intOf iv).toNat)
    case atStart => exact ⟨0, by omega, rfl, rfl, Later.refl _, hide rfl⟩
    case round =>
      obtain ⟨k, hk, rfl, rfl, lr, hal⟩ := hrel
      have k1 := block_cell (later_keep lr C2.out)
      by_cases hlt : k < hs.length
      · have hlt' : (k : Int) < (hs.length : Int) := by omega
        obtain ⟨b, off, cp, e, _, _, hbn, hcs⟩ := (HI2.out.below lr).cells (by omega)
        cases e
        have d0 := hcs k hlt 0 (by omega)
        have d1 := hcs k hlt 1 (by omega)
        have hsn : hs.take (k + 1) = hs.take k ++ [hs[k]] := by rw [← List.take_append_getElem hlt]
        have hmem := List.getElem_mem hlt
        have hzm := hzs.2 _ hmem
        have HNO : Hid (okh zb.length hs[k] = false → r = false) := fun h => by
          rw [HR3.out]
          have : hs.all (okh zb.length) = false := by rw [List.all_eq_false]; exact ⟨hs[k], hmem, by simp [h]⟩
          rw [this]; rfl
        have HYE : Hid (okh zb.length hs[k] = true → (hs.take (k + 1)).all (okh zb.length) = true) := fun h => by rw [hsn, List.all_append, hal.out]; simp [h]
        have HCT : Hid ((hs.take (k + 1)).countP (fun h => swV h.1 clN) = (hs.take k).countP (fun h => swV h.1 clN) + (if swV hs[k].1 clN = true then 1 else 0)) := by show _ = _; rw [hsn, List.countP_append]; simp [List.countP_cons]
        have hcl : (hs.take k).countP (fun h => swV h.1 clN) ≤ k := by
          have := List.countP_le_length (p := fun h : Hr => swV h.1 clN) (l := hs.take k)
          rw [List.length_take] at this
          omega
        clear hcs hsn hmem
        generalize hs[k] = rr at *
        obtain ⟨x, y⟩ := rr
        simp only [hrc, List.getElem?_cons_zero, List.getElem?_cons_succ, Nat.add_zero] at d0 d1 hzm HCT
        have HOK : Hid (okh zb.length (x, y) = (allN nmC x && ((allB lnC y && (!Lib.hasPrefix y.data.toList [32] && !Lib.hasSuffix y.data.toList [32])) && (!swV x clN || eqS y (decB zb.length))))) := rfl
        rw [HOK.out] at HNO HYE
        clear HOK
        generalize (hs.take k).countP (fun h => swV h.1 clN) = c at *
        have la := later_allocR wr (.cells #[.string x, .string y] 62)
        have B1 := hide (heap_alloc_new wr (.cells #[.string x, .string y] 62))
        go_upto_region 8 with fail
        clear d0 d1 k1
        generalize wr.alloc _ = wq at *
        generalize wr.heap.size = gh at *
        have lq := lr.trans la
        have k1 := block_cell B1.out
        go_wp2_with fail
        refine (rname_any x wq (by omega)).mono ?_
        generalize allN nmC x = b1 at *
        rintro e w1 ⟨rfl, hw⟩
        rw [hw]
        clear hw w1
        cases b1 with
        | false =>
          have HVV := hide (HNO.out rfl)
          clear HNO HYE
          go_wp2_with fail
          go_ret
          exact ⟨by rw [HVV.out]; rfl, L2.trans lq⟩
        | true =>
          go_wp2_with fail
          refine (rplain_any y wq (by omega)).mono ?_
          generalize allB lnC y = b2 at *
          rintro e w1 ⟨rfl, hw⟩
          rw [hw]
          clear hw w1
          cases b2 with
          | false =>
            have HVV := hide (HNO.out rfl)
            clear HNO HYE
            go_wp2_with fail
            go_ret
            exact ⟨by rw [HVV.out]; rfl, L2.trans lq⟩
          | true =>
            by_cases hy0 : y.size = 0
            · have e1 : Lib.hasPrefix y.data.toList [32] = false := by rw [str_empty y hy0]; rfl
              have e2 : Lib.hasSuffix y.data.toList [32] = false := by rw [str_empty y hy0]; rfl
              rw [e1, e2] at HNO HYE
              clear e1 e2
              have hye : y.toList.isEmpty = true := by rw [str_empty y hy0, ByteArray.toList_eq]; rfl
              clear hy0
              go_upto_region 13 with fail
              clear k1
              have k1 := block_cell B1.out
              have HLC := hide (low_cl x)
              have HLW := hide (rlower_any x wq (by omega))
              generalize strOfNums (lowZ x) = lx at *
              generalize swV x clN = b3 at *
              have hlc : (lx.toList == [99, 111, 110, 116, 101, 110, 116, 45, 108, 101, 110, 103, 116, 104]) = b3 := by rw [← HLC.out, ByteArray.toList_eq ⟨#[99, 111, 110, 116, 101, 110, 116, 45, 108, 101, 110, 103, 116, 104]⟩]
              go_wp2_with fail
              refine HLW.out.mono ?_
              rintro e w3 ⟨rfl, l3⟩
              clear k1
              cases b3 with
              | false =>
                have HYY := hide (HYE.out rfl)
                clear HNO HYE
                go_wp2_with fail
                go_roundw
                case rel => exact ⟨k + 1, by omega, by go_num, by rw [HCT.out]; rfl, lq.trans l3, HYY⟩
                case measure => simp [intOf]; omega
              | true =>
                have hc1 : (c : Int) ≤ 64 := by omega
                go_upto_region 15 with fail
                clear hlc
                have B3 := hide (later_keep l3 B1.out)
                have C3 := hide (later_keep (lq.trans l3) C2.out)
                refine anyR_begin (R := Later) Later.pre Later.drew 7 rfl (by kernel_rfl) (fun V0 hV0 => ?_)
                have qH : ∀ v, Later V0 v → ∀ j, v.cell? ⟨gh, j, none⟩ = #[Value.string x, .string y][j]? := fun v hv => block_cell (later_keep (hV0.trans hv) B3.out)
                have qM : ∀ v, Later V0 v → ∀ j, v.cell? ⟨gm, j, none⟩ = #[Value.string st, .slice (some ⟨b, off, none⟩) hs.length ch, .slice ab zb.length cb][j]? := fun v hv => block_cell (later_keep (hV0.trans hv) C3.out)
                refine anyR_val Later.pre 0 rfl (by kernel_rfl) (by kernel_rfl) (by kernel_rfl) (fun _ _ _ _ h => h) rfl ?_; apply Exists.intro; refine ⟨fun v1 hv1 => ?_, ?_⟩; (· (go_simp; rfl)); simp only [Act.put, List.setIfInBounds_toArray, List.set_cons_zero, List.set_cons_succ]
                refine anyR_val Later.pre 1 rfl (by kernel_rfl) (by kernel_rfl) (by kernel_rfl) (fun _ _ _ _ h => h) rfl ?_; apply Exists.intro; refine ⟨fun v1 hv1 => ?_, ?_⟩; (· (go_simp; rfl)); simp only [Act.put, List.setIfInBounds_toArray, List.set_cons_zero, List.set_cons_succ]
                refine anyR_val Later.pre 2 rfl (by kernel_rfl) (by kernel_rfl) (by kernel_rfl) (fun _ _ _ _ h => h) rfl ?_; apply Exists.intro; refine ⟨fun v1 hv1 => ?_, ?_⟩; (· (go_simp; rfl)); simp only [Act.put, List.setIfInBounds_toArray, List.set_cons_zero, List.set_cons_succ]
                refine anyR_val Later.pre 3 rfl (by kernel_rfl) (by kernel_rfl) (by kernel_rfl) (fun _ _ _ _ h => h) rfl ?_; apply Exists.intro; refine ⟨fun v1 hv1 => ?_, ?_⟩; (· (go_simp; rfl)); simp only [Act.put, List.setIfInBounds_toArray, List.set_cons_zero, List.set_cons_succ]
                refine anyR_val Later.pre 4 rfl (by kernel_rfl) (by kernel_rfl) (by kernel_rfl) (fun _ _ _ _ h => h) rfl ?_; apply Exists.intro; refine ⟨fun v1 hv1 => ?_, ?_⟩; (· (go_simp; rfl)); simp only [Act.put, List.setIfInBounds_toArray, List.set_cons_zero, List.set_cons_succ]
                refine anyR_take Later.pre 5 (.string (decB zb.length)) rfl (by kernel_rfl) (by kernel_rfl) (by kernel_rfl) (fun _ _ _ h => h) rfl (fun v1 hv1 => goes_call 26 #[.int .i64 (zb.length : Int)] (by go_simp) (rdigits_any zb.length (by omega) v1)) ?_
                simp only [Act.put, List.setIfInBounds_toArray, List.set_cons_zero, List.set_cons_succ]
                refine anyR_val Later.pre 6 rfl (by kernel_rfl) (by kernel_rfl) (by kernel_rfl) (fun _ _ _ _ h => h) rfl ?_; apply Exists.intro; refine ⟨fun v1 hv1 => ?_, ?_⟩; (· (go_simp; rfl)); simp only [Act.put, List.setIfInBounds_toArray, List.set_cons_zero, List.set_cons_succ]
                clear qH qM
                refine anyR_done (by kernel_rfl) (fun V9 hV9 => ?_)
                have L9 := lq.trans (l3.trans (hV0.trans hV9))
                rw [str_beq y (decB zb.length)]
                generalize eqS y (decB zb.length) = b4 at *
                cases b4 with
                | false =>
                  have HVV := hide (HNO.out rfl)
                  clear HNO HYE
                  go_wp2_with fail
                  go_ret
                  exact ⟨by rw [HVV.out]; rfl, L2.trans L9⟩
                | true =>
                  have HYY := hide (HYE.out rfl)
                  clear HNO HYE
                  go_wp2_with fail
                  go_roundw
                  case rel => exact ⟨k + 1, by omega, by go_num, by rw [HCT.out]; go_num, L9, HYY⟩
                  case measure => simp [intOf]; omega
            · have hyn := str_ne hy0
              obtain ⟨e1, e2⟩ := vl_blank y hy0
              rw [e1, e2] at HNO HYE
              clear e1 e2
              have hp0 : 0 < y.size := by omega
              have hp0' : (0 : Int) < (y.size : Int) := by omega
              have hq0 : y.size - 1 < y.size := by omega
              have g1 := bAt_get y 0 hp0
              have g2 := bAt_get y (y.size - 1) hq0
              rw [← g1, ← g2] at HNO HYE
              clear g1 g2 hy0
              have hys : (y.size : Int) - 1 = ((y.size - 1 : Nat) : Int) := by omega
              have hys2 : ((y.size - 1 : Nat) : Int) < (y.size : Int) := by omega
              have hyb : (y.size : Int) ≤ 140737488355328 := by omega
              cases hb1 : (((y[0]'hp0).toNat : Nat) : Int) == 32 with
              | true =>
                rw [hb1] at HNO HYE
                have HVV := hide (HNO.out rfl)
                clear HNO HYE
                go_wp2_with fail
                go_ret
                exact ⟨by rw [HVV.out]; rfl, L2.trans lq⟩
              | false =>
                rw [hb1] at HNO HYE
                cases hb2 : (((y[y.size - 1]'hq0).toNat : Nat) : Int) == 32 with
                | true =>
                  rw [hb2] at HNO HYE
                  have HVV := hide (HNO.out rfl)
                  clear HNO HYE
                  go_wp2_with fail
                  go_ret
                  exact ⟨by rw [HVV.out]; rfl, L2.trans lq⟩
                | false =>
                  rw [hb2] at HNO HYE
                  go_upto_region 13 with fail
                  clear k1
                  have k1 := block_cell B1.out
                  have HLC := hide (low_cl x)
                  have HLW := hide (rlower_any x wq (by omega))
                  generalize strOfNums (lowZ x) = lx at *
                  generalize swV x clN = b3 at *
                  have hlc : (lx.toList == [99, 111, 110, 116, 101, 110, 116, 45, 108, 101, 110, 103, 116, 104]) = b3 := by rw [← HLC.out, ByteArray.toList_eq ⟨#[99, 111, 110, 116, 101, 110, 116, 45, 108, 101, 110, 103, 116, 104]⟩]
                  go_wp2_with fail
                  refine HLW.out.mono ?_
                  rintro e w3 ⟨rfl, l3⟩
                  clear k1
                  cases b3 with
                  | false =>
                    have HYY := hide (HYE.out rfl)
                    clear HNO HYE
                    go_wp2_with fail
                    go_roundw
                    case rel => exact ⟨k + 1, by omega, by go_num, by rw [HCT.out]; rfl, lq.trans l3, HYY⟩
                    case measure => simp [intOf]; omega
                  | true =>
                    have hc1 : (c : Int) ≤ 64 := by omega
                    go_upto_region 15 with fail
                    clear hlc
                    have B3 := hide (later_keep l3 B1.out)
                    have C3 := hide (later_keep (lq.trans l3) C2.out)
                    refine anyR_begin (R := Later) Later.pre Later.drew 7 rfl (by kernel_rfl) (fun V0 hV0 => ?_)
                    have qH : ∀ v, Later V0 v → ∀ j, v.cell? ⟨gh, j, none⟩ = #[Value.string x, .string y][j]? := fun v hv => block_cell (later_keep (hV0.trans hv) B3.out)
                    have qM : ∀ v, Later V0 v → ∀ j, v.cell? ⟨gm, j, none⟩ = #[Value.string st, .slice (some ⟨b, off, none⟩) hs.length ch, .slice ab zb.length cb][j]? := fun v hv => block_cell (later_keep (hV0.trans hv) C3.out)
                    refine anyR_val Later.pre 0 rfl (by kernel_rfl) (by kernel_rfl) (by kernel_rfl) (fun _ _ _ _ h => h) rfl ?_; apply Exists.intro; refine ⟨fun v1 hv1 => ?_, ?_⟩; (· (go_simp; rfl)); simp only [Act.put, List.setIfInBounds_toArray, List.set_cons_zero, List.set_cons_succ]
                    refine anyR_val Later.pre 1 rfl (by kernel_rfl) (by kernel_rfl) (by kernel_rfl) (fun _ _ _ _ h => h) rfl ?_; apply Exists.intro; refine ⟨fun v1 hv1 => ?_, ?_⟩; (· (go_simp; rfl)); simp only [Act.put, List.setIfInBounds_toArray, List.set_cons_zero, List.set_cons_succ]
                    refine anyR_val Later.pre 2 rfl (by kernel_rfl) (by kernel_rfl) (by kernel_rfl) (fun _ _ _ _ h => h) rfl ?_; apply Exists.intro; refine ⟨fun v1 hv1 => ?_, ?_⟩; (· (go_simp; rfl)); simp only [Act.put, List.setIfInBounds_toArray, List.set_cons_zero, List.set_cons_succ]
                    refine anyR_val Later.pre 3 rfl (by kernel_rfl) (by kernel_rfl) (by kernel_rfl) (fun _ _ _ _ h => h) rfl ?_; apply Exists.intro; refine ⟨fun v1 hv1 => ?_, ?_⟩; (· (go_simp; rfl)); simp only [Act.put, List.setIfInBounds_toArray, List.set_cons_zero, List.set_cons_succ]
                    refine anyR_val Later.pre 4 rfl (by kernel_rfl) (by kernel_rfl) (by kernel_rfl) (fun _ _ _ _ h => h) rfl ?_; apply Exists.intro; refine ⟨fun v1 hv1 => ?_, ?_⟩; (· (go_simp; rfl)); simp only [Act.put, List.setIfInBounds_toArray, List.set_cons_zero, List.set_cons_succ]
                    refine anyR_take Later.pre 5 (.string (decB zb.length)) rfl (by kernel_rfl) (by kernel_rfl) (by kernel_rfl) (fun _ _ _ h => h) rfl (fun v1 hv1 => goes_call 26 #[.int .i64 (zb.length : Int)] (by go_simp) (rdigits_any zb.length (by omega) v1)) ?_
                    simp only [Act.put, List.setIfInBounds_toArray, List.set_cons_zero, List.set_cons_succ]
                    refine anyR_val Later.pre 6 rfl (by kernel_rfl) (by kernel_rfl) (by kernel_rfl) (fun _ _ _ _ h => h) rfl ?_; apply Exists.intro; refine ⟨fun v1 hv1 => ?_, ?_⟩; (· (go_simp; rfl)); simp only [Act.put, List.setIfInBounds_toArray, List.set_cons_zero, List.set_cons_succ]
                    clear qH qM
                    refine anyR_done (by kernel_rfl) (fun V9 hV9 => ?_)
                    have L9 := lq.trans (l3.trans (hV0.trans hV9))
                    rw [str_beq y (decB zb.length)]
                    generalize eqS y (decB zb.length) = b4 at *
                    cases b4 with
                    | false =>
                      have HVV := hide (HNO.out rfl)
                      clear HNO HYE
                      go_wp2_with fail
                      go_ret
                      exact ⟨by rw [HVV.out]; rfl, L2.trans L9⟩
                    | true =>
                      have HYY := hide (HYE.out rfl)
                      clear HNO HYE
                      go_wp2_with fail
                      go_roundw
                      case rel => exact ⟨k + 1, by omega, by go_num, by rw [HCT.out]; go_num, L9, HYY⟩
                      case measure => simp [intOf]; omega
      · obtain rfl : k = hs.length := by omega
        have hnl : ¬ ((hs.length : Nat) : Int) < (hs.length : Int) := by omega
        rw [List.take_length] at hal ⊢
        generalize hs.countP (fun h => swV h.1 clN) = c at *
        have hq : ((c : Int) == 1) = decide (c = 1) := by by_cases h : c = 1 <;> simp [h]; omega
        have HVV : Hid (r = ((c : Int) == 1)) := by show _ = _; rw [HR3.out, hal.out, hq]; rfl
        clear hq HR3
        go_wp2_with fail
        go_ret
        exact ⟨by rw [HVV.out]; rfl, L2.trans lr⟩
end Go.Proofs.YtifdocjagnhncabDoor

/- The law's ref: a message as the document's. -/
namespace Go.Proofs.YtifdocjagnhncabDoor
open Go.RowKit Go.Shelf
set_option maxRecDepth 100000
set_option linter.unusedVariables false
set_option linter.unusedSimpArgs false

theorem info_hdrR : (Tryd.prog.info? 62).map (fun i => (i.zero, i.size, i.bytes)) = some (some (.agg #[.string ⟨#[]⟩, .string ⟨#[]⟩]), 2, 32) := by kernel_rfl
theorem ownR_rd {base : Nat} {W : World} {v : Value} {l : List Hr} {T : TypeId} (h : W.ownsRow base T 2 v l.length (hrs l)) : RdM W.heap.size W v l := by
  obtain ⟨h1, ⟨rfl, h0⟩ | ⟨g, cap, cur, rfl, hg, hh, hl, hm, hs, hc⟩⟩ := h
  · have : l = [] := List.eq_nil_of_length_eq_zero h0
    subst this
    exact .inl ⟨none, 0, rfl, rfl, by omega, fun _ => rfl⟩
  · by_cases hn : l = []
    · subst hn
      exact .inl ⟨_, cap, rfl, rfl, by simpa [maxLen] using hm, fun h => by cases h⟩
    · refine .inr ⟨g, 0, cap, rfl, hn, hl, by simpa [maxLen] using hm, (Array.getElem?_eq_some_iff.1 hh).1, fun j hj i hi => ?_⟩
      rw [Nat.zero_add, block_cell hh, ← hrs_at l j i hj hi, ← hc, List.getElem?_take_of_lt (by omega)]
      simp

set_option maxRecDepth 100000 in
set_option maxHeartbeats 8000000 in
theorem ref_any (st : ByteArray) (sv sb : Value) (hs : List Hr) (zb : List Int) (w : World) (hH : RdM w.heap.size w sv hs) (hB : Rd w.heap.size w sb zb) (hhl : hs.length ≤ 100) :
    Calls Tryd.prog 11 #[.agg #[.string st, sv, sb]] w fun e w' => Later w w' ∧ ∃ vh, e = .returned (.agg #[.string st, vh, sb]) ∧ w'.ownsRow w.heap.size 62 2 vh hs.length (hrs hs) := by
  obtain ⟨sa, scp, rfl, hsc1, hsc2⟩ := hH.slice
  obtain ⟨ba, bcp, rfl, hbc1, hbc2⟩ := hB.slice
  have hb4 : Later w (((w.alloc (.cells #[.string st, .slice sa hs.length scp, .slice ba zb.length bcp] 25)).alloc (.cells #[.string ⟨#[]⟩, .slice none 0 0, .slice none 0 0] 39)).alloc (.cells #[.string st, .slice none 0 0, .slice ba zb.length bcp] 39)) := (((Below.refl _ _).alloc (Nat.le_refl _) _).alloc (by simp) _).alloc (by simp <;> omega) _
  have c0 : ((w.alloc (.cells #[.string st, .slice sa hs.length scp, .slice ba zb.length bcp] 25)).alloc (.cells #[.string ⟨#[]⟩, .slice none 0 0, .slice none 0 0] 39)).heap[w.heap.size]? = some (.cells #[.string st, .slice sa hs.length scp, .slice ba zb.length bcp] 25 (0, 0)) := (Below.heap_alloc _ _ _ (by simp)).trans (heap_alloc_new w _)
  have c1 : ((w.alloc (.cells #[.string st, .slice sa hs.length scp, .slice ba zb.length bcp] 25)).alloc (.cells #[.string ⟨#[]⟩, .slice none 0 0, .slice none 0 0] 39)).heap[w.heap.size + 1]? = some (.cells #[.string ⟨#[]⟩, .slice none 0 0, .slice none 0 0] 39 (0, 0)) := by
    have := heap_alloc_new (w.alloc (.cells #[.string st, .slice sa hs.length scp, .slice ba zb.length bcp] 25)) (.cells #[.string ⟨#[]⟩, .slice none 0 0, .slice none 0 0] 39)
    rw [World.size_alloc] at this
    exact this
  have hs4 : ((w.alloc (.cells #[.string st, .slice sa hs.length scp, .slice ba zb.length bcp] 25)).alloc (.cells #[.string ⟨#[]⟩, .slice none 0 0, .slice none 0 0] 39)).heap.size = w.heap.size + 1 + 1 := by simp
  have hb3 : Later w ((w.alloc (.cells #[.string st, .slice sa hs.length scp, .slice ba zb.length bcp] 25)).alloc (.cells #[.string ⟨#[]⟩, .slice none 0 0, .slice none 0 0] 39)) := ((Below.refl _ _).alloc (Nat.le_refl _) _).alloc (by simp) _
  have C0 := hide c0
  have C1 := hide c1
  have HS4 := hide hs4
  clear c0 c1 hs4 hb4
  go_enter Tryd.func11, Tryd.ntmps11
  go_upto_region 1 with fail
  generalize (w.alloc (.cells #[.string st, .slice sa hs.length scp, .slice ba zb.length bcp] 25)).alloc (.cells #[.string ⟨#[]⟩, .slice none 0 0, .slice none 0 0] 39) = w4 at *
  generalize hgc : w.heap.size = gc at C0 C1 HS4 ⊢
  have k0 := block_cell C0.out
  have la := later_allocR w4 (.cells #[.string st, .slice none 0 0, .slice ba zb.length bcp] 39)
  have C2 := hide (heap_alloc_new w4 (.cells #[.string st, .slice none 0 0, .slice ba zb.length bcp] 39))
  go_upto_region 2 with fail
  clear k0
  have D0 := hide (later_keep la C0.out)
  have D1 := hide (later_keep la C1.out)
  have LW : Later w (w4.alloc (.cells #[.string st, .slice none 0 0, .slice ba zb.length bcp] 39)) := Later.trans hb3 la
  have hs5 : w4.heap.size = gc + 1 + 1 := HS4.out
  rw [hs5] at C2 ⊢
  change Code.wp _ _ _ _ (w4.alloc (.cells #[.string st, .slice none 0 0, .slice ba zb.length bcp] 39))
  generalize w4.alloc (.cells #[.string st, .slice none 0 0, .slice ba zb.length bcp] 39) = W at *
  have LWg : Below gc w W := hgc ▸ LW
  go_upto_region 3 with fail
  have HH := hide (hH.below (hgc ▸ LWg : Below w.heap.size w W))
  rw [hgc] at HH
  have hgcW : gc + 3 ≤ W.heap.size := by have := (Array.getElem?_eq_some_iff.1 C2.out).1; omega
  go_loopw [4] (fun iv wr => ∃ (k : Nat) (vh : Value), k ≤ hs.length ∧ iv = .int .i64 (k : Int) ∧ Below gc W wr ∧ Hid (wr.heap[gc]? = some (.cells #[.string st, .slice sa hs.length scp, .slice ba zb.length bcp] 25 (0, 0))) ∧ Hid (wr.heap[gc + 1]? = some (.cells #[.string ⟨#[]⟩, .slice none 0 0, .slice none 0 0] 39 (0, 0))) ∧ Hid (wr.heap[gc + 1 + 1]? = some (.cells #[.string st, vh, .slice ba zb.length bcp] 39 (0, 0))) ∧ Hid (wr.ownsRow gc 62 2 vh k (hrs (hs.take k)))) (fun iv _ => hs.length - (intOf iv).toNat)
  case atStart => exact ⟨0, .slice none 0 0, by omega, rfl, Below.refl _ _, D0, D1, C2, rfl, .inl ⟨rfl, rfl⟩⟩
  case round =>
    obtain ⟨k, vh, hk, rfl, hbr, E0, E1, EN, EH⟩ := hrel
    have hbs := hbr.size
    have k0 := block_cell E0.out
    obtain ⟨ha, hcp, rfl⟩ := owns_form EH.out
    by_cases hlt : k < hs.length
    · have hlt' : (k : Int) < (hs.length : Int) := by omega
      have hlt2 : (k : Int) < 200 := by omega
      obtain ⟨b, off, cp, e, _, _, hbn, hcs⟩ := ((HH.out).below hbr).cells (by omega)
      cases e
      have d0 := hcs k hlt 0 (by omega)
      have d1 := hcs k hlt 1 (by omega)
      have HTK : Hid (hs.take (k + 1) = hs.take k ++ [hs[k]]) := by show _ = _; rw [← List.take_append_getElem hlt]
      clear hcs
      generalize hs[k] = hr at *
      obtain ⟨n1, n2⟩ := hr
      simp only [hrc, List.getElem?_cons_zero, List.getElem?_cons_succ, Nat.add_zero] at d0 d1
      go_upto_region 5 with fail
      clear k0
      refine wp_calmS ?_
      refine anyU_begin (R1 := Later) (R2 := fun _ _ => True) (D := [16, 18]) 19 rfl (by kernel_rfl) ?_
      have ld : Later wr wr.drew := Later.drew wr
      generalize wr.drew = Wd at *
      have qM : ∀ v1, Later Wd v1 → ∀ j, v1.cell? ⟨gc, j, none⟩ = #[.string st, .slice (some ⟨b, off, none⟩) hs.length scp, .slice ba zb.length bcp][j]? := fun v1 hv => block_cell (later_keep (ld.trans hv) E0.out)
      have qN : ∀ v1, Later Wd v1 → ∀ j, v1.cell? ⟨gc + 1 + 1, j, none⟩ = #[.string st, .slice ha k hcp, .slice ba zb.length bcp][j]? := fun v1 hv => block_cell (later_keep (ld.trans hv) EN.out)
      have q0 : ∀ v, Later Wd v → v.cell? ⟨b, off + k * 2, none⟩ = some (.string n1) := fun v hv => (ld.trans hv).cell d0
      have q1 : ∀ v, Later Wd v → v.cell? ⟨b, off + k * 2 + 1, none⟩ = some (.string n2) := fun v hv => (ld.trans hv).cell d1
      clear d0 d1
      refine anyU_val Later.pre 0 [1, 16, 18] rfl (by rfl) (by rfl) (by kernel_rfl) (by kernel_rfl) (by kernel_rfl) (by kernel_rfl) (by kernel_rfl) (fun _ _ _ _ h => by cases h.1) (by rfl) ?_; apply Exists.intro; refine ⟨fun v1 hv1 => ?_, ?_⟩; (· (go_simp; rfl)); simp only [Act.put, List.setIfInBounds_toArray, List.set_cons_zero, List.set_cons_succ]
      refine anyU_val Later.pre 1 [16, 18] rfl (by rfl) (by rfl) (by kernel_rfl) (by kernel_rfl) (by kernel_rfl) (by kernel_rfl) (by kernel_rfl) (fun _ _ _ _ h => by cases h.1) (by rfl) ?_; apply Exists.intro; refine ⟨fun v1 hv1 => ?_, ?_⟩; (· (go_simp; rfl)); simp only [Act.put, List.setIfInBounds_toArray, List.set_cons_zero, List.set_cons_succ]
      refine anyU_val Later.pre 2 [3, 5, 6, 7, 14, 15, 16, 18] rfl (by rfl) (by rfl) (by kernel_rfl) (by kernel_rfl) (by kernel_rfl) (by kernel_rfl) (by kernel_rfl) (fun _ _ _ _ h => by cases h.1) (by rfl) ?_; apply Exists.intro; refine ⟨fun v1 hv1 => ?_, ?_⟩; (· (go_simp; rfl)); simp only [Act.put, List.setIfInBounds_toArray, List.set_cons_zero, List.set_cons_succ]
      refine anyU_val Later.pre 3 [5, 6, 7, 14, 15, 16, 18] rfl (by rfl) (by rfl) (by kernel_rfl) (by kernel_rfl) (by kernel_rfl) (by kernel_rfl) (by kernel_rfl) (fun _ _ _ _ h => by cases h.1) (by rfl) ?_; apply Exists.intro; refine ⟨fun v1 hv1 => ?_, ?_⟩; (· (go_simp; rfl)); simp only [Act.put, List.setIfInBounds_toArray, List.set_cons_zero, List.set_cons_succ]
      refine anyU_val Later.pre 4 [5, 6, 7, 14, 15, 16, 18] rfl (by rfl) (by rfl) (by kernel_rfl) (by kernel_rfl) (by kernel_rfl) (by kernel_rfl) (by kernel_rfl) (fun _ _ _ _ h => by cases h.1) (by rfl) ?_; apply Exists.intro; refine ⟨fun v1 hv1 => ?_, ?_⟩; (· (go_simp; rfl)); simp only [Act.put, List.setIfInBounds_toArray, List.set_cons_zero, List.set_cons_succ]
      refine anyU_val Later.pre 5 [6, 7, 14, 15, 16, 18] rfl (by rfl) (by rfl) (by kernel_rfl) (by kernel_rfl) (by kernel_rfl) (by kernel_rfl) (by kernel_rfl) (fun _ _ _ _ h => by cases h.1) (by rfl) ?_; apply Exists.intro; refine ⟨fun v1 hv1 => ?_, ?_⟩; (· (go_simp; rfl)); simp only [Act.put, List.setIfInBounds_toArray, List.set_cons_zero, List.set_cons_succ]
      refine anyU_val Later.pre 6 [7, 14, 15, 16, 18] rfl (by rfl) (by rfl) (by kernel_rfl) (by kernel_rfl) (by kernel_rfl) (by kernel_rfl) (by kernel_rfl) (fun _ _ _ _ h => by cases h.1) (by rfl) ?_; apply Exists.intro; refine ⟨fun v1 hv1 => ?_, ?_⟩; (· (go_simp; rfl)); simp only [Act.put, List.setIfInBounds_toArray, List.set_cons_zero, List.set_cons_succ]
      refine anyU_val Later.pre 7 [14, 15, 16, 18] rfl (by rfl) (by rfl) (by kernel_rfl) (by kernel_rfl) (by kernel_rfl) (by kernel_rfl) (by kernel_rfl) (fun _ _ _ _ h => by cases h.1) (by rfl) ?_; apply Exists.intro; refine ⟨fun v1 hv1 => ?_, ?_⟩; (· (go_simp; rfl)); simp only [Act.put, List.setIfInBounds_toArray, List.set_cons_zero, List.set_cons_succ]
      refine anyU_val Later.pre 8 [9, 11, 12, 13, 14, 15, 16, 18] rfl (by rfl) (by rfl) (by kernel_rfl) (by kernel_rfl) (by kernel_rfl) (by kernel_rfl) (by kernel_rfl) (fun _ _ _ _ h => by cases h.1) (by rfl) ?_; apply Exists.intro; refine ⟨fun v1 hv1 => ?_, ?_⟩; (· (go_simp; rfl)); simp only [Act.put, List.setIfInBounds_toArray, List.set_cons_zero, List.set_cons_succ]
      refine anyU_val Later.pre 9 [11, 12, 13, 14, 15, 16, 18] rfl (by rfl) (by rfl) (by kernel_rfl) (by kernel_rfl) (by kernel_rfl) (by kernel_rfl) (by kernel_rfl) (fun _ _ _ _ h => by cases h.1) (by rfl) ?_; apply Exists.intro; refine ⟨fun v1 hv1 => ?_, ?_⟩; (· (go_simp; rfl)); simp only [Act.put, List.setIfInBounds_toArray, List.set_cons_zero, List.set_cons_succ]
      refine anyU_val Later.pre 10 [11, 12, 13, 14, 15, 16, 18] rfl (by rfl) (by rfl) (by kernel_rfl) (by kernel_rfl) (by kernel_rfl) (by kernel_rfl) (by kernel_rfl) (fun _ _ _ _ h => by cases h.1) (by rfl) ?_; apply Exists.intro; refine ⟨fun v1 hv1 => ?_, ?_⟩; (· (go_simp; rfl)); simp only [Act.put, List.setIfInBounds_toArray, List.set_cons_zero, List.set_cons_succ]
      refine anyU_val Later.pre 11 [12, 13, 14, 15, 16, 18] rfl (by rfl) (by rfl) (by kernel_rfl) (by kernel_rfl) (by kernel_rfl) (by kernel_rfl) (by kernel_rfl) (fun _ _ _ _ h => by cases h.1) (by rfl) ?_; apply Exists.intro; refine ⟨fun v1 hv1 => ?_, ?_⟩; (· (go_simp; rfl)); simp only [Act.put, List.setIfInBounds_toArray, List.set_cons_zero, List.set_cons_succ]
      refine anyU_val Later.pre 12 [13, 14, 15, 16, 18] rfl (by rfl) (by rfl) (by kernel_rfl) (by kernel_rfl) (by kernel_rfl) (by kernel_rfl) (by kernel_rfl) (fun _ _ _ _ h => by cases h.1) (by rfl) ?_; apply Exists.intro; refine ⟨fun v1 hv1 => ?_, ?_⟩; (· (go_simp; rfl)); simp only [Act.put, List.setIfInBounds_toArray, List.set_cons_zero, List.set_cons_succ]
      refine anyU_val Later.pre 13 [14, 15, 16, 18] rfl (by rfl) (by rfl) (by kernel_rfl) (by kernel_rfl) (by kernel_rfl) (by kernel_rfl) (by kernel_rfl) (fun _ _ _ _ h => by cases h.1) (by rfl) ?_; apply Exists.intro; refine ⟨fun v1 hv1 => ?_, ?_⟩; (· (go_simp; rfl)); simp only [Act.put, List.setIfInBounds_toArray, List.set_cons_zero, List.set_cons_succ]
      refine anyU_val Later.pre 14 [15, 16, 18] rfl (by rfl) (by rfl) (by kernel_rfl) (by kernel_rfl) (by kernel_rfl) (by kernel_rfl) (by kernel_rfl) (fun _ _ _ _ h => by cases h.1) (by rfl) ?_; apply Exists.intro; refine ⟨fun v1 hv1 => ?_, ?_⟩; (· (go_simp; rfl)); simp only [Act.put, List.setIfInBounds_toArray, List.set_cons_zero, List.set_cons_succ]
      clear qM qN q0 q1
      refine anyU_one 15 rfl (by kernel_rfl) (by rfl) ?_
      have l2 := later_allocR Wd (.cells #[.string n1, .string n2] 62)
      have HNW := hide (heap_alloc_new Wd (.cells #[.string n1, .string n2] 62))
      unfold Oper.wp
      go_simp
      refine ⟨Rj_out (by rfl) l2, ?_⟩
      change wpAnyU _ _ _ _ _ _ _ _ _ _ (Wd.alloc (.cells #[.string n1, .string n2] 62))
      generalize Wd.alloc (.cells #[.string n1, .string n2] 62) = W5 at *
      generalize Wd.heap.size = gw at *
      have LL := ld.trans l2
      have EH5 := ownsS_ct EH.out (CTs.of LL)
      have EN5 := later_keep LL EN.out
      have E05 := later_keep LL E0.out
      have E15 := later_keep LL E1.out
      have hnk := block_cell HNW.out
      obtain ⟨i0, hi0, hz0, hz1, hz2⟩ := info_partsS info_hdrR
      have hgc5 : gc ≤ W5.heap.size := by have := LL.size; omega
      obtain ⟨v', W2, hrun, hrow, hg, _⟩ := run_append_own (P := Tryd.prog) W5 gc 37 37 62 i0 (.agg #[.string ⟨#[]⟩, .string ⟨#[]⟩]) 2 32 Tryd.underlying37 hi0 hz0 hz1 hz2 rfl (by decide) (.slice ha k hcp) k (hrs (hs.take k)) EH5 ⟨gw, 0, none⟩ 1 1 [.string n1, .string n2] rfl
        (fun j u hj => by
          rw [show (⟨gw, 0, none⟩ : Addr).add j = ⟨gw, 0 + j, none⟩ from by unfold Addr.add; split <;> simp_all]
          rw [Nat.zero_add, hnk j, ← hj]; simp)
        (by intro u hu; simp at hu; rcases hu with rfl | rfl <;> rfl) (by unfold maxLen; omega) (by omega) hgc5
      clear hnk
      refine anyU_one 16 rfl (by kernel_rfl) (by rfl) ?_
      refine wp_app (.tmp 22) (.tmp 36) 37 rfl _ _ rfl rfl v' W2 hrun ?_
      refine ⟨Rj_in (by rfl) trivial, ?_⟩
      simp only [Act.put, List.setIfInBounds_toArray, List.set_cons_zero, List.set_cons_succ]
      obtain ⟨a2, cp2, rfl⟩ := owns_form hrow
      have EN2 := keep_row EH5 hg EN5 (.inl fun cur f e => by cases e)
      have E02 := keep_row EH5 hg E05 (.inl fun cur f e => by cases e)
      have E12 := keep_row EH5 hg E15 (.inl fun cur f e => by cases e)
      refine anyU_one 17 rfl (by kernel_rfl) (by rfl) ?_
      refine wp_value (w' := W2) (.pointer (some ⟨gc + 1 + 1, 1, none⟩)) (by go_simp) ?_
      refine ⟨Rj_out (by rfl) (Later.refl _), ?_⟩
      simp only [Act.put, List.setIfInBounds_toArray, List.set_cons_zero, List.set_cons_succ]
      have k2 := block_cell EN2
      have f2 := block_frozen EN2
      refine anyU_one 18 rfl (by kernel_rfl) (by rfl) ?_
      unfold Oper.wp
      go_simp
      refine ⟨Rj_in (by rfl) trivial, ?_⟩
      clear k2 f2
      refine anyU_done (by kernel_rfl) ?_
      refine ⟨rfl, ?_⟩
      have EN8 := heap_set1 EN2 1 (.slice a2 (k + 1) cp2)
      have E08 := hsetS_ne (j := 1) (v := .slice a2 (k + 1) cp2) E02 (m := gc + 1 + 1) (by omega)
      have E18 := hsetS_ne (j := 1) (v := .slice a2 (k + 1) cp2) E12 (m := gc + 1 + 1) (by omega)
      have EH8 := own_set hrow EN2 (by decide) 1 (.slice a2 (k + 1) cp2)
      have B8 : Below gc wr (W2.setCell ⟨gc + 1 + 1, 1, none⟩ (.slice a2 (k + 1) cp2)) := ⟨hg.os.trans LL.os, hg.tape.trans LL.tape, hg.output.trans LL.output, by have := LL.size; have := hg.size; simp; omega, fun i hi => by
        cases hh : wr.heap[i]? with
        | none => have := Array.getElem?_eq_none_iff.1 hh; omega
        | some o => exact hsetS_ne (keep_row EH5 hg (later_keep LL hh) (.inr hi)) (by omega)⟩
      have EH9 : (W2.setCell ⟨gc + 1 + 1, 1, none⟩ (.slice a2 (k + 1) cp2)).ownsRow gc 62 2 (.slice a2 (k + 1) cp2) (k + 1) (hrs (hs.take (k + 1))) := by
        rw [HTK.out, hrs_snoc]
        exact EH8
      have HE8 := hide E08; have HF8 := hide E18; have HG8 := hide EN8; have HH9 := hide EH9; have HBL := hide (hbr.trans B8)
      clear E08 E18 EN8 EH9 EH8 B8 hrow E12 E02 EN2 hg hrun E15 E05 EN5 EH5
      generalize W2.setCell ⟨gc + 1 + 1, 1, none⟩ (.slice a2 (k + 1) cp2) = V8 at *
      go_wp2_with fail
      go_roundw
      case rel => exact ⟨k + 1, .slice a2 (k + 1) cp2, by omega, by go_num, HBL.out, HE8, HF8, HG8, HH9⟩
      case measure => simp [intOf]; omega
    · have hnl : ¬ (k : Int) < (hs.length : Int) := by omega
      have hkk : k = hs.length := by omega
      have HH9 : Hid (wr.ownsRow gc 62 2 (.slice ha k hcp) hs.length (hrs hs)) := by
        have := EH.out
        rw [hkk, List.take_length] at this
        rw [hkk]
        exact this
      clear hkk
      have k2 := block_cell EN.out
      have k4 := block_cell E1.out
      have f4 := block_frozen E1.out
      go_wp2_with fail
      generalize hV : (((wr.setCell ⟨gc + 1, 0, none⟩ _).setCell ⟨gc + 1, 1, none⟩ _).setCell ⟨gc + 1, 2, none⟩ _) = V8
      have hV9 : V8 = putRow wr (gc + 1) 0 [.string st, .slice ha k hcp, .slice ba zb.length bcp] := hV.symm
      have hb8 : But (fun b => b = gc + 1) wr V8 := by rw [hV9]; exact putRow_but (E := fun b => b = gc + 1) (n := gc + 1) rfl _ _ _ _ (But.refl _ _)
      have p8 := putRow_all [.string st, .slice ha k hcp, .slice ba zb.length bcp] E1.out rfl
      rw [← hV9] at p8
      clear hV hV9
      have P8 := block_cell p8
      have LWr : Below gc w wr := LWg.trans hbr
      have hw8 : Below gc w V8 := LWr.trans (hb8.below (by omega) (fun k h e => by omega))
      have hr8 := own_but (base' := gc) HH9.out hb8 E1.out (by decide) (Nat.le_refl _)
      exact bodyPost_ret (v := .agg #[.string st, .slice ha k hcp, .slice ba zb.length bcp]) (by simp [results, Tryd.results11, go_sem, P8]) rfl ⟨(by show Below w.heap.size w V8; rw [hgc]; exact hw8), _, rfl, hr8⟩
end Go.Proofs.YtifdocjagnhncabDoor

/- A guarded operation that is not wanted is passed over. -/
namespace Go.Proofs.YtifdocjagnhncabDoor
open Go.RowKit Go.Shelf
set_option maxRecDepth 100000
set_option linter.unusedVariables false
set_option linter.unusedSimpArgs false

section
variable {P : Program} {l : List Oper} {Q : Exit → Act → World → Prop} {fuel : Nat} {listed : Array Bool} {a : Act} {w : World} {R : World → World → Prop}
/-- Number i, whose guard does not hold, is passed over first. -/
theorem anyR_skipG (hp : Pre R) (i : Nat) {oi : Oper} (hi : nthOp l i = some oi)
    (hs : Region.noSelect l.toArray = true) (hf : Region.free .any l.toArray listed i = true) (hr : (Region.ready .any l.toArray listed).contains i = true)
    (hQ : ∀ v c a w, Q (.panic c) (a.put oi.dst v) w → Q (.panic c) a w) (hg : Region.wanted oi (yielded l.toArray a.tmps) = false)
    (h : wpAnyR P .any l.toArray Q R fuel (listed.setIfInBounds i true) (a.put oi.dst undef) w) : wpAnyR P .any l.toArray Q R (fuel + 1) listed a w := by
  have hi' : l.toArray[i]? = some oi := by rw [← hi, nthOp_eq]; simp
  exact wpAnyR_first hp.1 hp.2 hi' (Region.noSelect_spec hs) (hQ undef) fuel listed a w (Region.free_spec hi' hf) (by simpa using hr) (.inr ⟨hg, rfl⟩) h
end

end Go.Proofs.YtifdocjagnhncabDoor

/- A guarded operation that is the only one to come next. -/
namespace Go.Proofs.YtifdocjagnhncabDoor
open Go.RowKit Go.Shelf
set_option maxRecDepth 100000
set_option linter.unusedVariables false
set_option linter.unusedSimpArgs false

section
variable {P : Program} {l : List Oper} {Q : Exit → Act → World → Prop} {fuel : Nat} {listed : Array Bool} {a : Act} {w : World} {R : World → World → Prop}
theorem anyR_oneG (i : Nat) {oi : Oper} (hi : nthOp l i = some oi) (hr : Region.ready .any l.toArray listed = [i]) (hg : Region.wanted oi (yielded l.toArray a.tmps) = true)
    (h1 : ∀ w', R w w' → oi.wp P a w' (fun a' w'' => R w' w'' ∧ wpAnyR P .any l.toArray Q R fuel (listed.setIfInBounds i true) a' w'') Q) :
    wpAnyR P .any l.toArray Q R (fuel + 1) listed a w := by
  have hi' : l.toArray[i]? = some oi := by rw [← hi, nthOp_eq]; simp
  refine ⟨fun h0 => (by rw [hr] at h0; cases h0), fun k hk w' hw' => ?_⟩
  rw [hr] at hk
  unfold wpOp
  obtain rfl : k = i := by simpa using hk
  rw [hi']; simp only [hg, if_true]; exact .inl (h1 w' hw')
end

end Go.Proofs.YtifdocjagnhncabDoor

/- The law's rewrite; the walk of SipRight. -/
namespace Go.Proofs.YtifdocjagnhncabDoor
open Go.RowKit Go.Shelf
set_option maxRecDepth 100000
set_option linter.unusedVariables false
set_option linter.unusedSimpArgs false

/-- How long a message of few headers is. -/
theorem szM_few2 {st : ByteArray} {hs : List Hr} {n : Nat} (h1 : st.size ≤ 140737488351232) (h2 : ∀ o ∈ hs, o.1.size ≤ 140737488351232 ∧ o.2.size ≤ 140737488351232) (h3 : n ≤ 140737488351232) : szM st (hs.take 100) n ≤ 9000000000000000000 ∧ (hs.take 100).length ≤ 100 ∧ ∀ o ∈ hs.take 100, o.1.size ≤ 140737488355328 ∧ o.2.size ≤ 140737488355328 := by
  have hl : (hs.take 100).length ≤ 100 := by rw [List.length_take]; omega
  have h2' : ∀ o ∈ hs.take 100, o.1.size ≤ 140737488351232 ∧ o.2.size ≤ 140737488351232 := fun o ho => h2 o (List.mem_of_mem_take ho)
  generalize hs.take 100 = l at *
  have : ∀ m (l : List Hr), l.length ≤ m → (∀ o ∈ l, o.1.size ≤ 140737488351232 ∧ o.2.size ≤ 140737488351232) → hsz l ≤ m * 281474976702468 := by
    intro m
    induction m with
    | zero => intro l hl _; have : l = [] := List.eq_nil_of_length_eq_zero (by omega); subst this; simp [hsz]
    | succ m ih =>
      intro l hl h
      cases l with
      | nil => simp [hsz]
      | cons a l =>
        have h1 := ih l (by simpa using hl) (fun o ho => h o (by simp [ho]))
        have h2 := h a (by simp)
        unfold hsz at h1 ⊢
        simp only [List.map_cons, List.sum_cons]
        omega
  have h4 := this 100 l hl h2'
  unfold szM
  exact ⟨by omega, hl, fun o ho => by have := h2' o ho; omega⟩

set_option maxRecDepth 100000 in
set_option maxHeartbeats 4000000 in
theorem rewriteL_any (h t p q : Int) (ml : List (Int × Int)) (mv : Value) (st : ByteArray) (sv sb : Value) (hs : List Hr) (zb : List Int) (w : World) (hT : TabI w) (hM : TabM w) (hh : 0 ≤ h ∧ h ≤ 4294967295) (ht : 0 ≤ t ∧ t ≤ 4294967295) (hc : (cgOf h t p q ml).wf) (hI : RdP2 w.heap.size w mv ml) (hH : RdM w.heap.size w sv hs) (hB : Rd w.heap.size w sb zb) (hzl : zb.length ≤ 140737488355328) (hhl : hs.length ≤ 5000) (hz : szM st hs zb.length ≤ 9000000000000000000) :
    Calls Tryd.prog 8 #[.agg #[.string st, sv, sb], .agg #[.int .u32 h, .int .u32 t, .int .u16 p, .int .u16 q, mv]] w fun e w' => Later w w' ∧ ∃ vh vb, e = .returned (.agg #[.string st, vh, vb]) ∧ w'.ownsRow w.heap.size 34 2 vh (rwHs (cgOf h t p q ml) st hs zb).length (hrs (rwHs (cgOf h t p q ml) st hs zb)) ∧ Ow w.heap.size w' vb (rwZb (cgOf h t p q ml) st hs zb) := by
  obtain ⟨sa, scp, rfl, hsc1, hsc2⟩ := hH.slice
  obtain ⟨ba, bcp, rfl, hbc1, hbc2⟩ := hB.slice
  obtain ⟨ma, mc, rfl, hmc1, hmc2⟩ := hI.slice
  have hb4 : Later w (((w.alloc (.cells #[.string st, .slice sa hs.length scp, .slice ba zb.length bcp] 25)).alloc (.cells #[.int .u32 h, .int .u32 t, .int .u16 p, .int .u16 q, .slice ma ml.length mc] 30)).alloc (.cells #[.string ⟨#[]⟩, .slice none 0 0, .slice none 0 0] 25)) := (((Below.refl _ _).alloc (Nat.le_refl _) _).alloc (by simp) _).alloc (by simp <;> omega) _
  have C0 := hide (show (((w.alloc (.cells #[.string st, .slice sa hs.length scp, .slice ba zb.length bcp] 25)).alloc (.cells #[.int .u32 h, .int .u32 t, .int .u16 p, .int .u16 q, .slice ma ml.length mc] 30)).alloc (.cells #[.string ⟨#[]⟩, .slice none 0 0, .slice none 0 0] 25)).heap[w.heap.size]? = some (.cells #[.string st, .slice sa hs.length scp, .slice ba zb.length bcp] 25 (0, 0)) from (Below.heap_alloc _ _ _ (by simp <;> omega)).trans ((Below.heap_alloc _ _ _ (by simp)).trans (heap_alloc_new w _)))
  have C1 : Hid ((((w.alloc (.cells #[.string st, .slice sa hs.length scp, .slice ba zb.length bcp] 25)).alloc (.cells #[.int .u32 h, .int .u32 t, .int .u16 p, .int .u16 q, .slice ma ml.length mc] 30)).alloc (.cells #[.string ⟨#[]⟩, .slice none 0 0, .slice none 0 0] 25)).heap[w.heap.size + 1]? = some (.cells #[.int .u32 h, .int .u32 t, .int .u16 p, .int .u16 q, .slice ma ml.length mc] 30 (0, 0))) := by
    have := heap_alloc_new (w.alloc (.cells #[.string st, .slice sa hs.length scp, .slice ba zb.length bcp] 25)) (.cells #[.int .u32 h, .int .u32 t, .int .u16 p, .int .u16 q, .slice ma ml.length mc] 30)
    rw [World.size_alloc] at this
    exact (Below.heap_alloc _ _ _ (by simp)).trans this
  have C2 : Hid ((((w.alloc (.cells #[.string st, .slice sa hs.length scp, .slice ba zb.length bcp] 25)).alloc (.cells #[.int .u32 h, .int .u32 t, .int .u16 p, .int .u16 q, .slice ma ml.length mc] 30)).alloc (.cells #[.string ⟨#[]⟩, .slice none 0 0, .slice none 0 0] 25)).heap[w.heap.size + 1 + 1]? = some (.cells #[.string ⟨#[]⟩, .slice none 0 0, .slice none 0 0] 25 (0, 0))) := by
    have := heap_alloc_new ((w.alloc (.cells #[.string st, .slice sa hs.length scp, .slice ba zb.length bcp] 25)).alloc (.cells #[.int .u32 h, .int .u32 t, .int .u16 p, .int .u16 q, .slice ma ml.length mc] 30)) (.cells #[.string ⟨#[]⟩, .slice none 0 0, .slice none 0 0] 25)
    simp only [World.size_alloc] at this
    exact this
  have HRW := hide (fun W (l : Later w W) => rewrite14_any h t p q ml _ st _ _ hs zb W (hT.later l) (hM.later l) hh ht hc (hI.later l) (hH.later l) (hB.later l) hzl hhl hz)
  generalize rwHs (cgOf h t p q ml) st hs zb = rh at *
  generalize rwZb (cgOf h t p q ml) st hs zb = rz at *
  go_enter Tryd.func8, Tryd.ntmps8
  go_upto_region 1 with fail
  generalize ((w.alloc (.cells #[.string st, .slice sa hs.length scp, .slice ba zb.length bcp] 25)).alloc (.cells #[.int .u32 h, .int .u32 t, .int .u16 p, .int .u16 q, .slice ma ml.length mc] 30)).alloc (.cells #[.string ⟨#[]⟩, .slice none 0 0, .slice none 0 0] 25) = w4 at *
  generalize hgc : w.heap.size = gc at C0 C1 C2 ⊢
  have k0 := block_cell C0.out
  have k1 := block_cell C1.out
  go_wp2_with fail
  refine (HRW.out w4 hb4).mono ?_
  rintro e w5 ⟨l5, vh, vb, rfl, hr5, hO5⟩
  obtain ⟨va, vc, rfl⟩ := owns_form hr5
  obtain ⟨xa, xc, rfl, _, _⟩ := hO5.slice
  clear k0 k1
  have E2 := later_keep l5 C2.out
  have k2 := block_cell E2
  have f2 := block_frozen E2
  go_wp2_with fail
  generalize hV : (((w5.setCell ⟨gc + 1 + 1, 0, none⟩ _).setCell ⟨gc + 1 + 1, 1, none⟩ _).setCell ⟨gc + 1 + 1, 2, none⟩ _) = V8
  have hV9 : V8 = putRow w5 (gc + 1 + 1) 0 [.string st, .slice va rh.length vc, .slice xa rz.length xc] := hV.symm
  have hb8 : But (fun b => b = gc + 1 + 1) w5 V8 := by rw [hV9]; exact putRow_but (E := fun b => b = gc + 1 + 1) (n := gc + 1 + 1) rfl _ _ _ _ (But.refl _ _)
  have p8 := putRow_all [.string st, .slice va rh.length vc, .slice xa rz.length xc] E2 rfl
  rw [← hV9] at p8
  clear hV hV9
  have P8 := block_cell p8
  have L5 := Later.trans hb4 l5
  have hlt2 := (Array.getElem?_eq_some_iff.1 C2.out).1
  have hw8 : Later w V8 := Below.trans L5 (hb8.below (L5).size (fun k h e => by omega))
  have hr8 := own_but (base' := w.heap.size) hr5 hb8 E2 (by decide) hb4.size
  have hO8 : Ow w.heap.size V8 (.slice xa rz.length xc) rz := (hO5.but hb8 (fun b h e => by omega)).mono hb4.size
  exact bodyPost_ret (v := .agg #[.string st, .slice va rh.length vc, .slice xa rz.length xc]) (by simp [results, Tryd.results8, go_sem, P8]) rfl ⟨hw8, _, _, rfl, hr8, hO8⟩

theorem rwHs_names (c : Cg) (st : ByteArray) (hs : List Hr) (zb : List Int) : (rwHs c st hs zb).length = hs.length ∧ ∀ j (h1 : j < hs.length) (h2 : j < (rwHs c st hs zb).length), (rwHs c st hs zb)[j].1 = hs[j].1 := by
  unfold rwHs
  split
  · unfold mgH
    exact ⟨by simp, fun j h1 h2 => by simp⟩
  · exact ⟨rfl, fun j h1 h2 => rfl⟩
theorem rw_right (c : Cg) (st : ByteArray) (hs : List Hr) (zb : List Int) : rgB st (rwHs c st hs zb) (rwZb c st hs zb).length = rgB st hs zb.length := by
  unfold rwHs rwZb
  split
  · rename_i ok
    unfold rwOk at ok
    simp only [Bool.and_eq_true] at ok
    rw [nmsB_len, ok.1, ok.2]
  · rfl
theorem rw_sz (c : Cg) (hc : c.wf) (st : ByteArray) (hs : List Hr) (zb : List Int) (hz : szM st hs zb.length ≤ 9000000000000000000) (hb : ∀ o ∈ hs, o.1.size ≤ 140737488355328 ∧ o.2.size ≤ 140737488355328) :
    szM st (rwHs c st hs zb) (rwZb c st hs zb).length ≤ 9000000000000000000 ∧ ∀ o ∈ rwHs c st hs zb, o.1.size ≤ 140737488355328 ∧ o.2.size ≤ 140737488355328 := by
  unfold rwHs rwZb
  split
  · rename_i ok
    unfold rwOk at ok
    simp only [Bool.and_eq_true] at ok
    rw [nmsB_len]
    have h1 := rgB_sz ok.2
    have h2 := (rgB_facts ok.2).2.2.2.2
    exact ⟨by omega, fun o ho => by have := h2 o ho; omega⟩
  · exact ⟨hz, hb⟩
end Go.Proofs.YtifdocjagnhncabDoor

/- The laws' lower and has; what names a host nowhere stays. -/
namespace Go.Proofs.YtifdocjagnhncabDoor
open Go.RowKit Go.Shelf
set_option maxRecDepth 100000
set_option linter.unusedVariables false
set_option linter.unusedSimpArgs false

set_option maxRecDepth 100000 in
set_option maxHeartbeats 8000000 in
theorem llower_any (s : ByteArray) (w : World) (hs : s.size ≤ 140737488355328) :
    Calls Tryd.prog 15 #[.string s] w fun e w' => e = .returned (.string (strOfNums (lowZ s))) ∧ Later w w' := by
  obtain ⟨i0, hi0, hz0, hz1, hz2⟩ := info_partsS info_u8
  have hs' : (s.size : Int) ≤ 140737488355328 := by omega
  go_enter Tryd.func15, Tryd.ntmps15
  go_upto_region 3 with fail
  go_loopw [3, 4, 5] (fun bv iv cv wr => ∃ pos : Nat, pos ≤ s.size ∧ iv = .int .i64 (pos : Int) ∧ Below w.heap.size w wr ∧ Hid (wr.ownsRow w.heap.size 5 1 bv ((lowZ s).take pos).length (((lowZ s).take pos).map (Value.int .u8)))) (fun _ iv _ _ => s.size - (intOf iv).toNat)
  case atStart => exact ⟨0, by omega, rfl, Below.refl _ _, ⟨rfl, .inl ⟨rfl, rfl⟩⟩⟩
  case round =>
    obtain ⟨pos, hp, rfl, lr, HO⟩ := hrel
    by_cases hlt : pos < s.size
    · have hlt1 : (pos : Int) < s.size := by omega
      have hbg := bAt_get s pos hlt
      have HS : Hid ((lowZ s).take (pos + 1) = (lowZ s).take pos ++ [sml (bAt s pos)]) := by
        show _ = _
        have h' : pos < (lowZ s).length := by rw [lowZ_len]; exact hlt
        rw [List.take_succ_eq_append_getElem h']
        have := lowZ_at s pos hlt
        rw [List.getElem?_eq_getElem h'] at this
        rw [Option.some.inj this]
      have HML : Hid (((lowZ s).take pos).length = pos) := by show _ = _; rw [List.length_take, lowZ_len]; omega
      generalize (lowZ s).take pos = M at *
      rw [← hbg] at HS
      clear hbg
      have hcr : (0 : Int) ≤ ((s[pos]'hlt).toNat : Int) ∧ ((s[pos]'hlt).toNat : Int) ≤ 255 := by have := (s[pos]'hlt).toNat_lt; omega
      have hM1 : M.length ≤ 140737488355327 := by rw [HML.out]; omega
      go_upto_region 6 with fail
      generalize (((s[pos]'hlt).toNat : Nat) : Int) = c at *
      by_cases a1 : 65 ≤ c
      · by_cases a2 : c ≤ 90
        · have hsm : sml c = c + 32 := by unfold sml; rw [if_pos ⟨a1, a2⟩]
          rw [hsm] at HS
          clear hsm
          go_upto_region 8 with fail
          have hcr2 : 0 ≤ c + 32 ∧ c + 32 ≤ 255 := by omega
          generalize c + 32 = d at *
          clear a1 a2 hcr
          have la := later_allocR wr (.cells #[.int .u8 d] 5); have HO1 := hide (ownsS_later HO.out la); have hb1 : w.heap.size ≤ (wr.alloc (.cells #[.int .u8 d] 5)).heap.size := (lr.trans (la.mono lr.size)).size; have HRD : Hid (Rd (wr.alloc (.cells #[.int .u8 d] 5)).heap.size (wr.alloc (.cells #[.int .u8 d] 5)) (.slice (some ⟨wr.heap.size, 0, none⟩) 1 1) [d]) := rd_mark [d] 5 (0, 0) wr (by simp) (by simp); obtain ⟨v2, w2, hrun, hown2, hgb⟩ := run_app (wr.alloc (.cells #[.int .u8 d] 5)) 23 23 5 w.heap.size i0 Tryd.underlying23 hi0 hz0 hz1 hz2 _ M HO1.out (wr.alloc (.cells #[.int .u8 d] 5)).heap.size (.slice (some ⟨wr.heap.size, 0, none⟩) 1 1) [d] HRD.out (by simp; omega) hb1; obtain ⟨va2, vc2, rfl⟩ := owns_form hown2; obtain ⟨va1, vc1, rfl⟩ := owns_form HO1.out; have l2 : Below w.heap.size w w2 := grown_later hgb (lr.trans (la.mono lr.size)) hb1 (fun k hk => (HO1.out.lt k hk).1); have HRUN := hide hrun; have HO2 := hide hown2; clear hrun hown2 hgb; generalize hm2 : (M ++ [d]).length = m2 at HRUN HO2; have HM2 := hide hm2; clear hm2; go_wp2_with (at_builtin; refine wpList_appw rfl (.tmp 23) (.tmp 25) 23 rfl _ _ rfl rfl _ w2 HRUN.out ?_); go_roundw; exact ⟨pos + 1, by omega, by go_num, l2, by rw [HS.out, HM2.out]; exact HO2⟩; (simp [intOf]; omega)
        · have hsm : sml c = c := by unfold sml; rw [if_neg (by omega)]
          rw [hsm] at HS
          clear hsm
          go_upto_region 8 with fail
          clear a1 a2
          generalize c = d at *
          have la := later_allocR wr (.cells #[.int .u8 d] 5); have HO1 := hide (ownsS_later HO.out la); have hb1 : w.heap.size ≤ (wr.alloc (.cells #[.int .u8 d] 5)).heap.size := (lr.trans (la.mono lr.size)).size; have HRD : Hid (Rd (wr.alloc (.cells #[.int .u8 d] 5)).heap.size (wr.alloc (.cells #[.int .u8 d] 5)) (.slice (some ⟨wr.heap.size, 0, none⟩) 1 1) [d]) := rd_mark [d] 5 (0, 0) wr (by simp) (by simp); obtain ⟨v2, w2, hrun, hown2, hgb⟩ := run_app (wr.alloc (.cells #[.int .u8 d] 5)) 23 23 5 w.heap.size i0 Tryd.underlying23 hi0 hz0 hz1 hz2 _ M HO1.out (wr.alloc (.cells #[.int .u8 d] 5)).heap.size (.slice (some ⟨wr.heap.size, 0, none⟩) 1 1) [d] HRD.out (by simp; omega) hb1; obtain ⟨va2, vc2, rfl⟩ := owns_form hown2; obtain ⟨va1, vc1, rfl⟩ := owns_form HO1.out; have l2 : Below w.heap.size w w2 := grown_later hgb (lr.trans (la.mono lr.size)) hb1 (fun k hk => (HO1.out.lt k hk).1); have HRUN := hide hrun; have HO2 := hide hown2; clear hrun hown2 hgb; generalize hm2 : (M ++ [d]).length = m2 at HRUN HO2; have HM2 := hide hm2; clear hm2; go_wp2_with (at_builtin; refine wpList_appw rfl (.tmp 23) (.tmp 25) 23 rfl _ _ rfl rfl _ w2 HRUN.out ?_); go_roundw; exact ⟨pos + 1, by omega, by go_num, l2, by rw [HS.out, HM2.out]; exact HO2⟩; (simp [intOf]; omega)
      · have hsm : sml c = c := by unfold sml; rw [if_neg (by omega)]
        rw [hsm] at HS
        clear hsm
        go_upto_region 8 with fail
        clear a1
        generalize c = d at *
        have la := later_allocR wr (.cells #[.int .u8 d] 5); have HO1 := hide (ownsS_later HO.out la); have hb1 : w.heap.size ≤ (wr.alloc (.cells #[.int .u8 d] 5)).heap.size := (lr.trans (la.mono lr.size)).size; have HRD : Hid (Rd (wr.alloc (.cells #[.int .u8 d] 5)).heap.size (wr.alloc (.cells #[.int .u8 d] 5)) (.slice (some ⟨wr.heap.size, 0, none⟩) 1 1) [d]) := rd_mark [d] 5 (0, 0) wr (by simp) (by simp); obtain ⟨v2, w2, hrun, hown2, hgb⟩ := run_app (wr.alloc (.cells #[.int .u8 d] 5)) 23 23 5 w.heap.size i0 Tryd.underlying23 hi0 hz0 hz1 hz2 _ M HO1.out (wr.alloc (.cells #[.int .u8 d] 5)).heap.size (.slice (some ⟨wr.heap.size, 0, none⟩) 1 1) [d] HRD.out (by simp; omega) hb1; obtain ⟨va2, vc2, rfl⟩ := owns_form hown2; obtain ⟨va1, vc1, rfl⟩ := owns_form HO1.out; have l2 : Below w.heap.size w w2 := grown_later hgb (lr.trans (la.mono lr.size)) hb1 (fun k hk => (HO1.out.lt k hk).1); have HRUN := hide hrun; have HO2 := hide hown2; clear hrun hown2 hgb; generalize hm2 : (M ++ [d]).length = m2 at HRUN HO2; have HM2 := hide hm2; clear hm2; go_wp2_with (at_builtin; refine wpList_appw rfl (.tmp 23) (.tmp 25) 23 rfl _ _ rfl rfl _ w2 HRUN.out ?_); go_roundw; exact ⟨pos + 1, by omega, by go_num, l2, by rw [HS.out, HM2.out]; exact HO2⟩; (simp [intOf]; omega)
    · obtain rfl : pos = s.size := by omega
      have hnl : ¬ ((s.size : Nat) : Int) < s.size := by omega
      rw [show (lowZ s).take s.size = lowZ s from List.take_of_length_le (by rw [lowZ_len]; exact Nat.le_refl _)] at HO
      have hcv := conv_rd 23 9 5 Tryd.underlying23 Tryd.underlying5 Tryd.underlying9 (Ow.of_row HO.out).rd
      obtain ⟨va, vc, rfl⟩ := owns_form HO.out
      have HW : Hid (Later w wr) := lr
      clear HO lr
      generalize (lowZ s).length = nl at *
      generalize hrs : strOfNums (lowZ s) = rs at *
      have HRS := hide hrs
      clear hrs
      go_wp2_with fail
      go_ret
      exact ⟨by rw [HRS.out]; rfl, HW.out⟩


def h15 : ByteArray := ⟨#[50, 53, 52, 46, 50, 53, 52, 46, 50, 53, 52, 46, 50, 53, 52]⟩
/-- A text holds the other host's address. -/
def HasH (s : ByteArray) : Prop := h15.data.toList <:+: s.data.toList
open Classical in
noncomputable def hasB (s : ByteArray) : Bool := decide (HasH s)
open Classical in
theorem hasB_yes {s : ByteArray} (h : HasH s) : hasB s = true := decide_eq_true h
open Classical in
theorem hasB_not {s : ByteArray} (h : ¬ HasH s) : hasB s = false := decide_eq_false h
open Classical in
theorem hasB_no {s : ByteArray} (h : hasB s = false) : ¬ HasH s := of_decide_eq_false h
theorem ext_inf (s : ByteArray) (i j : Nat) : (s.extract i j).data.toList <:+: s.data.toList := by
  rw [ba_ext_list]
  exact List.IsInfix.trans (List.drop_suffix _ _).isInfix (List.take_prefix _ _).isInfix
theorem hasH_at {s : ByteArray} {i : Nat} (h : eqS (s.extract i (i + 15)) h15 = true) : HasH s := by
  have := eqS_iff.1 h
  unfold HasH
  rw [← this]
  exact ext_inf s i _
theorem hasH_no {s : ByteArray} (h : ∀ i, i + 15 ≤ s.size → eqS (s.extract i (i + 15)) h15 = false) : ¬ HasH s := by
  rintro ⟨a, b, e⟩
  have hl := congrArg List.length e
  have h15l : h15.data.toList.length = 15 := rfl
  simp only [List.length_append, h15l] at hl
  rw [← ba_len] at hl
  have h1 := h a.length (by omega)
  have : s.extract a.length (a.length + 15) = h15 := by
    apply ba_ext
    rw [ba_ext_list, ← e, ← h15l, List.take_left' (by simp), List.drop_left]
  rw [this, eqS_iff.2 rfl] at h1
  cases h1
theorem cutA_inf (s p : ByteArray) : (cutA s p).data.toList <:+: s.data.toList := by
  rcases cut_spec s p with ⟨_, h, _⟩ | ⟨_, h1, _, _⟩
  · exact ⟨[], p.data.toList ++ (cutZ s p).data.toList, by rw [h]; simp⟩
  · rw [h1]; exact List.infix_rfl
theorem cutZ_inf (s p : ByteArray) : (cutZ s p).data.toList <:+: s.data.toList := by
  rcases cut_spec s p with ⟨_, h, _⟩ | ⟨_, _, h1, _⟩
  · exact ⟨(cutA s p).data.toList ++ p.data.toList, [], by rw [h]; simp⟩
  · rw [h1]; exact List.nil_infix
theorem lns_inf : ∀ (n : Nat) (s : ByteArray), s.size ≤ n → ∀ x ∈ lnsB s, x.1.data.toList <:+: s.data.toList
  | 0, s, h, x, hx => by rw [lnsB_nil (by omega)] at hx; cases hx
  | n + 1, s, h, x, hx => by
    by_cases h0 : s.size = 0
    · rw [lnsB_nil h0] at hx; cases hx
    · have hz := (cut_sizes s crB).2 h0 (by decide)
      rw [lnsB_cons h0] at hx
      rcases List.mem_cons.1 hx with rfl | hx
      · exact cutA_inf s crB
      · exact List.IsInfix.trans (lns_inf n (cutZ s crB) (by omega) x hx) (cutZ_inf s crB)
theorem plB_no {c : Cg} (hc : c.host = h15) {t : ByteArray} (h : ¬ HasH t) : plB c t = t := by
  unfold plB
  rw [if_pos]
  cases he : eqS (cutA t cln) c.host with
  | false => rfl
  | true =>
    exfalso
    apply h
    unfold HasH
    rw [← hc, ← eqS_iff.1 he]
    exact cutA_inf t cln
theorem lnB_no {c : Cg} (hc : c.host = h15) (hm : c.media = []) {l : ByteArray} (h : ¬ HasH l) : lnB c l = l := by
  unfold lnB
  rw [if_neg, if_neg]
  · exact mlB_same (by rw [hm]; intro m hm; cases hm) l
  · rintro ⟨_, e⟩
    apply h
    obtain ⟨t, rfl⟩ := suf_app e
    rw [hc]
    exact ⟨(t ++ omB).data.toList, [], by simp⟩
  · intro e
    apply h
    rw [eqS_iff.1 e, hc]
    exact ⟨cnB.data.toList, [], by simp⟩
theorem rw_other {c : Cg} (hc : c.host = h15) (hm : c.media = []) {st : ByteArray} {hs : List Hr} {zb : List Int} (hB : Mt.By zb) (h1 : ¬ HasH (strOfNums zb)) (h2 : ∀ h ∈ hs, ¬ HasH h.2) : rwHs c st hs zb = hs ∧ rwZb c st hs zb = zb :=
  rw_keep hB (fun x hx => lnB_no hc hm (fun hh => h1 (List.IsInfix.trans hh (lns_inf _ _ (Nat.le_refl _) x hx)))) (fun h hh m e => plB_no hc (fun hq => h2 h hh (List.IsInfix.trans hq (List.IsInfix.trans (ext_inf _ _ _) (cutZ_inf _ _)))))
theorem ad_other : adB 4278124286 = h15 := by decide +kernel
/-- Headers of other names stay. -/
theorem rwHs_other (c : Cg) (st : ByteArray) (hs : List Hr) (zb : List Int) (j : Nat) (h1 : j < hs.length) (h2 : j < (rwHs c st hs zb).length) (hv : swV hs[j].1 viN = false) (hk : swV hs[j].1 ctN = false) (hn : swV hs[j].1 clN = false) : (rwHs c st hs zb)[j] = hs[j] := by
  unfold rwHs
  split
  · unfold mgH vuB
    simp [hv, hk, hn]
  · rfl
theorem low_vi (s : ByteArray) : ((strOfNums (lowZ s)).toList == [118, 105, 97]) = swV s viN := by
  rw [← low_eq, ← str_beq, ByteArray.toList_eq (strOfNums (lowZ viN))]
  congr 1
theorem low_ct (s : ByteArray) : ((strOfNums (lowZ s)).toList == [99, 111, 110, 116, 97, 99, 116]) = swV s ctN := by
  rw [← low_eq, ← str_beq, ByteArray.toList_eq (strOfNums (lowZ ctN))]
  congr 1
theorem low_cn (s : ByteArray) : ((strOfNums (lowZ s)).toList == [99, 111, 110, 116, 101, 110, 116, 45, 108, 101, 110, 103, 116, 104]) = swV s clN := by
  rw [← low_eq, ← str_beq, ByteArray.toList_eq (strOfNums (lowZ clN))]
  congr 1
theorem h15_beq (s : ByteArray) : (s.toList == [50, 53, 52, 46, 50, 53, 52, 46, 50, 53, 52, 46, 50, 53, 52]) = eqS s h15 := by
  rw [← str_beq, ByteArray.toList_eq h15]
  rfl

set_option maxHeartbeats 4000000 in
theorem lhas_any (s : ByteArray) (w : World) (hs : s.size ≤ 140737488355328) :
    Calls Tryd.prog 16 #[.string s] w fun e w' => e = .returned (.bool (hasB s)) ∧ Later w w' := by
  have hs' : (s.size : Int) ≤ 140737488355328 := by omega
  go_enter Tryd.func16, Tryd.ntmps16
  go_upto_region 2 with fail
  go_loopw [3] (fun iv wr => ∃ pos : Nat, pos ≤ s.size + 1 ∧ iv = .int .i64 (pos : Int) ∧ wr = w ∧ Hid (∀ j, j < pos → j + 15 ≤ s.size → eqS (s.extract j (j + 15)) h15 = false)) (fun iv _ => s.size + 2 - (intOf iv).toNat)
  case atStart => exact ⟨0, by omega, rfl, rfl, fun j hj => by omega⟩
  case round =>
    obtain ⟨pos, hp, rfl, rfl, HA⟩ := hrel
    by_cases hlt : pos + 15 ≤ s.size
    · have hlt1 : (pos : Int) + 15 ≤ s.size := by omega
      have hb := h15_beq (s.extract pos (pos + 15))
      have hq1 : (pos : Int) ≤ (pos : Int) + 15 := by omega
      cases hl : eqS (s.extract pos (pos + 15)) h15 with
      | true =>
        have HV : Hid (hasB s = true) := hasB_yes (hasH_at hl)
        rw [hl] at hb
        clear hl HA
        go_wp2_with fail
        go_ret
        exact ⟨by rw [HV.out]; rfl, Later.refl _⟩
      | false =>
        have HN : Hid (∀ j, j < pos + 1 → j + 15 ≤ s.size → eqS (s.extract j (j + 15)) h15 = false) := fun j hj h2 => by
          rcases Nat.lt_or_eq_of_le (Nat.lt_succ_iff.1 hj) with h | rfl
          · exact HA.out j h h2
          · exact hl
        rw [hl] at hb
        clear hl HA
        go_wp2_with fail
        go_roundw
        case rel => exact ⟨pos + 1, by omega, by go_num, by first | trivial | rfl, HN⟩
        case measure => simp [intOf]; omega
    · have hnl : ¬ (pos : Int) + 15 ≤ s.size := by omega
      have HV : Hid (hasB s = false) := hasB_not (hasH_no (fun i hi => HA.out i (by omega) hi))
      go_wp2_with fail
      go_ret
      exact ⟨by rw [HV.out]; rfl, Later.refl _⟩
end Go.Proofs.YtifdocjagnhncabDoor

/- A message whose places are a host's, changed: mathematics. -/
namespace Go.Proofs.YtifdocjagnhncabDoor
open Go.RowKit Go.Shelf
set_option maxRecDepth 100000
set_option linter.unusedVariables false
set_option linter.unusedSimpArgs false

theorem cut_uniq {s p a z : ByteArray} (h : s = a ++ (p ++ z)) (hn : Lib.NoOcc s.data.toList p.data.toList a.size) : cutF s p = true ∧ cutA s p = a ∧ cutZ s p = z := by
  have hl : s.data.toList = a.data.toList ++ (p.data.toList ++ z.data.toList) := by rw [h, ba_app, ba_app]
  have ho : Lib.occAt s.data.toList p.data.toList a.size = true := by
    unfold Lib.occAt
    rw [hl, ba_len, List.drop_left, List.isPrefixOf_iff_prefix]
    exact List.prefix_append _ _
  rcases cut_spec s p with ⟨hf, he, hn'⟩ | ⟨_, _, _, hno⟩
  · have ho' : Lib.occAt s.data.toList p.data.toList (cutA s p).size = true := by
      unfold Lib.occAt
      conv => lhs; arg 2; rw [he]
      rw [ba_len, List.drop_left, List.isPrefixOf_iff_prefix]
      exact List.prefix_append _ _
    have hsz : (cutA s p).size = a.size := by
      rcases Nat.lt_trichotomy (cutA s p).size a.size with h1 | h1 | h1
      · rw [hn _ h1] at ho'; cases ho'
      · exact h1
      · rw [hn' _ h1] at ho; cases ho
    rw [hl] at he
    obtain ⟨e1, e2⟩ := List.append_inj he (by rw [← ba_len, ← ba_len, hsz])
    have e3 := List.append_cancel_left e2
    exact ⟨hf, (ba_ext e1).symm, (ba_ext e3).symm⟩
  · have : a.size ≤ s.size := by rw [h, ByteArray.size_append]; omega
    rw [hno _ this] at ho
    cases ho
theorem noOcc1 {a r : List UInt8} {c : UInt8} (h : c ∉ a) : Lib.NoOcc (a ++ r) [c] a.length := fun j hj => by
  unfold Lib.occAt
  have : a[j] ≠ c := fun e => h (e ▸ List.getElem_mem hj)
  rw [List.drop_append_of_le_length (by omega), List.drop_eq_getElem_cons hj, List.cons_append]
  show ((c == a[j]) && _) = false
  rw [beq_false_of_ne (Ne.symm this)]
  rfl
/-- A text of digits and dots. -/
def DgD (s : ByteArray) : Prop := ∀ u ∈ s.data.toList, (48 ≤ u.toNat ∧ u.toNat ≤ 57) ∨ u.toNat = 46
theorem decB_dgd (n : Nat) : DgD (decB n) := fun u hu => by
  have h1 : (u.toNat : Int) ∈ dg n := by unfold dg nmsB; exact List.mem_map.2 ⟨u, hu, rfl⟩
  have := dgt_rng (dg_dgt n _ h1)
  omega
theorem dgd_app {s t : ByteArray} (hs : DgD s) (ht : DgD t) : DgD (s ++ t) := fun u hu => by
  rw [ba_app] at hu
  rcases List.mem_append.1 hu with h | h
  · exact hs u h
  · exact ht u h
theorem dgd_dot : DgD tDot := fun u hu => by simp [tDot] at hu; subst hu; decide
theorem adB_form (a : Int) : adB a = decB (a / 16777216).toNat ++ (tDot ++ (decB (a / 65536 % 256).toNat ++ (tDot ++ (decB (a / 256 % 256).toNat ++ (tDot ++ decB (a % 256).toNat))))) := by
  apply ba_ext
  unfold adB rowB ad4
  simp only [List.map_cons, List.map_nil, join_two]
  simp [Lib.join]
theorem adB_dgd (a : Int) : DgD (adB a) := by
  rw [adB_form]
  exact dgd_app (decB_dgd _) (dgd_app dgd_dot (dgd_app (decB_dgd _) (dgd_app dgd_dot (dgd_app (decB_dgd _) (dgd_app dgd_dot (decB_dgd _))))))
/-- A place: an address and a port. -/
def plT (h : ByteArray) (p : Nat) : ByteArray := h ++ (cln ++ decB p)
theorem plB_yes {c : Cg} (hd : DgD c.host) {p : Nat} (hp : 1 ≤ p ∧ p ≤ 65535) (he : c.port = (p : Int)) : plB c (plT c.host p) = plT c.is c.np.toNat := by
  obtain ⟨h1, h2, h3⟩ := cut_uniq (s := plT c.host p) (p := cln) (a := c.host) (z := decB p) rfl (by
    show Lib.NoOcc (c.host ++ (cln ++ decB p)).data.toList _ _
    rw [ba_app, ba_len]
    exact noOcc1 (fun hm => by have := hd _ hm; revert this; decide))
  have hpr : prV (decB p) = some (p : Int) := by
    unfold prV
    rw [numV_dg p 65535 (by omega)]
    simp
    omega
  unfold plB
  rw [h1, h2, h3, hpr, if_neg (by rw [eqS_iff.2 rfl]; simp), if_neg (by simp)]
  simp only
  rw [if_pos he.symm, ByteArray.append_assoc]
  rfl
theorem bAt_app1 (s t : ByteArray) (j : Nat) (h : j < s.size) : bAt (s ++ t) j = bAt s j := by
  rw [nmsB_at _ _ (by rw [ByteArray.size_append]; omega), nmsB_at _ _ h, nmsB_app, List.getElem?_append_left (by rw [nmsB_len]; exact h)]
theorem bAt_app2 (s t : ByteArray) (h : 0 < t.size) : bAt (s ++ t) s.size = bAt t 0 := by
  rw [nmsB_at _ _ (by rw [ByteArray.size_append]; omega), nmsB_at _ _ h, nmsB_app, List.getElem?_append_right (by rw [nmsB_len]; exact Nat.le_refl _), nmsB_len, Nat.sub_self]
/-- Digits, dots, a colon: no end of a place. -/
theorem enC_no (ends : ByteArray) (he : ends = enV ∨ ends = enK) (n : Nat) (h : 46 ≤ n ∧ n ≤ 58) : enC ends (n : Int) = false := by
  have h1 : ∀ k : Nat, k < 13 → enC enV ((46 + k : Nat) : Int) = false := by decide +kernel
  have h2 : ∀ k : Nat, k < 13 → enC enK ((46 + k : Nat) : Int) = false := by decide +kernel
  have e : n = 46 + (n - 46) := by omega
  rw [e]
  rcases he with rfl | rfl
  · exact h1 _ (by omega)
  · exact h2 _ (by omega)
theorem plT_bytes {h : ByteArray} (hd : DgD h) (p : Nat) (j : Nat) (hj : j < (plT h p).size) : ∃ n : Nat, bAt (plT h p) j = (n : Int) ∧ 46 ≤ n ∧ n ≤ 58 := by
  refine ⟨((plT h p).get! j).toNat, rfl, ?_⟩
  have hg : (plT h p).get! j ∈ (plT h p).data.toList := by
    simp only [ByteArray.get!]
    rw [getElem!_pos (plT h p).data j hj]
    simp
  unfold plT at hg ⊢
  rw [ba_app, ba_app] at hg
  rcases List.mem_append.1 hg with h1 | h1
  · have := hd _ h1; omega
  · rcases List.mem_append.1 h1 with h1 | h1
    · have h2 : (h ++ (cln ++ decB p)).get! j = 58 := by simpa [cln] using h1
      rw [h2]; decide
    · have := decB_dgd p _ h1; omega
theorem wiB_at {c : Cg} (hd : DgD c.host) {p : Nat} (hp : 1 ≤ p ∧ p ≤ 65535) (he : c.port = (p : Int)) (v a mark ends tail : ByteArray) (hen : ends = enV ∨ ends = enK) (hv : v = a ++ (mark ++ (plT c.host p ++ tail))) (hn : Lib.NoOcc v.data.toList mark.data.toList a.size) (ht : 0 < tail.size) (hte : enC ends (bAt tail 0) = true) : wiB c v mark ends = a ++ (mark ++ (plT c.is c.np.toNat ++ tail)) := by
  obtain ⟨h1, h2, h3⟩ := cut_uniq hv hn
  have hend : endP ends (plT c.host p ++ tail) = (plT c.host p).size := by
    refine endP_at (by rw [ByteArray.size_append]; omega) (by rw [bAt_app2 _ _ ht]; exact hte) (fun j hj => ?_)
    rw [bAt_app1 _ _ _ hj]
    obtain ⟨n, e, hn⟩ := plT_bytes hd p j hj
    rw [e]
    exact enC_no ends hen n hn
  have e1 : (plT c.host p ++ tail).extract 0 (plT c.host p).size = plT c.host p := by
    apply ba_ext
    rw [ba_ext_list, ba_app, ba_len, List.take_left, List.drop_zero]
  have e2 : (plT c.host p ++ tail).extract (plT c.host p).size (plT c.host p ++ tail).size = tail := by
    apply ba_ext
    rw [ba_ext_list, ba_len (plT c.host p ++ tail), List.take_length, ba_app, ba_len, List.drop_left]
  unfold wiB
  rw [h1, h2, h3, if_neg (by simp), hend, e1, e2, plB_yes hd hp he]
  simp only [ByteArray.append_assoc]
theorem allB_nms (q : Int → Bool) (s : ByteArray) : allB q s = (nmsB s).all q := by
  rw [Bool.eq_iff_iff, List.all_eq_true]
  unfold allB
  rw [decide_eq_true_eq]
  constructor
  · intro h z hz
    obtain ⟨i, hi, rfl⟩ := List.getElem_of_mem hz
    have hi' : i < s.size := by rw [← nmsB_len]; exact hi
    have := h i hi'
    rw [nmsB_at s i hi', List.getElem?_eq_getElem hi] at this
    exact this
  · intro h j hj
    have hj' : j < (nmsB s).length := by rw [nmsB_len]; exact hj
    rw [nmsB_at s j hj, List.getElem?_eq_getElem hj']
    exact h _ (List.getElem_mem hj')
theorem dgd_ln {s : ByteArray} (h : DgD s) : (nmsB s).all lnC = true := by
  rw [List.all_eq_true]
  intro z hz
  unfold nmsB at hz
  obtain ⟨u, hu, rfl⟩ := List.mem_map.1 hz
  have := h u hu
  unfold lnC
  simp
  omega

def viS : ByteArray := ⟨#[118, 105, 97]⟩
def coS : ByteArray := ⟨#[67, 79, 78, 84, 65, 67, 84]⟩
def inS : ByteArray := ⟨#[73, 78, 86, 73, 84, 69]⟩
def tlV : ByteArray := ⟨#[59, 120]⟩
def tlC : ByteArray := ⟨#[62]⟩
def pfC : ByteArray := ⟨#[60, 115, 105, 112, 58, 97]⟩
/-- The headers of a message with a place. -/
def hiH (pl : ByteArray) : List Hr := [(viS, mkV ++ (pl ++ tlV)), (coS, pfC ++ (mkC ++ (pl ++ tlC))), (clN, ⟨#[48]⟩)]
theorem plT_ln (a : Int) (p : Nat) : (nmsB (plT (adB a) p)).all lnC = true := by
  unfold plT
  rw [nmsB_app, nmsB_app, List.all_append, List.all_append, dgd_ln (adB_dgd a), dgd_ln (decB_dgd p)]
  decide
theorem plT_size (a : Int) (h : 0 ≤ a ∧ a ≤ 4294967295) (p : Nat) (hp : p ≤ 65535) : (plT (adB a) p).size ≤ 30 := by
  have h1 := adB_size a h
  have h2 := decB_size p hp
  unfold plT
  rw [ByteArray.size_append, ByteArray.size_append]
  have : cln.size = 1 := rfl
  omega
theorem vlB_mid {v a b : ByteArray} {x y : UInt8} {l : List UInt8} {l2 : List UInt8} (h1 : v.data.toList = x :: l) (h2 : v.data.toList = l2 ++ [y]) (hx : x ≠ 32) (hy : y ≠ 32) (hl : (nmsB v).all lnC = true) : vlB v = true := by
  unfold vlB
  rw [allB_nms, hl]
  have e1 : Lib.hasPrefix v.data.toList [32] = false := by
    unfold Lib.hasPrefix
    rw [h1]
    show ((32 == x) && _) = false
    rw [beq_false_of_ne (Ne.symm hx)]
    rfl
  have e2 : Lib.hasSuffix v.data.toList [32] = false := by
    cases hc : Lib.hasSuffix v.data.toList [32] with
    | false => rfl
    | true =>
      unfold Lib.hasSuffix at hc
      rw [List.isSuffixOf_iff_suffix, h2] at hc
      obtain ⟨t, ht⟩ := hc
      have := (List.append_inj' ht rfl).2
      simp only [List.cons.injEq, and_true] at this
      exact absurd this.symm hy
  rw [e1, e2]
  rfl
theorem hi_right (a : Int) (h : 0 ≤ a ∧ a ≤ 4294967295) (p : Nat) (hp : p ≤ 65535) : rgB inS (hiH (plT (adB a) p)) 0 = true := by
  have hps := plT_size a h p hp
  have hln := plT_ln a p
  generalize plT (adB a) p = pl at *
  have e1 : vlB (mkV ++ (pl ++ tlV)) = true := by
    refine vlB_mid (a := pl) (b := pl) (x := 83) (y := 120) (l := [73, 80, 47, 50, 46, 48, 47, 85, 68, 80, 32] ++ (pl.data.toList ++ [59, 120])) (l2 := mkV.data.toList ++ (pl.data.toList ++ [59])) ?_ ?_ (by decide) (by decide) ?_
    · rw [ba_app, ba_app]; rfl
    · rw [ba_app, ba_app]; simp [tlV]
    · rw [nmsB_app, nmsB_app, List.all_append, List.all_append, hln]; decide
  have e2 : vlB (pfC ++ (mkC ++ (pl ++ tlC))) = true := by
    refine vlB_mid (a := pl) (b := pl) (x := 60) (y := 62) (l := [115, 105, 112, 58, 97] ++ (mkC.data.toList ++ (pl.data.toList ++ [62]))) (l2 := pfC.data.toList ++ (mkC.data.toList ++ pl.data.toList)) ?_ ?_ (by decide) (by decide) ?_
    · rw [ba_app, ba_app, ba_app]; rfl
    · rw [ba_app, ba_app, ba_app]; simp [tlC]
    · rw [nmsB_app, nmsB_app, nmsB_app, List.all_append, List.all_append, List.all_append, hln]; decide
  have n1 : allN nmC viS = true := by decide +kernel
  have n2 : allN nmC coS = true := by decide +kernel
  have n3 : okh 0 (clN, ⟨#[48]⟩) = true := by decide +kernel
  have s1 : swV viS clN = false := by decide +kernel
  have s2 : swV coS clN = false := by decide +kernel
  have s3 : swV clN clN = true := by decide +kernel
  have hst : allB lnC inS = true := by decide +kernel
  have o1 : okh 0 (viS, mkV ++ (pl ++ tlV)) = true := by unfold okh; rw [n1, e1, s1]; rfl
  have o2 : okh 0 (coS, pfC ++ (mkC ++ (pl ++ tlC))) = true := by unfold okh; rw [n2, e2, s2]; rfl
  have hs : szM inS (hiH pl) 0 ≤ 4096 := by
    unfold szM hsz hiH
    simp only [List.map_cons, List.map_nil, List.sum_cons, List.sum_nil, ByteArray.size_append]
    have z1 : viS.size = 3 := rfl
    have z2 : coS.size = 7 := rfl
    have z3 : clN.size = 14 := rfl
    have z4 : mkV.size = 12 := rfl
    have z5 : tlV.size = 2 := rfl
    have z6 : pfC.size = 6 := rfl
    have z7 : mkC.size = 1 := rfl
    have z8 : tlC.size = 1 := rfl
    have z9 : inS.size = 6 := rfl
    have z0 : ByteArray.size ⟨#[48]⟩ = 1 := rfl
    omega
  unfold rgB rhB
  rw [hst, decide_eq_true hs]
  have ha : (hiH pl).all (okh 0) = true := by unfold hiH; simp only [List.all_cons, List.all_nil, o1, o2, n3]; rfl
  have hc : (hiH pl).countP (fun h => swV h.1 clN) = 1 := by unfold hiH; simp [List.countP_cons, s1, s2, s3]
  rw [ha, hc]
  rfl
/-- Rewritten it names the other place. -/
theorem hi_math (h t : Int) (p q : Nat) (hh : 0 ≤ h ∧ h ≤ 4294967295) (ht : 0 ≤ t ∧ t ≤ 4294967295) (hp : 1 ≤ p ∧ p ≤ 65535) (hq : q ≤ 65535) : rwHs (cgOf h t (p : Int) (q : Int) []) inS (hiH (plT (adB h) p)) [] = hiH (plT (adB t) q) := by
  have hb : bdB (cgOf h t (p : Int) (q : Int) []) (strOfNums []) = ⟨#[]⟩ := by unfold bdB; rw [lnsB_nil rfl]; rfl
  have hw1 := wiB_at (c := cgOf h t (p : Int) (q : Int) []) (adB_dgd h) hp rfl (mkV ++ (plT (adB h) p ++ tlV)) ⟨#[]⟩ mkV enV tlV (.inl rfl) (by rw [bnil_app]; rfl) (fun j hj => absurd hj (Nat.not_lt_zero j)) (by decide) (by decide +kernel)
  have hw2 := wiB_at (c := cgOf h t (p : Int) (q : Int) []) (adB_dgd h) hp rfl (pfC ++ (mkC ++ (plT (adB h) p ++ tlC))) pfC mkC enK tlC (.inr rfl) rfl (by rw [ba_app]; exact noOcc1 (by decide)) (by decide) (by decide +kernel)
  rw [bnil_app] at hw1
  have hm : mgH (cgOf h t (p : Int) (q : Int) []) 0 (hiH (plT (adB h) p)) = hiH (plT (adB t) q) := by
    have s1 : swV viS viN = true := by decide +kernel
    have s2 : swV coS viN = false := by decide +kernel
    have s3 : swV coS ctN = true := by decide +kernel
    have s4 : swV clN viN = false := by decide +kernel
    have s5 : swV clN ctN = false := by decide +kernel
    have s6 : swV clN clN = true := by decide +kernel
    have s7 : decB 0 = ⟨#[48]⟩ := by decide +kernel
    unfold mgH hiH vuB
    simp only [List.map_cons, List.map_nil, s1, s2, s3, s4, s5, s6, s7, if_true, Bool.false_eq_true, if_false, hw1, hw2]
    rfl
  unfold rwHs rwOk
  rw [hb, show ByteArray.size ⟨#[]⟩ = 0 from rfl, hm]
  have r1 := hi_right h hh p (by omega)
  have r2 := hi_right t ht q hq
  rw [show ([] : List Int).length = 0 from rfl, r1, r2]
  rfl
end Go.Proofs.YtifdocjagnhncabDoor

/- The laws' digits, dotted; the walk of SipHides. -/
namespace Go.Proofs.YtifdocjagnhncabDoor
open Go.RowKit Go.Shelf
set_option maxRecDepth 100000
set_option linter.unusedVariables false
set_option linter.unusedSimpArgs false

/-- A number as the document writes it. -/
def LDigsAt (n : Nat) : Prop := ∀ w : World, Calls Tryd.prog 13 #[.int .i64 (n : Int)] w fun e w' => e = .returned (.string (decB n)) ∧ Later w w'

set_option maxRecDepth 100000 in
set_option maxHeartbeats 8000000 in
theorem ldigits_step (n : Nat) (hn : n ≤ 9223372036854775807) (hi : 10 ≤ n → LDigsAt (n / 10)) : LDigsAt n := by
  intro w
  have hn' : (n : Int) ≤ 9223372036854775807 := by omega
  by_cases h10 : n < 10
  · have h1 : (n : Int) < 10 := by omega
    have HV := hide (decB_small h10)
    go_enter Tryd.func13, Tryd.ntmps13
    have hcv := conv_rd 23 9 5 Tryd.underlying23 Tryd.underlying5 Tryd.underlying9 (rd_one w (48 + (n : Int)))
    generalize hrs : strOfNums [48 + (n : Int)] = rs at *
    go_wp2_with fail
    go_ret
    exact ⟨by rw [HV.out]; rfl, later_allocR _ _⟩
  · have h1 : ¬ (n : Int) < 10 := by omega
    have HV := hide (decB_big (n := n) (by omega))
    have HI := hide (hi (by omega))
    have hds : (decB (n / 10)).size ≤ 20 := decB_len _ (by omega)
    go_enter Tryd.func13, Tryd.ntmps13
    go_upto_region 3 with fail
    refine anyR_begin (R := Later) Later.pre Later.drew 11 rfl (by kernel_rfl) (fun V0 hV0 => ?_)
    refine anyR_val Later.pre 0 rfl (by kernel_rfl) (by kernel_rfl) (by kernel_rfl) (fun _ _ _ _ h => h) rfl ?_; apply Exists.intro; refine ⟨fun v1 hv1 => ?_, ?_⟩; (· (go_simp; rfl)); simp only [Act.put, List.setIfInBounds_toArray, List.set_cons_zero, List.set_cons_succ]
    refine anyR_val Later.pre 3 rfl (by kernel_rfl) (by kernel_rfl) (by kernel_rfl) (fun _ _ _ _ h => h) rfl ?_; apply Exists.intro; refine ⟨fun v1 hv1 => ?_, ?_⟩; (· (go_simp; rfl)); simp only [Act.put, List.setIfInBounds_toArray, List.set_cons_zero, List.set_cons_succ]
    refine anyR_val Later.pre 1 rfl (by kernel_rfl) (by kernel_rfl) (by kernel_rfl) (fun _ _ _ _ h => h) rfl ?_; apply Exists.intro; refine ⟨fun v1 hv1 => ?_, ?_⟩; (· (go_simp; rfl)); simp only [Act.put, List.setIfInBounds_toArray, List.set_cons_zero, List.set_cons_succ]
    refine anyR_val Later.pre 4 rfl (by kernel_rfl) (by kernel_rfl) (by kernel_rfl) (fun _ _ _ _ h => h) rfl ?_; apply Exists.intro; refine ⟨fun v1 hv1 => ?_, ?_⟩; (· (go_simp; rfl)); simp only [Act.put, List.setIfInBounds_toArray, List.set_cons_zero, List.set_cons_succ]
    have e1 : IntKind.i64.wrap ((n : Int) / 10) = ((n / 10 : Nat) : Int) := by
      have h : (n : Int) / 10 = ((n / 10 : Nat) : Int) := by omega
      rw [h]
      exact wrI (by omega) (by omega)
    have e2 : (n : Int).tmod 10 = ((n % 10 : Nat) : Int) := by rw [Int.tmod_eq_emod_of_nonneg (by omega)]; omega
    simp only [e1, e2]
    clear e1 e2
    have hm9 : n % 10 ≤ 9 := by omega
    generalize n % 10 = r at *
    generalize n / 10 = q at *
    have hm9' : (r : Int) ≤ 9 := by omega
    refine anyR_take Later.pre 2 (.string (decB q)) rfl (by kernel_rfl) (by kernel_rfl) (by kernel_rfl) (fun _ _ _ h => h) rfl (fun u hu => goes_call 13 #[.int .i64 (q : Int)] (by go_simp) (HI.out u)) ?_
    simp only [Act.put, List.setIfInBounds_toArray, List.set_cons_zero, List.set_cons_succ]
    refine anyR_val Later.pre 5 rfl (by kernel_rfl) (by kernel_rfl) (by kernel_rfl) (fun _ _ _ _ h => h) rfl ?_; apply Exists.intro; refine ⟨fun v1 hv1 => ?_, ?_⟩; (· (go_simp; rfl)); simp only [Act.put, List.setIfInBounds_toArray, List.set_cons_zero, List.set_cons_succ]
    refine anyR_val Later.pre 6 rfl (by kernel_rfl) (by kernel_rfl) (by kernel_rfl) (fun _ _ _ _ h => h) rfl ?_; apply Exists.intro; refine ⟨fun v1 hv1 => ?_, ?_⟩; (· (go_simp; rfl)); simp only [Act.put, List.setIfInBounds_toArray, List.set_cons_zero, List.set_cons_succ]
    simp only [wrI (x := 48 + (r : Int)) (by omega) (by omega), wrB (x := 48 + (r : Int)) (by omega) (by omega)]
    refine anyR_one 7 rfl (by kernel_rfl) rfl (fun V1 hV1 => ?_)
    unfold Oper.wp
    go_simp
    have l2 := later_allocR V1 (.cells #[.int .u8 (48 + (r : Int))] 5)
    have HR := hide (rd_one V1 (48 + (r : Int)))
    refine ⟨l2, ?_⟩
    change wpAnyR _ _ _ _ _ _ _ _ (V1.alloc (.cells #[.int .u8 (48 + (r : Int))] 5))
    generalize V1.alloc (.cells #[.int .u8 (48 + (r : Int))] 5) = V2 at *
    have qc : ∀ u, Later V2 u → (convert 23 9 (.slice (some ⟨V1.heap.size, 0, none⟩) 1 1)).run Tryd.prog u = .ok (.string (strOfNums [48 + (r : Int)])) u := fun u hu => conv_rd 23 9 5 Tryd.underlying23 Tryd.underlying5 Tryd.underlying9 (HR.out.later hu)
    have hss : (strOfNums [48 + (r : Int)]).size = 1 := strOfNums_size _
    have hss2 : (strOfNums [48 + (r : Int)]).size ≤ 1 := by omega
    clear hss
    generalize strOfNums [48 + (r : Int)] = rs at *
    generalize V1.heap.size = g1 at *
    generalize decB q = dq at *
    refine anyR_val Later.pre 8 rfl (by kernel_rfl) (by kernel_rfl) (by kernel_rfl) (fun _ _ _ _ h => h) rfl ?_; apply Exists.intro; refine ⟨fun v1 hv1 => ?_, ?_⟩; (· (go_simp; rfl)); simp only [Act.put, List.setIfInBounds_toArray, List.set_cons_zero, List.set_cons_succ]
    clear qc
    refine anyR_val Later.pre 9 rfl (by kernel_rfl) (by kernel_rfl) (by kernel_rfl) (fun _ _ _ _ h => h) rfl ⟨.string (dq ++ rs), fun v1 hv1 => (by go_simp; omega), ?_⟩; simp only [Act.put, List.setIfInBounds_toArray, List.set_cons_zero, List.set_cons_succ]
    refine anyR_val Later.pre 10 rfl (by kernel_rfl) (by kernel_rfl) (by kernel_rfl) (fun _ _ _ _ h => h) rfl ?_; apply Exists.intro; refine ⟨fun v1 hv1 => ?_, ?_⟩; (· (go_simp; rfl)); simp only [Act.put, List.setIfInBounds_toArray, List.set_cons_zero, List.set_cons_succ]
    refine anyR_done (by kernel_rfl) (fun V9 hV9 => ?_)
    have L9 : Later w V9 := hV0.trans (hV1.trans (l2.trans hV9))
    go_wp2_with fail
    go_ret
    exact ⟨by rw [HV.out]; rfl, L9⟩
theorem ldigits_any (n : Nat) (hn : n ≤ 9223372036854775807) : LDigsAt n := by
  induction n using Nat.strongRecOn with
  | ind n ih => exact ldigits_step n hn (fun h => ih (n / 10) (by omega) (by omega))

theorem and255 {x : Int} (h₀ : 0 ≤ x) (h₁ : x < 4294967296) : bits .and .u32 x 255 = x % 256 := by first | exact bits_mask .u32 32 (by decide) wraps_u32 8 (by decide) x h₀ h₁ | go_bits2
theorem ldigI (z : Int) (h : 0 ≤ z ∧ z ≤ 65535) (w : World) : Calls Tryd.prog 13 #[.int .i64 z] w fun e w' => e = .returned (.string (decB z.toNat)) ∧ Later w w' := by
  have := ldigits_any z.toNat (by omega) w
  rwa [Int.toNat_of_nonneg h.1] at this

set_option maxRecDepth 100000 in
set_option maxHeartbeats 4000000 in
theorem ldotted_any (a : Int) (h : 0 ≤ a ∧ a ≤ 4294967295) (w : World) :
    Calls Tryd.prog 12 #[.int .u32 a] w fun e w' => e = .returned (.string (adB a)) ∧ Later w w' := by
  obtain ⟨h0, h1⟩ := h
  have HV := hide (adB_form a)
  have s1 := decB_size (a / 16777216).toNat (by omega)
  have s2 := decB_size (a / 65536 % 256).toNat (by omega)
  have s3 := decB_size (a / 256 % 256).toNat (by omega)
  have s4 := decB_size (a % 256).toNat (by omega)
  have H1 := hide (fun w => ldigI (a / 16777216) (by omega) w)
  have H2 := hide (fun w => ldigI (a / 65536 % 256) (by omega) w)
  have H3 := hide (fun w => ldigI (a / 256 % 256) (by omega) w)
  have H4 := hide (fun w => ldigI (a % 256) (by omega) w)
  generalize decB (a / 16777216).toNat = d1 at *
  generalize decB (a / 65536 % 256).toNat = d2 at *
  generalize decB (a / 256 % 256).toNat = d3 at *
  generalize decB (a % 256).toNat = d4 at *
  have m2 : bits .and .u32 (a / 65536) 255 = a / 65536 % 256 := and255 (by omega) (by omega)
  have m3 : bits .and .u32 (a / 256) 255 = a / 256 % 256 := and255 (by omega) (by omega)
  have m4 : bits .and .u32 a 255 = a % 256 := and255 (by omega) (by omega)
  have b2 : 0 ≤ a / 65536 % 256 ∧ a / 65536 % 256 ≤ 255 := by omega
  have b3 : 0 ≤ a / 256 % 256 ∧ a / 256 % 256 ≤ 255 := by omega
  have b4 : 0 ≤ a % 256 ∧ a % 256 ≤ 255 := by omega
  go_enter Tryd.func12, Tryd.ntmps12
  go_wp2_with fail
  refine (H1.out w).mono ?_
  rintro e w1 ⟨rfl, l1⟩
  go_wp2_with fail
  refine (H2.out w1).mono ?_
  rintro e w2 ⟨rfl, l2⟩
  go_wp2_with fail
  refine (H3.out w2).mono ?_
  rintro e w3 ⟨rfl, l3⟩
  go_wp2_with fail
  refine (H4.out w3).mono ?_
  rintro e w4 ⟨rfl, l4⟩
  go_wp2_with fail
  go_ret
  refine ⟨?_, Later.trans l1 (l2.trans (l3.trans l4))⟩
  rw [HV.out]
  show Ending.returned (.string (d1 ++ tDot ++ d2 ++ tDot ++ d3 ++ tDot ++ d4)) = _
  simp only [ByteArray.append_assoc]
end Go.Proofs.YtifdocjagnhncabDoor

/- The walk of SipHides. -/
namespace Go.Proofs.YtifdocjagnhncabDoor
open Go.RowKit Go.Shelf
set_option maxRecDepth 100000
set_option linter.unusedVariables false
set_option linter.unusedSimpArgs false

def pfA : ByteArray := ⟨#[60, 115, 105, 112, 58, 97, 64]⟩
def hiL (pl : ByteArray) : List Hr := [(viS, mkV ++ pl ++ tlV), (coS, pfA ++ pl ++ tlC), (clN, ⟨#[48]⟩)]
theorem hiL_eq (pl : ByteArray) : hiL pl = hiH pl := by
  unfold hiL hiH
  rw [ByteArray.append_assoc, show pfA = pfC ++ mkC from by decide +kernel, ByteArray.append_assoc, ByteArray.append_assoc]
theorem hiL_math (h t p q : Int) (hh : 0 ≤ h ∧ h ≤ 4294967295) (ht : 0 ≤ t ∧ t ≤ 4294967295) (hp : 1 ≤ p ∧ p ≤ 65535) (hq : 0 ≤ q ∧ q ≤ 65535) : rwHs (cgOf h t p q []) inS (hiL (adB h ++ cln ++ decB p.toNat)) [] = hiL (adB t ++ cln ++ decB q.toNat) := by
  have := hi_math h t p.toNat q.toNat hh ht (by omega) (by omega)
  rw [Int.toNat_of_nonneg (by omega), Int.toNat_of_nonneg (by omega)] at this
  rw [hiL_eq, hiL_eq, ByteArray.append_assoc, ByteArray.append_assoc]
  exact this
theorem hiL_len (pl : ByteArray) : (hiL pl).length = 3 := rfl
theorem hiL_sz (pl : ByteArray) (h : pl.size ≤ 40) : szM inS (hiL pl) ([] : List Int).length ≤ 9000000000000000000 := by
  rw [List.length_nil]
  unfold szM hsz hiL
  simp only [List.map_cons, List.map_nil, List.sum_cons, List.sum_nil, ByteArray.size_append]
  have z1 : viS.size = 3 := rfl
  have z2 : coS.size = 7 := rfl
  have z3 : clN.size = 14 := rfl
  have z4 : mkV.size = 12 := rfl
  have z5 : tlV.size = 2 := rfl
  have z6 : pfA.size = 7 := rfl
  have z8 : tlC.size = 1 := rfl
  have z9 : inS.size = 6 := rfl
  have z0 : ByteArray.size ⟨#[48]⟩ = 1 := rfl
  omega

set_option maxRecDepth 100000 in
set_option maxHeartbeats 8000000 in
theorem walk_SipHides (w : World) (hT : TabI w) (hM : TabM w) (h : Int) (hh : 0 ≤ h ∧ h ≤ 4294967295) (t : Int) (ht : 0 ≤ t ∧ t ≤ 4294967295) (p : Int) (hp : 0 ≤ p ∧ p ≤ 65535) (q : Int) (hq : 0 ≤ q ∧ q ≤ 65535) :
    Calls Tryd.prog 4 #[.int .u32 h, .int .u32 t, .agg #[.int .u16 p, .int .u16 q]] w fun e w' => e = .returned (.bool true) ∧ Below w.heap.size w w' := by
  have HL := hide (fun W (l : Later w W) => live14_any W (hT.later l) (hM.later l))
  have l0 : Later w (w.alloc (.cells #[.int .u16 p, .int .u16 q] 42)) := later_allocR _ _
  have C0 := hide (heap_alloc_new w (.cells #[.int .u16 p, .int .u16 q] 42))
  go_enter Tryd.func4, Tryd.ntmps4
  go_upto_region 1 with fail
  generalize w.alloc _ = w0 at *
  generalize w.heap.size = gp at C0 ⊢
  have k0 := block_cell C0.out
  by_cases h1 : h = t
  · subst h1
    go_wp2_with fail
    refine (HL.out w0 l0).mono ?_
    rintro e w1 ⟨rfl, l1⟩
    go_wp2_with fail
    go_ret
    exact ⟨rfl, Later.trans l0 l1⟩
  have h1b : (h == t) = false := by simpa using h1
  by_cases h2 : p = 0
  · subst h2
    go_wp2_with fail
    refine (HL.out w0 l0).mono ?_
    rintro e w1 ⟨rfl, l1⟩
    go_wp2_with fail
    go_ret
    exact ⟨rfl, Later.trans l0 l1⟩
  have h2b : (p == 0) = false := by simpa using h2
  by_cases h3 : q = 0
  · subst h3
    go_wp2_with fail
    refine (HL.out w0 l0).mono ?_
    rintro e w1 ⟨rfl, l1⟩
    go_wp2_with fail
    go_ret
    exact ⟨rfl, Later.trans l0 l1⟩
  have h3b : (q == 0) = false := by simpa using h3
  have HMT := hide (hiL_math h t p q hh ht (by omega) hq)
  unfold cln at HMT
  have z1 := adB_size h hh
  have z2 := adB_size t ht
  have z3 := decB_size p.toNat (by omega)
  have z4 := decB_size q.toNat (by omega)
  have HSZ := hide (hiL_sz (adB h ++ ⟨#[58]⟩ ++ decB p.toNat) (by rw [ByteArray.size_append, ByteArray.size_append]; have : ByteArray.size ⟨#[58]⟩ = 1 := rfl; omega))
  have HD1 := hide (fun u => ldotted_any h hh u)
  have HD2 := hide (fun u => ldotted_any t ht u)
  have HP1 := hide (fun u => ldigI p hp u)
  have HP2 := hide (fun u => ldigI q hq u)
  have hzero : ([] : List Int).length ≤ 140737488355328 := Nat.zero_le _
  have key := fun (hp2 : List Hr) (hlen : hp2.length ≤ 5000) (hsz2 : szM inS hp2 ([] : List Int).length ≤ 9000000000000000000) (W : World) (sv2 : Value) (l : Later w W) (hI2 : RdM W.heap.size W sv2 hp2) => rewrite14_any h t p q [] (.slice none 0 0) inS sv2 (.slice none 0 0) hp2 [] W (hT.later l) (hM.later l) hh ht (cg_wf hh ht hp hq (fun m hm => by cases hm)) (Or.inl ⟨none, 0, rfl, rfl, Nat.zero_le _⟩) hI2 (Or.inl ⟨none, 0, rfl, rfl, Nat.zero_le _, fun _ => rfl⟩) hzero hlen hsz2
  have hl3 : ∀ pl, (hiL pl).length ≤ 5000 := fun pl => by rw [hiL_len]; omega
  have hl4 := hl3 (adB h ++ ⟨#[58]⟩ ++ decB p.toNat)
  generalize hhL : hiL (adB h ++ ⟨#[58]⟩ ++ decB p.toNat) = hL at HMT HSZ hl4
  have HHL := hide hhL
  clear hhL
  have HRW := hide (key hL hl4 HSZ.out)
  clear key hl3 hzero hl4
  rw [HMT.out] at HRW
  clear HMT HSZ
  generalize rwZb (cgOf h t p q []) inS hL [] = rz at *
  generalize decB p.toNat = dp at *
  generalize decB q.toNat = dq at *
  generalize adB h = ah at *
  generalize adB t = at2 at *
  have hcl : ByteArray.size ⟨#[58]⟩ = 1 := rfl
  go_upto_region 3 with fail
  clear k0 h1b h2b h3b h1 h2 h3
  refine anyR_begin (R := Later) Later.pre Later.drew 9 rfl (by kernel_rfl) (fun V0 hV0 => ?_); have kB : ∀ v, Later V0 v → ∀ j, v.cell? ⟨gp, j, none⟩ = #[Value.int .u16 p, .int .u16 q][j]? := (fun v hv => block_cell (later_keep (hV0.trans hv) C0.out)); refine anyR_val Later.pre 0 rfl (by kernel_rfl) (by kernel_rfl) (by kernel_rfl) (fun _ _ _ _ h => h) rfl ?_; apply Exists.intro; refine ⟨fun v1 hv1 => ?_, ?_⟩; (· (go_simp; rfl)); simp only [Act.put, List.setIfInBounds_toArray, List.set_cons_zero, List.set_cons_succ]; refine anyR_take Later.pre 1 (.string ah) rfl (by kernel_rfl) (by kernel_rfl) (by kernel_rfl) (fun _ _ _ h => h) rfl (fun u hu => goes_call 12 #[.int .u32 h] (by go_simp) (HD1.out u)) ?_; simp only [Act.put, List.setIfInBounds_toArray, List.set_cons_zero, List.set_cons_succ]; refine anyR_val Later.pre 2 rfl (by kernel_rfl) (by kernel_rfl) (by kernel_rfl) (fun _ _ _ _ h => h) rfl ⟨.string (ah ++ ⟨#[58]⟩), fun v1 hv1 => (by go_simp; omega), ?_⟩; simp only [Act.put, List.setIfInBounds_toArray, List.set_cons_zero, List.set_cons_succ]; refine anyR_val Later.pre 3 rfl (by kernel_rfl) (by kernel_rfl) (by kernel_rfl) (fun _ _ _ _ h => h) rfl ?_; apply Exists.intro; refine ⟨fun v1 hv1 => ?_, ?_⟩; (· (go_simp; rfl)); simp only [Act.put, List.setIfInBounds_toArray, List.set_cons_zero, List.set_cons_succ]; refine anyR_val Later.pre 4 rfl (by kernel_rfl) (by kernel_rfl) (by kernel_rfl) (fun _ _ _ _ h => h) rfl ?_; apply Exists.intro; refine ⟨fun v1 hv1 => ?_, ?_⟩; (· (go_simp; rfl)); simp only [Act.put, List.setIfInBounds_toArray, List.set_cons_zero, List.set_cons_succ]; refine anyR_val Later.pre 5 rfl (by kernel_rfl) (by kernel_rfl) (by kernel_rfl) (fun _ _ _ _ h => h) rfl ?_; apply Exists.intro; refine ⟨fun v1 hv1 => ?_, ?_⟩; (· (go_simp; rfl)); simp only [Act.put, List.setIfInBounds_toArray, List.set_cons_zero, List.set_cons_succ]; simp only [wrI (x := p) (by omega) (by omega)]; refine anyR_take Later.pre 6 (.string dp) rfl (by kernel_rfl) (by kernel_rfl) (by kernel_rfl) (fun _ _ _ h => h) rfl (fun u hu => goes_call 13 #[.int .i64 p] (by go_simp) (HP1.out u)) ?_; simp only [Act.put, List.setIfInBounds_toArray, List.set_cons_zero, List.set_cons_succ]; refine anyR_val Later.pre 7 rfl (by kernel_rfl) (by kernel_rfl) (by kernel_rfl) (fun _ _ _ _ h => h) rfl ⟨.string (ah ++ ⟨#[58]⟩ ++ dp), fun v1 hv1 => (by go_simp; omega), ?_⟩; simp only [Act.put, List.setIfInBounds_toArray, List.set_cons_zero, List.set_cons_succ]; refine anyR_val Later.pre 8 rfl (by kernel_rfl) (by kernel_rfl) (by kernel_rfl) (fun _ _ _ _ h => h) rfl ?_; apply Exists.intro; refine ⟨fun v1 hv1 => ?_, ?_⟩; (· (go_simp; rfl)); simp only [Act.put, List.setIfInBounds_toArray, List.set_cons_zero, List.set_cons_succ]; clear kB; refine anyR_done (by kernel_rfl) (fun V9 hV9 => ?_)
  have L9 := Later.trans l0 (hV0.trans hV9)
  have C9 := hide (later_keep (hV0.trans hV9) C0.out)
  have zpl : (ah ++ ⟨#[58]⟩ ++ dp).size ≤ 40 := by rw [ByteArray.size_append, ByteArray.size_append]; omega
  have zpn : (at2 ++ ⟨#[58]⟩ ++ dq).size ≤ 40 := by rw [ByteArray.size_append, ByteArray.size_append]; omega
  clear hV0 hV9 C0
  go_upto_region 4 with fail
  generalize hpl : ah ++ ⟨#[58]⟩ ++ dp = pl at *
  have HPL := hide hpl
  clear hpl
  have hH0 := hide ((rdH_made V9 (hiL pl) (by show 3 ≤ 1000; decide)).later (later_allocR _ (.cells #[.string inS, .slice (some ⟨V9.heap.size, 0, none⟩) 3 3, .slice none 0 0] 25)))
  have l1 : Later V9 ((V9.alloc (.cells (hrs (hiL pl)).toArray 34)).alloc (.cells #[.string inS, .slice (some ⟨V9.heap.size, 0, none⟩) 3 3, .slice none 0 0] 25)) := ((Below.refl _ _).alloc (Nat.le_refl _) _).alloc (by simp) _
  have D8 := hide (heap_alloc_new (V9.alloc (.cells (hrs (hiL pl)).toArray 34)) (.cells #[.string inS, .slice (some ⟨V9.heap.size, 0, none⟩) 3 3, .slice none 0 0] 25))
  rw [World.size_alloc] at D8
  go_upto_region 5 with fail
  change Code.wp _ _ _ _ ((V9.alloc (.cells (hrs (hiL pl)).toArray 34)).alloc (.cells #[.string inS, .slice (some ⟨V9.heap.size, 0, none⟩) 3 3, .slice none 0 0] 25))
  generalize (V9.alloc (.cells (hrs (hiL pl)).toArray 34)).alloc (.cells #[.string inS, .slice (some ⟨V9.heap.size, 0, none⟩) 3 3, .slice none 0 0] 25) = w1 at *
  generalize V9.heap.size = gh at *
  have hH1 : RdM w1.heap.size w1 (.slice (some ⟨gh, 0, none⟩) 3 3) (hiL pl) := hH0.out
  rw [HHL.out] at hH1
  have HH1 := hide hH1
  clear hH1 hH0
  have L1 : Later w w1 := L9.trans l1
  have C1 := hide (later_keep l1 C9.out)
  simp only [hiL_len] at HRW
  have HR1 := hide (HRW.out w1 _ L1 HH1.out)
  have k8 := block_cell D8.out
  have kp := block_cell C1.out
  clear HRW
  unfold inS at k8
  go_wp2_with fail
  refine HR1.out.mono ?_
  rintro e w2 ⟨l2, vh, vb, rfl, hrow, hO⟩
  obtain ⟨va, vc, rfl⟩ := owns_form hrow
  obtain ⟨xa, xc, rfl, _, _⟩ := hO.slice
  clear k8 kp HR1
  generalize hpn : at2 ++ ⟨#[58]⟩ ++ dq = pn at *
  have HPN := hide hpn
  clear hpn
  have la := later_allocR w2 (.cells #[.string inS, .slice va 3 vc, .slice xa rz.length xc] 25)
  have D9 := hide (heap_alloc_new w2 (.cells #[.string inS, .slice va 3 vc, .slice xa rz.length xc] 25))
  have hrow' : w2.ownsRow w1.heap.size 34 2 (.slice va 3 vc) (hiL pn).length (hrs (hiL pn)) := hrow
  have HA := hide ((ownM_rd hrow').later la)
  clear hrow hrow' hO
  go_upto_region 6 with fail
  have L3 : Later w (w2.alloc (.cells #[.string inS, .slice va 3 vc, .slice xa rz.length xc] 25)) := L1.trans (Later.trans l2 la)
  have C3 := hide (later_keep (Later.trans l2 la) C1.out)
  change Code.wp _ _ _ _ (w2.alloc (.cells #[.string inS, .slice va 3 vc, .slice xa rz.length xc] 25))
  generalize w2.alloc (.cells #[.string inS, .slice va 3 vc, .slice xa rz.length xc] 25) = w3 at *
  generalize w2.heap.size = g9 at *
  clear l2 la D8 C1 C9 l1
  refine anyR_begin (R := Later) Later.pre Later.drew 9 rfl (by kernel_rfl) (fun V0 hV0 => ?_); have kB : ∀ v, Later V0 v → ∀ j, v.cell? ⟨gp, j, none⟩ = #[Value.int .u16 p, .int .u16 q][j]? := (fun v hv => block_cell (later_keep (hV0.trans hv) C3.out)); refine anyR_val Later.pre 0 rfl (by kernel_rfl) (by kernel_rfl) (by kernel_rfl) (fun _ _ _ _ h => h) rfl ?_; apply Exists.intro; refine ⟨fun v1 hv1 => ?_, ?_⟩; (· (go_simp; rfl)); simp only [Act.put, List.setIfInBounds_toArray, List.set_cons_zero, List.set_cons_succ]; refine anyR_take Later.pre 1 (.string at2) rfl (by kernel_rfl) (by kernel_rfl) (by kernel_rfl) (fun _ _ _ h => h) rfl (fun u hu => goes_call 12 #[.int .u32 t] (by go_simp) (HD2.out u)) ?_; simp only [Act.put, List.setIfInBounds_toArray, List.set_cons_zero, List.set_cons_succ]; refine anyR_val Later.pre 2 rfl (by kernel_rfl) (by kernel_rfl) (by kernel_rfl) (fun _ _ _ _ h => h) rfl ⟨.string (at2 ++ ⟨#[58]⟩), fun v1 hv1 => (by go_simp; omega), ?_⟩; simp only [Act.put, List.setIfInBounds_toArray, List.set_cons_zero, List.set_cons_succ]; refine anyR_val Later.pre 3 rfl (by kernel_rfl) (by kernel_rfl) (by kernel_rfl) (fun _ _ _ _ h => h) rfl ?_; apply Exists.intro; refine ⟨fun v1 hv1 => ?_, ?_⟩; (· (go_simp; rfl)); simp only [Act.put, List.setIfInBounds_toArray, List.set_cons_zero, List.set_cons_succ]; refine anyR_val Later.pre 4 rfl (by kernel_rfl) (by kernel_rfl) (by kernel_rfl) (fun _ _ _ _ h => h) rfl ?_; apply Exists.intro; refine ⟨fun v1 hv1 => ?_, ?_⟩; (· (go_simp; rfl)); simp only [Act.put, List.setIfInBounds_toArray, List.set_cons_zero, List.set_cons_succ]; refine anyR_val Later.pre 5 rfl (by kernel_rfl) (by kernel_rfl) (by kernel_rfl) (fun _ _ _ _ h => h) rfl ?_; apply Exists.intro; refine ⟨fun v1 hv1 => ?_, ?_⟩; (· (go_simp; rfl)); simp only [Act.put, List.setIfInBounds_toArray, List.set_cons_zero, List.set_cons_succ]; simp only [wrI (x := q) (by omega) (by omega)]; refine anyR_take Later.pre 6 (.string dq) rfl (by kernel_rfl) (by kernel_rfl) (by kernel_rfl) (fun _ _ _ h => h) rfl (fun u hu => goes_call 13 #[.int .i64 q] (by go_simp) (HP2.out u)) ?_; simp only [Act.put, List.setIfInBounds_toArray, List.set_cons_zero, List.set_cons_succ]; refine anyR_val Later.pre 7 rfl (by kernel_rfl) (by kernel_rfl) (by kernel_rfl) (fun _ _ _ _ h => h) rfl ⟨.string (at2 ++ ⟨#[58]⟩ ++ dq), fun v1 hv1 => (by go_simp; omega), ?_⟩; simp only [Act.put, List.setIfInBounds_toArray, List.set_cons_zero, List.set_cons_succ]; refine anyR_val Later.pre 8 rfl (by kernel_rfl) (by kernel_rfl) (by kernel_rfl) (fun _ _ _ _ h => h) rfl ?_; apply Exists.intro; refine ⟨fun v1 hv1 => ?_, ?_⟩; (· (go_simp; rfl)); simp only [Act.put, List.setIfInBounds_toArray, List.set_cons_zero, List.set_cons_succ]; clear kB; refine anyR_done (by kernel_rfl) (fun V9 hV9 => ?_)
  have LL := L3.trans (hV0.trans hV9)
  have E9 := hide (later_keep (hV0.trans hV9) D9.out)
  have HA9 := hide (HA.out.later (hV0.trans hV9))
  go_upto_region 7 with fail
  rw [HPN.out]
  clear hV0 hV9
  go_wp2_with fail
  refine (HL.out _ LL).mono ?_
  rintro e wT ⟨rfl, lT⟩
  have kN := block_cell (later_keep lT E9.out)
  obtain ⟨b, off, cp, e, _, _, hbn, hcs⟩ := (HA9.out.later lT).cells (by show 0 < 3; decide)
  obtain ⟨rfl, rfl⟩ : va = some ⟨b, off, none⟩ ∧ vc = cp := by injection e with h1 h2 h3; exact ⟨h1, h3⟩
  have d1 := hcs 0 (by show 0 < 3; decide) 1 (by decide)
  have d2 := hcs 1 (by show 1 < 3; decide) 1 (by decide)
  have d1' : wT.cell? ⟨b, off + 1, none⟩ = some (.string (⟨#[83, 73, 80, 47, 50, 46, 48, 47, 85, 68, 80, 32]⟩ ++ pn ++ ⟨#[59, 120]⟩)) := by have := d1; rw [Nat.zero_mul, Nat.add_zero] at this; exact this
  have d2' : wT.cell? ⟨b, off + 2 + 1, none⟩ = some (.string (⟨#[60, 115, 105, 112, 58, 97, 64]⟩ ++ pn ++ ⟨#[62]⟩)) := by have := d2; rw [Nat.one_mul] at this; exact this
  clear hcs d1 d2 e
  go_wp2_with fail
  go_ret
  exact ⟨rfl, LL.trans lT⟩
end Go.Proofs.YtifdocjagnhncabDoor
