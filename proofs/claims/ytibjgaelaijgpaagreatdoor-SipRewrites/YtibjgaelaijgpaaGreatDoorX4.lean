/- Several texts in one. -/
import Derived.Test.YtibjgaelaijgpaaGreatDoorX5
import Derived.Test.YtibjgaelaijgpaaGreatDoorRh
/- The document's Right. -/
namespace Go.Proofs.YtibjgaelaijgpaaGreatDoor
open Go.RowKit Go.Shelf
set_option maxRecDepth 100000
set_option linter.unusedVariables false
set_option linter.unusedSimpArgs false

set_option maxRecDepth 100000 in
set_option maxHeartbeats 16000000 in
theorem rright14_any (st : ByteArray) (hs : List Hr) (sv sb : Value) (zb : List Int) (w : World) (hI : RdM w.heap.size w sv hs) (hB : Rd w.heap.size w sb zb) (hz : szM st hs zb.length ≤ 9000000000000000000) (hzs : st.size ≤ 140737488355328 ∧ ∀ h ∈ hs, h.1.size ≤ 140737488355328 ∧ h.2.size ≤ 140737488355328) :
    Calls Tryz.prog 12 #[.agg #[.string st, sv, sb]] w fun e w' => e = .returned (.bool (rgB st hs zb.length)) ∧ Later w w' := by
  obtain ⟨ah, ch, rfl, hl1, hm1⟩ := hI.slice
  obtain ⟨ab, cb, rfl, hl2, hm2⟩ := hB.slice
  have HR : Hid (rgB st hs zb.length = (allB lnC st && (!(st.size == 0) && ((decide (hs.length ≤ 64) && (hs.all (okh zb.length) && decide (hs.countP (fun h => swV h.1 clN) = 1))) && decide (szM st hs zb.length ≤ 4096))))) := rfl
  generalize rgB st hs zb.length = r at *
  have l0 : Later w (w.alloc (.cells #[.string st, .slice ah hs.length ch, .slice ab zb.length cb] 34)) := later_allocR _ _
  have C0 := hide (heap_alloc_new w (.cells #[.string st, .slice ah hs.length ch, .slice ab zb.length cb] 34))
  have hzz : hsz hs ≤ 9000000000000000000 := by unfold szM at hz; omega
  have HSZ := hide (fun W (l : Later w W) => rsize_any st hs _ _ zb W (hI.later l) (hB.later l) hz)
  generalize szM st hs zb.length = sz at *
  go_enter Tryz.func12, Tryz.ntmps12
  go_upto_region 1 with fail
  generalize w.alloc _ = w0 at *
  have HI := hide (hI.later l0)
  generalize w.heap.size = gm at *
  have k0 := block_cell C0.out
  by_cases hs0 : st.size = 0
  · have HE : Hid (r = false) := by show _ = _; rw [HR.out, hs0]; simp
    obtain rfl := str_empty st hs0
    go_wp2_with fail
    go_ret
    exact ⟨by rw [HE.out]; rfl, l0⟩
  have hne := str_ne hs0
  have HR2 : Hid (r = (allB lnC st && ((decide (hs.length ≤ 64) && (hs.all (okh zb.length) && decide (hs.countP (fun h => swV h.1 clN) = 1))) && decide (sz ≤ 4096)))) := by show _ = _; rw [HR.out, show (st.size == 0) = false from by simpa using hs0]; rfl
  clear HR hs0
  go_wp2_with fail
  refine (rplain_any st w0 (by omega)).mono ?_
  generalize allB lnC st = b1 at *
  rintro e w1 ⟨rfl, hw⟩
  rw [hw]
  clear hw w1
  cases b1 with
  | false =>
    go_wp2_with fail
    go_ret
    exact ⟨by rw [HR2.out]; rfl, l0⟩
  | true =>
    by_cases h64 : hs.length ≤ 64
    case neg =>
      have h1 : (64 : Int) < (hs.length : Int) := by omega
      have HE : Hid (r = false) := by show _ = _; rw [HR2.out]; simp [h64]
      go_wp2_with fail
      go_ret
      exact ⟨by rw [HE.out]; rfl, l0⟩
    have h1 : ¬ (64 : Int) < (hs.length : Int) := by omega
    go_wp2_with fail
    refine (HSZ.out w0 l0).mono ?_
    rintro e w2 ⟨⟨rr, rfl, hrr⟩, l2⟩
    clear k0
    by_cases hb : sz ≤ 4096
    case neg =>
      have h2 : 4096 < rr := by rw [decide_eq_true (by omega : 4096 < sz)] at hrr; exact of_decide_eq_true hrr
      have HE : Hid (r = false) := by show _ = _; rw [HR2.out]; simp [hb]
      clear hrr
      go_wp2_with fail
      go_ret
      exact ⟨by rw [HE.out]; rfl, Later.trans l0 l2⟩
    have h2 : ¬ 4096 < rr := by rw [decide_eq_false (by omega : ¬ 4096 < sz)] at hrr; exact of_decide_eq_false hrr
    have HR3 : Hid (r = (hs.all (okh zb.length) && decide (hs.countP (fun h => swV h.1 clN) = 1))) := by show _ = _; rw [HR2.out]; simp [h64, hb]
    have C2 := hide (later_keep l2 C0.out)
    have L2 : Later w w2 := Later.trans l0 l2
    have HI2 := hide (HI.out.later l2)
    clear HR2 hrr C0 HSZ
    go_upto_region 5 with fail
    clear h1 h2
    go_loopw [3, 4, 5, 6] (fun nv iv pv vv wr => ∃ k : Nat, k ≤ hs.length ∧ iv = .int .i64 (k : Int) ∧ nv = .int .i64 (((hs.take k).countP (fun h => swV h.1 clN) : Nat) : Int) ∧ Later w2 wr ∧ Hid ((hs.take k).all (okh zb.length) = true)) (fun _ iv _ _ _ => hs.length - (intOf iv).toNat)
    case atStart => exact ⟨0, by omega, rfl, rfl, Later.refl _, hide rfl⟩
    case round =>
      obtain ⟨k, hk, rfl, rfl, lr, hal⟩ := hrel
      have k1 := block_cell (later_keep lr C2.out)
      by_cases hlt : k < hs.length
      · have hlt' : (k : Int) < (hs.length : Int) := by omega
        obtain ⟨b, off, cp, e, _, _, hbn, hcs⟩ := (HI2.out.below lr).cells (by omega)
        cases e
        have d0 := hcs k hlt 0 (by omega)
        have d1 := hcs k hlt 1 (by omega)
        have hsn : hs.take (k + 1) = hs.take k ++ [hs[k]] := by rw [← List.take_append_getElem hlt]
        have hmem := List.getElem_mem hlt
        have hzm := hzs.2 _ hmem
        have HNO : Hid (okh zb.length hs[k] = false → r = false) := fun h => by
          rw [HR3.out]
          have : hs.all (okh zb.length) = false := by rw [List.all_eq_false]; exact ⟨hs[k], hmem, by simp [h]⟩
          rw [this]; rfl
        have HYE : Hid (okh zb.length hs[k] = true → (hs.take (k + 1)).all (okh zb.length) = true) := fun h => by rw [hsn, List.all_append, hal.out]; simp [h]
        have HCT : Hid ((hs.take (k + 1)).countP (fun h => swV h.1 clN) = (hs.take k).countP (fun h => swV h.1 clN) + (if swV hs[k].1 clN = true then 1 else 0)) := by show _ = _; rw [hsn, List.countP_append]; simp [List.countP_cons]
        have hcl : (hs.take k).countP (fun h => swV h.1 clN) ≤ k := by
          have := List.countP_le_length (p := fun h : Hr => swV h.1 clN) (l := hs.take k)
          rw [List.length_take] at this
          omega
        clear hcs hsn hmem
        generalize hs[k] = rr at *
        obtain ⟨x, y⟩ := rr
        simp only [hrc, List.getElem?_cons_zero, List.getElem?_cons_succ, Nat.add_zero] at d0 d1 hzm HCT
        have HOK : Hid (okh zb.length (x, y) = (allN nmC x && ((allB lnC y && (!Lib.hasPrefix y.data.toList [32] && !Lib.hasSuffix y.data.toList [32])) && (!swV x clN || eqS y (decB zb.length))))) := rfl
        rw [HOK.out] at HNO HYE
        clear HOK
        generalize (hs.take k).countP (fun h => swV h.1 clN) = c at *
        have la := later_allocR wr (.cells #[.string x, .string y] 45)
        have B1 := hide (heap_alloc_new wr (.cells #[.string x, .string y] 45))
        go_upto_region 8 with fail
        clear d0 d1 k1
        generalize wr.alloc _ = wq at *
        generalize wr.heap.size = gh at *
        have lq := lr.trans la
        have k1 := block_cell B1.out
        go_wp2_with fail
        refine (rname_any x wq (by omega)).mono ?_
        generalize allN nmC x = b1 at *
        rintro e w1 ⟨rfl, hw⟩
        rw [hw]
        clear hw w1
        cases b1 with
        | false =>
          have HVV := hide (HNO.out rfl)
          clear HNO HYE
          go_wp2_with fail
          go_ret
          exact ⟨by rw [HVV.out]; rfl, L2.trans lq⟩
        | true =>
          go_wp2_with fail
          refine (rplain_any y wq (by omega)).mono ?_
          generalize allB lnC y = b2 at *
          rintro e w1 ⟨rfl, hw⟩
          rw [hw]
          clear hw w1
          cases b2 with
          | false =>
            have HVV := hide (HNO.out rfl)
            clear HNO HYE
            go_wp2_with fail
            go_ret
            exact ⟨by rw [HVV.out]; rfl, L2.trans lq⟩
          | true =>
            by_cases hy0 : y.size = 0
            · have e1 : Lib.hasPrefix y.data.toList [32] = false := by rw [str_empty y hy0]; rfl
              have e2 : Lib.hasSuffix y.data.toList [32] = false := by rw [str_empty y hy0]; rfl
              rw [e1, e2] at HNO HYE
              clear e1 e2
              have hye : y.toList.isEmpty = true := by rw [str_empty y hy0, ByteArray.toList_eq]; rfl
              clear hy0
              go_upto_region 13 with fail
              clear k1
              have k1 := block_cell B1.out
              have HLC := hide (low_cl x)
              have HLW := hide (rlower_any x wq (by omega))
              generalize strOfNums (lowZ x) = lx at *
              generalize swV x clN = b3 at *
              have hlc : (lx.toList == [99, 111, 110, 116, 101, 110, 116, 45, 108, 101, 110, 103, 116, 104]) = b3 := by rw [← HLC.out, ByteArray.toList_eq ⟨#[99, 111, 110, 116, 101, 110, 116, 45, 108, 101, 110, 103, 116, 104]⟩]
              go_wp2_with fail
              refine HLW.out.mono ?_
              rintro e w3 ⟨rfl, l3⟩
              clear k1
              cases b3 with
              | false =>
                have HYY := hide (HYE.out rfl)
                clear HNO HYE
                go_wp2_with fail
                go_roundw
                case rel => exact ⟨k + 1, by omega, by go_num, by rw [HCT.out]; rfl, lq.trans l3, HYY⟩
                case measure => simp [intOf]; omega
              | true =>
                have hc1 : (c : Int) ≤ 64 := by omega
                go_upto_region 15 with fail
                clear hlc
                have B3 := hide (later_keep l3 B1.out)
                have C3 := hide (later_keep (lq.trans l3) C2.out)
                refine anyR_begin (R := Later) Later.pre Later.drew 7 rfl (by kernel_rfl) (fun V0 hV0 => ?_)
                have qH : ∀ v, Later V0 v → ∀ j, v.cell? ⟨gh, j, none⟩ = #[Value.string x, .string y][j]? := fun v hv => block_cell (later_keep (hV0.trans hv) B3.out)
                have qM : ∀ v, Later V0 v → ∀ j, v.cell? ⟨gm, j, none⟩ = #[Value.string st, .slice (some ⟨b, off, none⟩) hs.length ch, .slice ab zb.length cb][j]? := fun v hv => block_cell (later_keep (hV0.trans hv) C3.out)
                refine anyR_val Later.pre 0 rfl (by kernel_rfl) (by kernel_rfl) (by kernel_rfl) (fun _ _ _ _ h => h) rfl ?_; apply Exists.intro; refine ⟨fun v1 hv1 => ?_, ?_⟩; (· (go_simp; rfl)); simp only [Act.put, List.setIfInBounds_toArray, List.set_cons_zero, List.set_cons_succ]
                refine anyR_val Later.pre 1 rfl (by kernel_rfl) (by kernel_rfl) (by kernel_rfl) (fun _ _ _ _ h => h) rfl ?_; apply Exists.intro; refine ⟨fun v1 hv1 => ?_, ?_⟩; (· (go_simp; rfl)); simp only [Act.put, List.setIfInBounds_toArray, List.set_cons_zero, List.set_cons_succ]
                refine anyR_val Later.pre 2 rfl (by kernel_rfl) (by kernel_rfl) (by kernel_rfl) (fun _ _ _ _ h => h) rfl ?_; apply Exists.intro; refine ⟨fun v1 hv1 => ?_, ?_⟩; (· (go_simp; rfl)); simp only [Act.put, List.setIfInBounds_toArray, List.set_cons_zero, List.set_cons_succ]
                refine anyR_val Later.pre 3 rfl (by kernel_rfl) (by kernel_rfl) (by kernel_rfl) (fun _ _ _ _ h => h) rfl ?_; apply Exists.intro; refine ⟨fun v1 hv1 => ?_, ?_⟩; (· (go_simp; rfl)); simp only [Act.put, List.setIfInBounds_toArray, List.set_cons_zero, List.set_cons_succ]
                refine anyR_val Later.pre 4 rfl (by kernel_rfl) (by kernel_rfl) (by kernel_rfl) (fun _ _ _ _ h => h) rfl ?_; apply Exists.intro; refine ⟨fun v1 hv1 => ?_, ?_⟩; (· (go_simp; rfl)); simp only [Act.put, List.setIfInBounds_toArray, List.set_cons_zero, List.set_cons_succ]
                refine anyR_take Later.pre 5 (.string (decB zb.length)) rfl (by kernel_rfl) (by kernel_rfl) (by kernel_rfl) (fun _ _ _ h => h) rfl (fun v1 hv1 => goes_call 18 #[.int .i64 (zb.length : Int)] (by go_simp) (rdigits_any zb.length (by omega) v1)) ?_
                simp only [Act.put, List.setIfInBounds_toArray, List.set_cons_zero, List.set_cons_succ]
                refine anyR_val Later.pre 6 rfl (by kernel_rfl) (by kernel_rfl) (by kernel_rfl) (fun _ _ _ _ h => h) rfl ?_; apply Exists.intro; refine ⟨fun v1 hv1 => ?_, ?_⟩; (· (go_simp; rfl)); simp only [Act.put, List.setIfInBounds_toArray, List.set_cons_zero, List.set_cons_succ]
                clear qH qM
                refine anyR_done (by kernel_rfl) (fun V9 hV9 => ?_)
                have L9 := lq.trans (l3.trans (hV0.trans hV9))
                rw [str_beq y (decB zb.length)]
                generalize eqS y (decB zb.length) = b4 at *
                cases b4 with
                | false =>
                  have HVV := hide (HNO.out rfl)
                  clear HNO HYE
                  go_wp2_with fail
                  go_ret
                  exact ⟨by rw [HVV.out]; rfl, L2.trans L9⟩
                | true =>
                  have HYY := hide (HYE.out rfl)
                  clear HNO HYE
                  go_wp2_with fail
                  go_roundw
                  case rel => exact ⟨k + 1, by omega, by go_num, by rw [HCT.out]; go_num, L9, HYY⟩
                  case measure => simp [intOf]; omega
            · have hyn := str_ne hy0
              obtain ⟨e1, e2⟩ := vl_blank y hy0
              rw [e1, e2] at HNO HYE
              clear e1 e2
              have hp0 : 0 < y.size := by omega
              have hp0' : (0 : Int) < (y.size : Int) := by omega
              have hq0 : y.size - 1 < y.size := by omega
              have g1 := bAt_get y 0 hp0
              have g2 := bAt_get y (y.size - 1) hq0
              rw [← g1, ← g2] at HNO HYE
              clear g1 g2 hy0
              have hys : (y.size : Int) - 1 = ((y.size - 1 : Nat) : Int) := by omega
              have hys2 : ((y.size - 1 : Nat) : Int) < (y.size : Int) := by omega
              have hyb : (y.size : Int) ≤ 140737488355328 := by omega
              cases hb1 : (((y[0]'hp0).toNat : Nat) : Int) == 32 with
              | true =>
                rw [hb1] at HNO HYE
                have HVV := hide (HNO.out rfl)
                clear HNO HYE
                go_wp2_with fail
                go_ret
                exact ⟨by rw [HVV.out]; rfl, L2.trans lq⟩
              | false =>
                rw [hb1] at HNO HYE
                cases hb2 : (((y[y.size - 1]'hq0).toNat : Nat) : Int) == 32 with
                | true =>
                  rw [hb2] at HNO HYE
                  have HVV := hide (HNO.out rfl)
                  clear HNO HYE
                  go_wp2_with fail
                  go_ret
                  exact ⟨by rw [HVV.out]; rfl, L2.trans lq⟩
                | false =>
                  rw [hb2] at HNO HYE
                  go_upto_region 13 with fail
                  clear k1
                  have k1 := block_cell B1.out
                  have HLC := hide (low_cl x)
                  have HLW := hide (rlower_any x wq (by omega))
                  generalize strOfNums (lowZ x) = lx at *
                  generalize swV x clN = b3 at *
                  have hlc : (lx.toList == [99, 111, 110, 116, 101, 110, 116, 45, 108, 101, 110, 103, 116, 104]) = b3 := by rw [← HLC.out, ByteArray.toList_eq ⟨#[99, 111, 110, 116, 101, 110, 116, 45, 108, 101, 110, 103, 116, 104]⟩]
                  go_wp2_with fail
                  refine HLW.out.mono ?_
                  rintro e w3 ⟨rfl, l3⟩
                  clear k1
                  cases b3 with
                  | false =>
                    have HYY := hide (HYE.out rfl)
                    clear HNO HYE
                    go_wp2_with fail
                    go_roundw
                    case rel => exact ⟨k + 1, by omega, by go_num, by rw [HCT.out]; rfl, lq.trans l3, HYY⟩
                    case measure => simp [intOf]; omega
                  | true =>
                    have hc1 : (c : Int) ≤ 64 := by omega
                    go_upto_region 15 with fail
                    clear hlc
                    have B3 := hide (later_keep l3 B1.out)
                    have C3 := hide (later_keep (lq.trans l3) C2.out)
                    refine anyR_begin (R := Later) Later.pre Later.drew 7 rfl (by kernel_rfl) (fun V0 hV0 => ?_)
                    have qH : ∀ v, Later V0 v → ∀ j, v.cell? ⟨gh, j, none⟩ = #[Value.string x, .string y][j]? := fun v hv => block_cell (later_keep (hV0.trans hv) B3.out)
                    have qM : ∀ v, Later V0 v → ∀ j, v.cell? ⟨gm, j, none⟩ = #[Value.string st, .slice (some ⟨b, off, none⟩) hs.length ch, .slice ab zb.length cb][j]? := fun v hv => block_cell (later_keep (hV0.trans hv) C3.out)
                    refine anyR_val Later.pre 0 rfl (by kernel_rfl) (by kernel_rfl) (by kernel_rfl) (fun _ _ _ _ h => h) rfl ?_; apply Exists.intro; refine ⟨fun v1 hv1 => ?_, ?_⟩; (· (go_simp; rfl)); simp only [Act.put, List.setIfInBounds_toArray, List.set_cons_zero, List.set_cons_succ]
                    refine anyR_val Later.pre 1 rfl (by kernel_rfl) (by kernel_rfl) (by kernel_rfl) (fun _ _ _ _ h => h) rfl ?_; apply Exists.intro; refine ⟨fun v1 hv1 => ?_, ?_⟩; (· (go_simp; rfl)); simp only [Act.put, List.setIfInBounds_toArray, List.set_cons_zero, List.set_cons_succ]
                    refine anyR_val Later.pre 2 rfl (by kernel_rfl) (by kernel_rfl) (by kernel_rfl) (fun _ _ _ _ h => h) rfl ?_; apply Exists.intro; refine ⟨fun v1 hv1 => ?_, ?_⟩; (· (go_simp; rfl)); simp only [Act.put, List.setIfInBounds_toArray, List.set_cons_zero, List.set_cons_succ]
                    refine anyR_val Later.pre 3 rfl (by kernel_rfl) (by kernel_rfl) (by kernel_rfl) (fun _ _ _ _ h => h) rfl ?_; apply Exists.intro; refine ⟨fun v1 hv1 => ?_, ?_⟩; (· (go_simp; rfl)); simp only [Act.put, List.setIfInBounds_toArray, List.set_cons_zero, List.set_cons_succ]
                    refine anyR_val Later.pre 4 rfl (by kernel_rfl) (by kernel_rfl) (by kernel_rfl) (fun _ _ _ _ h => h) rfl ?_; apply Exists.intro; refine ⟨fun v1 hv1 => ?_, ?_⟩; (· (go_simp; rfl)); simp only [Act.put, List.setIfInBounds_toArray, List.set_cons_zero, List.set_cons_succ]
                    refine anyR_take Later.pre 5 (.string (decB zb.length)) rfl (by kernel_rfl) (by kernel_rfl) (by kernel_rfl) (fun _ _ _ h => h) rfl (fun v1 hv1 => goes_call 18 #[.int .i64 (zb.length : Int)] (by go_simp) (rdigits_any zb.length (by omega) v1)) ?_
                    simp only [Act.put, List.setIfInBounds_toArray, List.set_cons_zero, List.set_cons_succ]
                    refine anyR_val Later.pre 6 rfl (by kernel_rfl) (by kernel_rfl) (by kernel_rfl) (fun _ _ _ _ h => h) rfl ?_; apply Exists.intro; refine ⟨fun v1 hv1 => ?_, ?_⟩; (· (go_simp; rfl)); simp only [Act.put, List.setIfInBounds_toArray, List.set_cons_zero, List.set_cons_succ]
                    clear qH qM
                    refine anyR_done (by kernel_rfl) (fun V9 hV9 => ?_)
                    have L9 := lq.trans (l3.trans (hV0.trans hV9))
                    rw [str_beq y (decB zb.length)]
                    generalize eqS y (decB zb.length) = b4 at *
                    cases b4 with
                    | false =>
                      have HVV := hide (HNO.out rfl)
                      clear HNO HYE
                      go_wp2_with fail
                      go_ret
                      exact ⟨by rw [HVV.out]; rfl, L2.trans L9⟩
                    | true =>
                      have HYY := hide (HYE.out rfl)
                      clear HNO HYE
                      go_wp2_with fail
                      go_roundw
                      case rel => exact ⟨k + 1, by omega, by go_num, by rw [HCT.out]; go_num, L9, HYY⟩
                      case measure => simp [intOf]; omega
      · obtain rfl : k = hs.length := by omega
        have hnl : ¬ ((hs.length : Nat) : Int) < (hs.length : Int) := by omega
        rw [List.take_length] at hal ⊢
        generalize hs.countP (fun h => swV h.1 clN) = c at *
        have hq : ((c : Int) == 1) = decide (c = 1) := by by_cases h : c = 1 <;> simp [h]; omega
        have HVV : Hid (r = ((c : Int) == 1)) := by show _ = _; rw [HR3.out, hal.out, hq]; rfl
        clear hq HR3
        go_wp2_with fail
        go_ret
        exact ⟨by rw [HVV.out]; rfl, L2.trans lr⟩
end Go.Proofs.YtibjgaelaijgpaaGreatDoor

/- The law's ref: a message as the document's. -/
namespace Go.Proofs.YtibjgaelaijgpaaGreatDoor
open Go.RowKit Go.Shelf
set_option maxRecDepth 100000
set_option linter.unusedVariables false
set_option linter.unusedSimpArgs false

theorem info_hdrR : (Tryz.prog.info? 45).map (fun i => (i.zero, i.size, i.bytes)) = some (some (.agg #[.string ⟨#[]⟩, .string ⟨#[]⟩]), 2, 32) := by kernel_rfl
theorem ownR_rd {base : Nat} {W : World} {v : Value} {l : List Hr} {T : TypeId} (h : W.ownsRow base T 2 v l.length (hrs l)) : RdM W.heap.size W v l := by
  obtain ⟨h1, ⟨rfl, h0⟩ | ⟨g, cap, cur, rfl, hg, hh, hl, hm, hs, hc⟩⟩ := h
  · have : l = [] := List.eq_nil_of_length_eq_zero h0
    subst this
    exact .inl ⟨none, 0, rfl, rfl, by omega, fun _ => rfl⟩
  · by_cases hn : l = []
    · subst hn
      exact .inl ⟨_, cap, rfl, rfl, by simpa [maxLen] using hm, fun h => by cases h⟩
    · refine .inr ⟨g, 0, cap, rfl, hn, hl, by simpa [maxLen] using hm, (Array.getElem?_eq_some_iff.1 hh).1, fun j hj i hi => ?_⟩
      rw [Nat.zero_add, block_cell hh, ← hrs_at l j i hj hi, ← hc, List.getElem?_take_of_lt (by omega)]
      simp

set_option maxRecDepth 100000 in
set_option maxHeartbeats 8000000 in
theorem ref_any (st : ByteArray) (sv sb : Value) (hs : List Hr) (zb : List Int) (w : World) (hH : RdM w.heap.size w sv hs) (hB : Rd w.heap.size w sb zb) (hhl : hs.length ≤ 100) :
    Calls Tryz.prog 5 #[.agg #[.string st, sv, sb]] w fun e w' => Later w w' ∧ ∃ vh, e = .returned (.agg #[.string st, vh, sb]) ∧ w'.ownsRow w.heap.size 45 2 vh hs.length (hrs hs) := by
  obtain ⟨sa, scp, rfl, hsc1, hsc2⟩ := hH.slice
  obtain ⟨ba, bcp, rfl, hbc1, hbc2⟩ := hB.slice
  have hb4 : Later w (((w.alloc (.cells #[.string st, .slice sa hs.length scp, .slice ba zb.length bcp] 25)).alloc (.cells #[.string ⟨#[]⟩, .slice none 0 0, .slice none 0 0] 34)).alloc (.cells #[.string st, .slice none 0 0, .slice ba zb.length bcp] 34)) := (((Below.refl _ _).alloc (Nat.le_refl _) _).alloc (by simp) _).alloc (by simp <;> omega) _
  have c0 : ((w.alloc (.cells #[.string st, .slice sa hs.length scp, .slice ba zb.length bcp] 25)).alloc (.cells #[.string ⟨#[]⟩, .slice none 0 0, .slice none 0 0] 34)).heap[w.heap.size]? = some (.cells #[.string st, .slice sa hs.length scp, .slice ba zb.length bcp] 25 (0, 0)) := (Below.heap_alloc _ _ _ (by simp)).trans (heap_alloc_new w _)
  have c1 : ((w.alloc (.cells #[.string st, .slice sa hs.length scp, .slice ba zb.length bcp] 25)).alloc (.cells #[.string ⟨#[]⟩, .slice none 0 0, .slice none 0 0] 34)).heap[w.heap.size + 1]? = some (.cells #[.string ⟨#[]⟩, .slice none 0 0, .slice none 0 0] 34 (0, 0)) := by
    have := heap_alloc_new (w.alloc (.cells #[.string st, .slice sa hs.length scp, .slice ba zb.length bcp] 25)) (.cells #[.string ⟨#[]⟩, .slice none 0 0, .slice none 0 0] 34)
    rw [World.size_alloc] at this
    exact this
  have hs4 : ((w.alloc (.cells #[.string st, .slice sa hs.length scp, .slice ba zb.length bcp] 25)).alloc (.cells #[.string ⟨#[]⟩, .slice none 0 0, .slice none 0 0] 34)).heap.size = w.heap.size + 1 + 1 := by simp
  have hb3 : Later w ((w.alloc (.cells #[.string st, .slice sa hs.length scp, .slice ba zb.length bcp] 25)).alloc (.cells #[.string ⟨#[]⟩, .slice none 0 0, .slice none 0 0] 34)) := ((Below.refl _ _).alloc (Nat.le_refl _) _).alloc (by simp) _
  have C0 := hide c0
  have C1 := hide c1
  have HS4 := hide hs4
  clear c0 c1 hs4 hb4
  go_enter Tryz.func5, Tryz.ntmps5
  go_upto_region 1 with fail
  generalize (w.alloc (.cells #[.string st, .slice sa hs.length scp, .slice ba zb.length bcp] 25)).alloc (.cells #[.string ⟨#[]⟩, .slice none 0 0, .slice none 0 0] 34) = w4 at *
  generalize hgc : w.heap.size = gc at C0 C1 HS4 ⊢
  have k0 := block_cell C0.out
  have la := later_allocR w4 (.cells #[.string st, .slice none 0 0, .slice ba zb.length bcp] 34)
  have C2 := hide (heap_alloc_new w4 (.cells #[.string st, .slice none 0 0, .slice ba zb.length bcp] 34))
  go_upto_region 2 with fail
  clear k0
  have D0 := hide (later_keep la C0.out)
  have D1 := hide (later_keep la C1.out)
  have LW : Later w (w4.alloc (.cells #[.string st, .slice none 0 0, .slice ba zb.length bcp] 34)) := Later.trans hb3 la
  have hs5 : w4.heap.size = gc + 1 + 1 := HS4.out
  rw [hs5] at C2 ⊢
  change Code.wp _ _ _ _ (w4.alloc (.cells #[.string st, .slice none 0 0, .slice ba zb.length bcp] 34))
  generalize w4.alloc (.cells #[.string st, .slice none 0 0, .slice ba zb.length bcp] 34) = W at *
  have LWg : Below gc w W := hgc ▸ LW
  go_upto_region 3 with fail
  have HH := hide (hH.below (hgc ▸ LWg : Below w.heap.size w W))
  rw [hgc] at HH
  have hgcW : gc + 3 ≤ W.heap.size := by have := (Array.getElem?_eq_some_iff.1 C2.out).1; omega
  go_loopw [4] (fun iv wr => ∃ (k : Nat) (vh : Value), k ≤ hs.length ∧ iv = .int .i64 (k : Int) ∧ Below gc W wr ∧ Hid (wr.heap[gc]? = some (.cells #[.string st, .slice sa hs.length scp, .slice ba zb.length bcp] 25 (0, 0))) ∧ Hid (wr.heap[gc + 1]? = some (.cells #[.string ⟨#[]⟩, .slice none 0 0, .slice none 0 0] 34 (0, 0))) ∧ Hid (wr.heap[gc + 1 + 1]? = some (.cells #[.string st, vh, .slice ba zb.length bcp] 34 (0, 0))) ∧ Hid (wr.ownsRow gc 45 2 vh k (hrs (hs.take k)))) (fun iv _ => hs.length - (intOf iv).toNat)
  case atStart => exact ⟨0, .slice none 0 0, by omega, rfl, Below.refl _ _, D0, D1, C2, rfl, .inl ⟨rfl, rfl⟩⟩
  case round =>
    obtain ⟨k, vh, hk, rfl, hbr, E0, E1, EN, EH⟩ := hrel
    have hbs := hbr.size
    have k0 := block_cell E0.out
    obtain ⟨ha, hcp, rfl⟩ := owns_form EH.out
    by_cases hlt : k < hs.length
    · have hlt' : (k : Int) < (hs.length : Int) := by omega
      have hlt2 : (k : Int) < 200 := by omega
      obtain ⟨b, off, cp, e, _, _, hbn, hcs⟩ := ((HH.out).below hbr).cells (by omega)
      cases e
      have d0 := hcs k hlt 0 (by omega)
      have d1 := hcs k hlt 1 (by omega)
      have HTK : Hid (hs.take (k + 1) = hs.take k ++ [hs[k]]) := by show _ = _; rw [← List.take_append_getElem hlt]
      clear hcs
      generalize hs[k] = hr at *
      obtain ⟨n1, n2⟩ := hr
      simp only [hrc, List.getElem?_cons_zero, List.getElem?_cons_succ, Nat.add_zero] at d0 d1
      go_upto_region 5 with fail
      clear k0
      refine wp_calmS ?_
      refine anyU_begin (R1 := Later) (R2 := fun _ _ => True) (D := [16, 18]) 19 rfl (by kernel_rfl) ?_
      have ld : Later wr wr.drew := Later.drew wr
      generalize wr.drew = Wd at *
      have qM : ∀ v1, Later Wd v1 → ∀ j, v1.cell? ⟨gc, j, none⟩ = #[.string st, .slice (some ⟨b, off, none⟩) hs.length scp, .slice ba zb.length bcp][j]? := fun v1 hv => block_cell (later_keep (ld.trans hv) E0.out)
      have qN : ∀ v1, Later Wd v1 → ∀ j, v1.cell? ⟨gc + 1 + 1, j, none⟩ = #[.string st, .slice ha k hcp, .slice ba zb.length bcp][j]? := fun v1 hv => block_cell (later_keep (ld.trans hv) EN.out)
      have q0 : ∀ v, Later Wd v → v.cell? ⟨b, off + k * 2, none⟩ = some (.string n1) := fun v hv => (ld.trans hv).cell d0
      have q1 : ∀ v, Later Wd v → v.cell? ⟨b, off + k * 2 + 1, none⟩ = some (.string n2) := fun v hv => (ld.trans hv).cell d1
      clear d0 d1
      refine anyU_val Later.pre 0 [1, 16, 18] rfl (by rfl) (by rfl) (by kernel_rfl) (by kernel_rfl) (by kernel_rfl) (by kernel_rfl) (by kernel_rfl) (fun _ _ _ _ h => by cases h.1) (by rfl) ?_; apply Exists.intro; refine ⟨fun v1 hv1 => ?_, ?_⟩; (· (go_simp; rfl)); simp only [Act.put, List.setIfInBounds_toArray, List.set_cons_zero, List.set_cons_succ]
      refine anyU_val Later.pre 1 [16, 18] rfl (by rfl) (by rfl) (by kernel_rfl) (by kernel_rfl) (by kernel_rfl) (by kernel_rfl) (by kernel_rfl) (fun _ _ _ _ h => by cases h.1) (by rfl) ?_; apply Exists.intro; refine ⟨fun v1 hv1 => ?_, ?_⟩; (· (go_simp; rfl)); simp only [Act.put, List.setIfInBounds_toArray, List.set_cons_zero, List.set_cons_succ]
      refine anyU_val Later.pre 2 [3, 5, 6, 7, 14, 15, 16, 18] rfl (by rfl) (by rfl) (by kernel_rfl) (by kernel_rfl) (by kernel_rfl) (by kernel_rfl) (by kernel_rfl) (fun _ _ _ _ h => by cases h.1) (by rfl) ?_; apply Exists.intro; refine ⟨fun v1 hv1 => ?_, ?_⟩; (· (go_simp; rfl)); simp only [Act.put, List.setIfInBounds_toArray, List.set_cons_zero, List.set_cons_succ]
      refine anyU_val Later.pre 3 [5, 6, 7, 14, 15, 16, 18] rfl (by rfl) (by rfl) (by kernel_rfl) (by kernel_rfl) (by kernel_rfl) (by kernel_rfl) (by kernel_rfl) (fun _ _ _ _ h => by cases h.1) (by rfl) ?_; apply Exists.intro; refine ⟨fun v1 hv1 => ?_, ?_⟩; (· (go_simp; rfl)); simp only [Act.put, List.setIfInBounds_toArray, List.set_cons_zero, List.set_cons_succ]
      refine anyU_val Later.pre 4 [5, 6, 7, 14, 15, 16, 18] rfl (by rfl) (by rfl) (by kernel_rfl) (by kernel_rfl) (by kernel_rfl) (by kernel_rfl) (by kernel_rfl) (fun _ _ _ _ h => by cases h.1) (by rfl) ?_; apply Exists.intro; refine ⟨fun v1 hv1 => ?_, ?_⟩; (· (go_simp; rfl)); simp only [Act.put, List.setIfInBounds_toArray, List.set_cons_zero, List.set_cons_succ]
      refine anyU_val Later.pre 5 [6, 7, 14, 15, 16, 18] rfl (by rfl) (by rfl) (by kernel_rfl) (by kernel_rfl) (by kernel_rfl) (by kernel_rfl) (by kernel_rfl) (fun _ _ _ _ h => by cases h.1) (by rfl) ?_; apply Exists.intro; refine ⟨fun v1 hv1 => ?_, ?_⟩; (· (go_simp; rfl)); simp only [Act.put, List.setIfInBounds_toArray, List.set_cons_zero, List.set_cons_succ]
      refine anyU_val Later.pre 6 [7, 14, 15, 16, 18] rfl (by rfl) (by rfl) (by kernel_rfl) (by kernel_rfl) (by kernel_rfl) (by kernel_rfl) (by kernel_rfl) (fun _ _ _ _ h => by cases h.1) (by rfl) ?_; apply Exists.intro; refine ⟨fun v1 hv1 => ?_, ?_⟩; (· (go_simp; rfl)); simp only [Act.put, List.setIfInBounds_toArray, List.set_cons_zero, List.set_cons_succ]
      refine anyU_val Later.pre 7 [14, 15, 16, 18] rfl (by rfl) (by rfl) (by kernel_rfl) (by kernel_rfl) (by kernel_rfl) (by kernel_rfl) (by kernel_rfl) (fun _ _ _ _ h => by cases h.1) (by rfl) ?_; apply Exists.intro; refine ⟨fun v1 hv1 => ?_, ?_⟩; (· (go_simp; rfl)); simp only [Act.put, List.setIfInBounds_toArray, List.set_cons_zero, List.set_cons_succ]
      refine anyU_val Later.pre 8 [9, 11, 12, 13, 14, 15, 16, 18] rfl (by rfl) (by rfl) (by kernel_rfl) (by kernel_rfl) (by kernel_rfl) (by kernel_rfl) (by kernel_rfl) (fun _ _ _ _ h => by cases h.1) (by rfl) ?_; apply Exists.intro; refine ⟨fun v1 hv1 => ?_, ?_⟩; (· (go_simp; rfl)); simp only [Act.put, List.setIfInBounds_toArray, List.set_cons_zero, List.set_cons_succ]
      refine anyU_val Later.pre 9 [11, 12, 13, 14, 15, 16, 18] rfl (by rfl) (by rfl) (by kernel_rfl) (by kernel_rfl) (by kernel_rfl) (by kernel_rfl) (by kernel_rfl) (fun _ _ _ _ h => by cases h.1) (by rfl) ?_; apply Exists.intro; refine ⟨fun v1 hv1 => ?_, ?_⟩; (· (go_simp; rfl)); simp only [Act.put, List.setIfInBounds_toArray, List.set_cons_zero, List.set_cons_succ]
      refine anyU_val Later.pre 10 [11, 12, 13, 14, 15, 16, 18] rfl (by rfl) (by rfl) (by kernel_rfl) (by kernel_rfl) (by kernel_rfl) (by kernel_rfl) (by kernel_rfl) (fun _ _ _ _ h => by cases h.1) (by rfl) ?_; apply Exists.intro; refine ⟨fun v1 hv1 => ?_, ?_⟩; (· (go_simp; rfl)); simp only [Act.put, List.setIfInBounds_toArray, List.set_cons_zero, List.set_cons_succ]
      refine anyU_val Later.pre 11 [12, 13, 14, 15, 16, 18] rfl (by rfl) (by rfl) (by kernel_rfl) (by kernel_rfl) (by kernel_rfl) (by kernel_rfl) (by kernel_rfl) (fun _ _ _ _ h => by cases h.1) (by rfl) ?_; apply Exists.intro; refine ⟨fun v1 hv1 => ?_, ?_⟩; (· (go_simp; rfl)); simp only [Act.put, List.setIfInBounds_toArray, List.set_cons_zero, List.set_cons_succ]
      refine anyU_val Later.pre 12 [13, 14, 15, 16, 18] rfl (by rfl) (by rfl) (by kernel_rfl) (by kernel_rfl) (by kernel_rfl) (by kernel_rfl) (by kernel_rfl) (fun _ _ _ _ h => by cases h.1) (by rfl) ?_; apply Exists.intro; refine ⟨fun v1 hv1 => ?_, ?_⟩; (· (go_simp; rfl)); simp only [Act.put, List.setIfInBounds_toArray, List.set_cons_zero, List.set_cons_succ]
      refine anyU_val Later.pre 13 [14, 15, 16, 18] rfl (by rfl) (by rfl) (by kernel_rfl) (by kernel_rfl) (by kernel_rfl) (by kernel_rfl) (by kernel_rfl) (fun _ _ _ _ h => by cases h.1) (by rfl) ?_; apply Exists.intro; refine ⟨fun v1 hv1 => ?_, ?_⟩; (· (go_simp; rfl)); simp only [Act.put, List.setIfInBounds_toArray, List.set_cons_zero, List.set_cons_succ]
      refine anyU_val Later.pre 14 [15, 16, 18] rfl (by rfl) (by rfl) (by kernel_rfl) (by kernel_rfl) (by kernel_rfl) (by kernel_rfl) (by kernel_rfl) (fun _ _ _ _ h => by cases h.1) (by rfl) ?_; apply Exists.intro; refine ⟨fun v1 hv1 => ?_, ?_⟩; (· (go_simp; rfl)); simp only [Act.put, List.setIfInBounds_toArray, List.set_cons_zero, List.set_cons_succ]
      clear qM qN q0 q1
      refine anyU_one 15 rfl (by kernel_rfl) (by rfl) ?_
      have l2 := later_allocR Wd (.cells #[.string n1, .string n2] 45)
      have HNW := hide (heap_alloc_new Wd (.cells #[.string n1, .string n2] 45))
      unfold Oper.wp
      go_simp
      refine ⟨Rj_out (by rfl) l2, ?_⟩
      change wpAnyU _ _ _ _ _ _ _ _ _ _ (Wd.alloc (.cells #[.string n1, .string n2] 45))
      generalize Wd.alloc (.cells #[.string n1, .string n2] 45) = W5 at *
      generalize Wd.heap.size = gw at *
      have LL := ld.trans l2
      have EH5 := ownsS_ct EH.out (CTs.of LL)
      have EN5 := later_keep LL EN.out
      have E05 := later_keep LL E0.out
      have E15 := later_keep LL E1.out
      have hnk := block_cell HNW.out
      obtain ⟨i0, hi0, hz0, hz1, hz2⟩ := info_partsS info_hdrR
      have hgc5 : gc ≤ W5.heap.size := by have := LL.size; omega
      obtain ⟨v', W2, hrun, hrow, hg, _⟩ := run_append_own (P := Tryz.prog) W5 gc 32 32 45 i0 (.agg #[.string ⟨#[]⟩, .string ⟨#[]⟩]) 2 32 Tryz.underlying32 hi0 hz0 hz1 hz2 rfl (by decide) (.slice ha k hcp) k (hrs (hs.take k)) EH5 ⟨gw, 0, none⟩ 1 1 [.string n1, .string n2] rfl
        (fun j u hj => by
          rw [show (⟨gw, 0, none⟩ : Addr).add j = ⟨gw, 0 + j, none⟩ from by unfold Addr.add; split <;> simp_all]
          rw [Nat.zero_add, hnk j, ← hj]; simp)
        (by intro u hu; simp at hu; rcases hu with rfl | rfl <;> rfl) (by unfold maxLen; omega) (by omega) hgc5
      clear hnk
      refine anyU_one 16 rfl (by kernel_rfl) (by rfl) ?_
      refine wp_app (.tmp 22) (.tmp 36) 32 rfl _ _ rfl rfl v' W2 hrun ?_
      refine ⟨Rj_in (by rfl) trivial, ?_⟩
      simp only [Act.put, List.setIfInBounds_toArray, List.set_cons_zero, List.set_cons_succ]
      obtain ⟨a2, cp2, rfl⟩ := owns_form hrow
      have EN2 := keep_row EH5 hg EN5 (.inl fun cur f e => by cases e)
      have E02 := keep_row EH5 hg E05 (.inl fun cur f e => by cases e)
      have E12 := keep_row EH5 hg E15 (.inl fun cur f e => by cases e)
      refine anyU_one 17 rfl (by kernel_rfl) (by rfl) ?_
      refine wp_value (w' := W2) (.pointer (some ⟨gc + 1 + 1, 1, none⟩)) (by go_simp) ?_
      refine ⟨Rj_out (by rfl) (Later.refl _), ?_⟩
      simp only [Act.put, List.setIfInBounds_toArray, List.set_cons_zero, List.set_cons_succ]
      have k2 := block_cell EN2
      have f2 := block_frozen EN2
      refine anyU_one 18 rfl (by kernel_rfl) (by rfl) ?_
      unfold Oper.wp
      go_simp
      refine ⟨Rj_in (by rfl) trivial, ?_⟩
      clear k2 f2
      refine anyU_done (by kernel_rfl) ?_
      refine ⟨rfl, ?_⟩
      have EN8 := heap_set1 EN2 1 (.slice a2 (k + 1) cp2)
      have E08 := hsetS_ne (j := 1) (v := .slice a2 (k + 1) cp2) E02 (m := gc + 1 + 1) (by omega)
      have E18 := hsetS_ne (j := 1) (v := .slice a2 (k + 1) cp2) E12 (m := gc + 1 + 1) (by omega)
      have EH8 := own_set hrow EN2 (by decide) 1 (.slice a2 (k + 1) cp2)
      have B8 : Below gc wr (W2.setCell ⟨gc + 1 + 1, 1, none⟩ (.slice a2 (k + 1) cp2)) := ⟨hg.os.trans LL.os, hg.tape.trans LL.tape, hg.output.trans LL.output, by have := LL.size; have := hg.size; simp; omega, fun i hi => by
        cases hh : wr.heap[i]? with
        | none => have := Array.getElem?_eq_none_iff.1 hh; omega
        | some o => exact hsetS_ne (keep_row EH5 hg (later_keep LL hh) (.inr hi)) (by omega)⟩
      have EH9 : (W2.setCell ⟨gc + 1 + 1, 1, none⟩ (.slice a2 (k + 1) cp2)).ownsRow gc 45 2 (.slice a2 (k + 1) cp2) (k + 1) (hrs (hs.take (k + 1))) := by
        rw [HTK.out, hrs_snoc]
        exact EH8
      have HE8 := hide E08; have HF8 := hide E18; have HG8 := hide EN8; have HH9 := hide EH9; have HBL := hide (hbr.trans B8)
      clear E08 E18 EN8 EH9 EH8 B8 hrow E12 E02 EN2 hg hrun E15 E05 EN5 EH5
      generalize W2.setCell ⟨gc + 1 + 1, 1, none⟩ (.slice a2 (k + 1) cp2) = V8 at *
      go_wp2_with fail
      go_roundw
      case rel => exact ⟨k + 1, .slice a2 (k + 1) cp2, by omega, by go_num, HBL.out, HE8, HF8, HG8, HH9⟩
      case measure => simp [intOf]; omega
    · have hnl : ¬ (k : Int) < (hs.length : Int) := by omega
      have hkk : k = hs.length := by omega
      have HH9 : Hid (wr.ownsRow gc 45 2 (.slice ha k hcp) hs.length (hrs hs)) := by
        have := EH.out
        rw [hkk, List.take_length] at this
        rw [hkk]
        exact this
      clear hkk
      have k2 := block_cell EN.out
      have k4 := block_cell E1.out
      have f4 := block_frozen E1.out
      go_wp2_with fail
      generalize hV : (((wr.setCell ⟨gc + 1, 0, none⟩ _).setCell ⟨gc + 1, 1, none⟩ _).setCell ⟨gc + 1, 2, none⟩ _) = V8
      have hV9 : V8 = putRow wr (gc + 1) 0 [.string st, .slice ha k hcp, .slice ba zb.length bcp] := hV.symm
      have hb8 : But (fun b => b = gc + 1) wr V8 := by rw [hV9]; exact putRow_but (E := fun b => b = gc + 1) (n := gc + 1) rfl _ _ _ _ (But.refl _ _)
      have p8 := putRow_all [.string st, .slice ha k hcp, .slice ba zb.length bcp] E1.out rfl
      rw [← hV9] at p8
      clear hV hV9
      have P8 := block_cell p8
      have LWr : Below gc w wr := LWg.trans hbr
      have hw8 : Below gc w V8 := LWr.trans (hb8.below (by omega) (fun k h e => by omega))
      have hr8 := own_but (base' := gc) HH9.out hb8 E1.out (by decide) (Nat.le_refl _)
      exact bodyPost_ret (v := .agg #[.string st, .slice ha k hcp, .slice ba zb.length bcp]) (by simp [results, Tryz.results5, go_sem, P8]) rfl ⟨(by show Below w.heap.size w V8; rw [hgc]; exact hw8), _, rfl, hr8⟩
end Go.Proofs.YtibjgaelaijgpaaGreatDoor

/- A guarded operation that is not wanted is passed over. -/
namespace Go.Proofs.YtibjgaelaijgpaaGreatDoor
open Go.RowKit Go.Shelf
set_option maxRecDepth 100000
set_option linter.unusedVariables false
set_option linter.unusedSimpArgs false

section
variable {P : Program} {l : List Oper} {Q : Exit → Act → World → Prop} {fuel : Nat} {listed : Array Bool} {a : Act} {w : World} {R : World → World → Prop}
end

end Go.Proofs.YtibjgaelaijgpaaGreatDoor

/- A guarded operation that is the only one to come next. -/
namespace Go.Proofs.YtibjgaelaijgpaaGreatDoor
open Go.RowKit Go.Shelf
set_option maxRecDepth 100000
set_option linter.unusedVariables false
set_option linter.unusedSimpArgs false

section
variable {P : Program} {l : List Oper} {Q : Exit → Act → World → Prop} {fuel : Nat} {listed : Array Bool} {a : Act} {w : World} {R : World → World → Prop}
end

end Go.Proofs.YtibjgaelaijgpaaGreatDoor

/- The law's rewrite; the walk of SipRight. -/
namespace Go.Proofs.YtibjgaelaijgpaaGreatDoor
open Go.RowKit Go.Shelf
set_option maxRecDepth 100000
set_option linter.unusedVariables false
set_option linter.unusedSimpArgs false

/-- How long a message of few headers is. -/
theorem szM_few2 {st : ByteArray} {hs : List Hr} {n : Nat} (h1 : st.size ≤ 140737488351232) (h2 : ∀ o ∈ hs, o.1.size ≤ 140737488351232 ∧ o.2.size ≤ 140737488351232) (h3 : n ≤ 140737488351232) : szM st (hs.take 100) n ≤ 9000000000000000000 ∧ (hs.take 100).length ≤ 100 ∧ ∀ o ∈ hs.take 100, o.1.size ≤ 140737488355328 ∧ o.2.size ≤ 140737488355328 := by
  have hl : (hs.take 100).length ≤ 100 := by rw [List.length_take]; omega
  have h2' : ∀ o ∈ hs.take 100, o.1.size ≤ 140737488351232 ∧ o.2.size ≤ 140737488351232 := fun o ho => h2 o (List.mem_of_mem_take ho)
  generalize hs.take 100 = l at *
  have : ∀ m (l : List Hr), l.length ≤ m → (∀ o ∈ l, o.1.size ≤ 140737488351232 ∧ o.2.size ≤ 140737488351232) → hsz l ≤ m * 281474976702468 := by
    intro m
    induction m with
    | zero => intro l hl _; have : l = [] := List.eq_nil_of_length_eq_zero (by omega); subst this; simp [hsz]
    | succ m ih =>
      intro l hl h
      cases l with
      | nil => simp [hsz]
      | cons a l =>
        have h1 := ih l (by simpa using hl) (fun o ho => h o (by simp [ho]))
        have h2 := h a (by simp)
        unfold hsz at h1 ⊢
        simp only [List.map_cons, List.sum_cons]
        omega
  have h4 := this 100 l hl h2'
  unfold szM
  exact ⟨by omega, hl, fun o ho => by have := h2' o ho; omega⟩

set_option maxRecDepth 100000 in
set_option maxHeartbeats 4000000 in
theorem rewriteL_any (h t p q : Int) (ml : List (Int × Int)) (mv : Value) (st : ByteArray) (sv sb : Value) (hs : List Hr) (zb : List Int) (w : World) (hT : TabI w) (hM : TabM w) (hh : 0 ≤ h ∧ h ≤ 4294967295) (ht : 0 ≤ t ∧ t ≤ 4294967295) (hc : (cgOf h t p q ml).wf) (hI : RdP2 w.heap.size w mv ml) (hH : RdM w.heap.size w sv hs) (hB : Rd w.heap.size w sb zb) (hzl : zb.length ≤ 140737488355328) (hhl : hs.length ≤ 5000) (hz : szM st hs zb.length ≤ 9000000000000000000) :
    Calls Tryz.prog 6 #[.agg #[.string st, sv, sb], .agg #[.int .u32 h, .int .u32 t, .int .u16 p, .int .u16 q, mv]] w fun e w' => Later w w' ∧ ∃ vh vb, e = .returned (.agg #[.string st, vh, vb]) ∧ w'.ownsRow w.heap.size 44 2 vh (rwHs (cgOf h t p q ml) st hs zb).length (hrs (rwHs (cgOf h t p q ml) st hs zb)) ∧ Ow w.heap.size w' vb (rwZb (cgOf h t p q ml) st hs zb) := by
  obtain ⟨sa, scp, rfl, hsc1, hsc2⟩ := hH.slice
  obtain ⟨ba, bcp, rfl, hbc1, hbc2⟩ := hB.slice
  obtain ⟨ma, mc, rfl, hmc1, hmc2⟩ := hI.slice
  have hb4 : Later w (((w.alloc (.cells #[.string st, .slice sa hs.length scp, .slice ba zb.length bcp] 25)).alloc (.cells #[.int .u32 h, .int .u32 t, .int .u16 p, .int .u16 q, .slice ma ml.length mc] 30)).alloc (.cells #[.string ⟨#[]⟩, .slice none 0 0, .slice none 0 0] 25)) := (((Below.refl _ _).alloc (Nat.le_refl _) _).alloc (by simp) _).alloc (by simp <;> omega) _
  have C0 := hide (show (((w.alloc (.cells #[.string st, .slice sa hs.length scp, .slice ba zb.length bcp] 25)).alloc (.cells #[.int .u32 h, .int .u32 t, .int .u16 p, .int .u16 q, .slice ma ml.length mc] 30)).alloc (.cells #[.string ⟨#[]⟩, .slice none 0 0, .slice none 0 0] 25)).heap[w.heap.size]? = some (.cells #[.string st, .slice sa hs.length scp, .slice ba zb.length bcp] 25 (0, 0)) from (Below.heap_alloc _ _ _ (by simp <;> omega)).trans ((Below.heap_alloc _ _ _ (by simp)).trans (heap_alloc_new w _)))
  have C1 : Hid ((((w.alloc (.cells #[.string st, .slice sa hs.length scp, .slice ba zb.length bcp] 25)).alloc (.cells #[.int .u32 h, .int .u32 t, .int .u16 p, .int .u16 q, .slice ma ml.length mc] 30)).alloc (.cells #[.string ⟨#[]⟩, .slice none 0 0, .slice none 0 0] 25)).heap[w.heap.size + 1]? = some (.cells #[.int .u32 h, .int .u32 t, .int .u16 p, .int .u16 q, .slice ma ml.length mc] 30 (0, 0))) := by
    have := heap_alloc_new (w.alloc (.cells #[.string st, .slice sa hs.length scp, .slice ba zb.length bcp] 25)) (.cells #[.int .u32 h, .int .u32 t, .int .u16 p, .int .u16 q, .slice ma ml.length mc] 30)
    rw [World.size_alloc] at this
    exact (Below.heap_alloc _ _ _ (by simp)).trans this
  have C2 : Hid ((((w.alloc (.cells #[.string st, .slice sa hs.length scp, .slice ba zb.length bcp] 25)).alloc (.cells #[.int .u32 h, .int .u32 t, .int .u16 p, .int .u16 q, .slice ma ml.length mc] 30)).alloc (.cells #[.string ⟨#[]⟩, .slice none 0 0, .slice none 0 0] 25)).heap[w.heap.size + 1 + 1]? = some (.cells #[.string ⟨#[]⟩, .slice none 0 0, .slice none 0 0] 25 (0, 0))) := by
    have := heap_alloc_new ((w.alloc (.cells #[.string st, .slice sa hs.length scp, .slice ba zb.length bcp] 25)).alloc (.cells #[.int .u32 h, .int .u32 t, .int .u16 p, .int .u16 q, .slice ma ml.length mc] 30)) (.cells #[.string ⟨#[]⟩, .slice none 0 0, .slice none 0 0] 25)
    simp only [World.size_alloc] at this
    exact this
  have HRW := hide (fun W (l : Later w W) => rewrite14_any h t p q ml _ st _ _ hs zb W (hT.later l) (hM.later l) hh ht hc (hI.later l) (hH.later l) (hB.later l) hzl hhl hz)
  generalize rwHs (cgOf h t p q ml) st hs zb = rh at *
  generalize rwZb (cgOf h t p q ml) st hs zb = rz at *
  go_enter Tryz.func6, Tryz.ntmps6
  go_upto_region 1 with fail
  generalize ((w.alloc (.cells #[.string st, .slice sa hs.length scp, .slice ba zb.length bcp] 25)).alloc (.cells #[.int .u32 h, .int .u32 t, .int .u16 p, .int .u16 q, .slice ma ml.length mc] 30)).alloc (.cells #[.string ⟨#[]⟩, .slice none 0 0, .slice none 0 0] 25) = w4 at *
  generalize hgc : w.heap.size = gc at C0 C1 C2 ⊢
  have k0 := block_cell C0.out
  have k1 := block_cell C1.out
  go_wp2_with fail
  refine (HRW.out w4 hb4).mono ?_
  rintro e w5 ⟨l5, vh, vb, rfl, hr5, hO5⟩
  obtain ⟨va, vc, rfl⟩ := owns_form hr5
  obtain ⟨xa, xc, rfl, _, _⟩ := hO5.slice
  clear k0 k1
  have E2 := later_keep l5 C2.out
  have k2 := block_cell E2
  have f2 := block_frozen E2
  go_wp2_with fail
  generalize hV : (((w5.setCell ⟨gc + 1 + 1, 0, none⟩ _).setCell ⟨gc + 1 + 1, 1, none⟩ _).setCell ⟨gc + 1 + 1, 2, none⟩ _) = V8
  have hV9 : V8 = putRow w5 (gc + 1 + 1) 0 [.string st, .slice va rh.length vc, .slice xa rz.length xc] := hV.symm
  have hb8 : But (fun b => b = gc + 1 + 1) w5 V8 := by rw [hV9]; exact putRow_but (E := fun b => b = gc + 1 + 1) (n := gc + 1 + 1) rfl _ _ _ _ (But.refl _ _)
  have p8 := putRow_all [.string st, .slice va rh.length vc, .slice xa rz.length xc] E2 rfl
  rw [← hV9] at p8
  clear hV hV9
  have P8 := block_cell p8
  have L5 := Later.trans hb4 l5
  have hlt2 := (Array.getElem?_eq_some_iff.1 C2.out).1
  have hw8 : Later w V8 := Below.trans L5 (hb8.below (L5).size (fun k h e => by omega))
  have hr8 := own_but (base' := w.heap.size) hr5 hb8 E2 (by decide) hb4.size
  have hO8 : Ow w.heap.size V8 (.slice xa rz.length xc) rz := (hO5.but hb8 (fun b h e => by omega)).mono hb4.size
  exact bodyPost_ret (v := .agg #[.string st, .slice va rh.length vc, .slice xa rz.length xc]) (by simp [results, Tryz.results6, go_sem, P8]) rfl ⟨hw8, _, _, rfl, hr8, hO8⟩

theorem rwHs_names (c : Cg) (st : ByteArray) (hs : List Hr) (zb : List Int) : (rwHs c st hs zb).length = hs.length ∧ ∀ j (h1 : j < hs.length) (h2 : j < (rwHs c st hs zb).length), (rwHs c st hs zb)[j].1 = hs[j].1 := by
  unfold rwHs
  split
  · unfold mgH
    exact ⟨by simp, fun j h1 h2 => by simp⟩
  · exact ⟨rfl, fun j h1 h2 => rfl⟩
end Go.Proofs.YtibjgaelaijgpaaGreatDoor

/- The laws' lower and has; what names a host nowhere stays. -/
namespace Go.Proofs.YtibjgaelaijgpaaGreatDoor
open Go.RowKit Go.Shelf
set_option maxRecDepth 100000
set_option linter.unusedVariables false
set_option linter.unusedSimpArgs false


open Classical in
open Classical in
open Classical in
open Classical in
theorem low_vi (s : ByteArray) : ((strOfNums (lowZ s)).toList == [118, 105, 97]) = swV s viN := by
  rw [← low_eq, ← str_beq, ByteArray.toList_eq (strOfNums (lowZ viN))]
  congr 1
theorem low_ct (s : ByteArray) : ((strOfNums (lowZ s)).toList == [99, 111, 110, 116, 97, 99, 116]) = swV s ctN := by
  rw [← low_eq, ← str_beq, ByteArray.toList_eq (strOfNums (lowZ ctN))]
  congr 1
theorem low_cn (s : ByteArray) : ((strOfNums (lowZ s)).toList == [99, 111, 110, 116, 101, 110, 116, 45, 108, 101, 110, 103, 116, 104]) = swV s clN := by
  rw [← low_eq, ← str_beq, ByteArray.toList_eq (strOfNums (lowZ clN))]
  congr 1
end Go.Proofs.YtibjgaelaijgpaaGreatDoor

/- A text cut at the first of another: where it is. -/
namespace Go.Proofs.YtibjgaelaijgpaaGreatDoor
open Go.RowKit Go.Shelf
set_option maxRecDepth 100000
set_option linter.unusedVariables false
set_option linter.unusedSimpArgs false

theorem cut_uniq {s p a z : ByteArray} (h : s = a ++ (p ++ z)) (hn : Lib.NoOcc s.data.toList p.data.toList a.size) : cutF s p = true ∧ cutA s p = a ∧ cutZ s p = z := by
  have hl : s.data.toList = a.data.toList ++ (p.data.toList ++ z.data.toList) := by rw [h, ba_app, ba_app]
  have ho : Lib.occAt s.data.toList p.data.toList a.size = true := by
    unfold Lib.occAt
    rw [hl, ba_len, List.drop_left, List.isPrefixOf_iff_prefix]
    exact List.prefix_append _ _
  rcases cut_spec s p with ⟨hf, he, hn'⟩ | ⟨_, _, _, hno⟩
  · have ho' : Lib.occAt s.data.toList p.data.toList (cutA s p).size = true := by
      unfold Lib.occAt
      conv => lhs; arg 2; rw [he]
      rw [ba_len, List.drop_left, List.isPrefixOf_iff_prefix]
      exact List.prefix_append _ _
    have hsz : (cutA s p).size = a.size := by
      rcases Nat.lt_trichotomy (cutA s p).size a.size with h1 | h1 | h1
      · rw [hn _ h1] at ho'; cases ho'
      · exact h1
      · rw [hn' _ h1] at ho; cases ho
    rw [hl] at he
    obtain ⟨e1, e2⟩ := List.append_inj he (by rw [← ba_len, ← ba_len, hsz])
    have e3 := List.append_cancel_left e2
    exact ⟨hf, (ba_ext e1).symm, (ba_ext e3).symm⟩
  · have : a.size ≤ s.size := by rw [h, ByteArray.size_append]; omega
    rw [hno _ this] at ho
    cases ho
theorem noOcc1 {a r : List UInt8} {c : UInt8} (h : c ∉ a) : Lib.NoOcc (a ++ r) [c] a.length := fun j hj => by
  unfold Lib.occAt
  have : a[j] ≠ c := fun e => h (e ▸ List.getElem_mem hj)
  rw [List.drop_append_of_le_length (by omega), List.drop_eq_getElem_cons hj, List.cons_append]
  show ((c == a[j]) && _) = false
  rw [beq_false_of_ne (Ne.symm this)]
  rfl
theorem allB_nms (q : Int → Bool) (s : ByteArray) : allB q s = (nmsB s).all q := by
  rw [Bool.eq_iff_iff, List.all_eq_true]
  unfold allB
  rw [decide_eq_true_eq]
  constructor
  · intro h z hz
    obtain ⟨i, hi, rfl⟩ := List.getElem_of_mem hz
    have hi' : i < s.size := by rw [← nmsB_len]; exact hi
    have := h i hi'
    rw [nmsB_at s i hi', List.getElem?_eq_getElem hi] at this
    exact this
  · intro h j hj
    have hj' : j < (nmsB s).length := by rw [nmsB_len]; exact hj
    rw [nmsB_at s j hj, List.getElem?_eq_getElem hj']
    exact h _ (List.getElem_mem hj')
end Go.Proofs.YtibjgaelaijgpaaGreatDoor

/- A message whose places are a host's, changed: mathematics. -/
namespace Go.Proofs.YtibjgaelaijgpaaGreatDoor
open Go.RowKit Go.Shelf
set_option maxRecDepth 100000
set_option linter.unusedVariables false
set_option linter.unusedSimpArgs false

/-- A text of digits and dots. -/
def DgD (s : ByteArray) : Prop := ∀ u ∈ s.data.toList, (48 ≤ u.toNat ∧ u.toNat ≤ 57) ∨ u.toNat = 46
theorem decB_dgd (n : Nat) : DgD (decB n) := fun u hu => by
  have h1 : (u.toNat : Int) ∈ dg n := by unfold dg nmsB; exact List.mem_map.2 ⟨u, hu, rfl⟩
  have := dgt_rng (dg_dgt n _ h1)
  omega
theorem dgd_app {s t : ByteArray} (hs : DgD s) (ht : DgD t) : DgD (s ++ t) := fun u hu => by
  rw [ba_app] at hu
  rcases List.mem_append.1 hu with h | h
  · exact hs u h
  · exact ht u h
theorem dgd_dot : DgD tDot := fun u hu => by simp [tDot] at hu; subst hu; decide
theorem adB_form (a : Int) : adB a = decB (a / 16777216).toNat ++ (tDot ++ (decB (a / 65536 % 256).toNat ++ (tDot ++ (decB (a / 256 % 256).toNat ++ (tDot ++ decB (a % 256).toNat))))) := by
  apply ba_ext
  unfold adB rowB ad4
  simp only [List.map_cons, List.map_nil, join_two]
  simp [Lib.join]
theorem adB_dgd (a : Int) : DgD (adB a) := by
  rw [adB_form]
  exact dgd_app (decB_dgd _) (dgd_app dgd_dot (dgd_app (decB_dgd _) (dgd_app dgd_dot (dgd_app (decB_dgd _) (dgd_app dgd_dot (decB_dgd _))))))
end Go.Proofs.YtibjgaelaijgpaaGreatDoor

/- Package sip: a message's bytes taken apart: mathematics. -/
namespace Go.Proofs.YtibjgaelaijgpaaGreatDoor
open Go.RowKit Go.Shelf
set_option maxRecDepth 100000
set_option linter.unusedVariables false
set_option linter.unusedSimpArgs false

/-- What stands behind so many lines. -/
def itZ : Nat → ByteArray → ByteArray
  | 0, t => t
  | k + 1, t => itZ k (cutZ t crB)
/-- How many bytes lines have. -/
def tkn (l : List (ByteArray × ByteArray)) : Nat := (l.map fun x => x.1.size + x.2.size).sum
theorem betw_yes {s p : ByteArray} (h : cutF s p = true) : betw s p = p := by
  rcases cut_spec s p with ⟨_, he, _⟩ | ⟨hf, _⟩
  · have hl := congrArg List.length he
    rw [List.length_append, List.length_append, ← ba_len, ← ba_len, ← ba_len, ← ba_len] at hl
    apply ba_ext
    unfold betw
    rw [ba_ext_list, he]
    have e1 : s.size - (cutZ s p).size = (cutA s p).size + p.size := by omega
    rw [e1, ← List.append_assoc, List.take_left' (by rw [List.length_append, ← ba_len, ← ba_len]), List.drop_left' (by rw [← ba_len])]
  · rw [h] at hf; cases hf
theorem betw_no {s p : ByteArray} (h : cutF s p = false) : betw s p = ⟨#[]⟩ := by
  rcases cut_spec s p with ⟨hf, _⟩ | ⟨_, ha, hz, _⟩
  · rw [h] at hf; cases hf
  · apply ba_ext
    unfold betw
    rw [ba_ext_list, ha, hz]
    rw [List.drop_eq_nil_of_le]
    rw [List.length_take]
    have : ByteArray.size ⟨#[]⟩ = 0 := rfl
    omega
theorem cut_all (s p : ByteArray) : s.data.toList = (cutA s p).data.toList ++ ((betw s p).data.toList ++ (cutZ s p).data.toList) := by
  rcases cut_spec s p with ⟨hf, he, _⟩ | ⟨hf, ha, hz, _⟩
  · rw [betw_yes hf]; exact he
  · rw [betw_no hf, ha, hz]; simp
theorem cut_yes {s p : ByteArray} (h : cutF s p = true) : s = cutA s p ++ (p ++ cutZ s p) := by
  apply ba_ext
  rw [ba_app, ba_app]
  have := cut_all s p
  rwa [betw_yes h] at this
theorem cut_no {s p : ByteArray} (h : cutF s p = false) : cutA s p = s ∧ cutZ s p = ⟨#[]⟩ := by
  rcases cut_spec s p with ⟨hf, _⟩ | ⟨_, ha, hz, _⟩
  · rw [h] at hf; cases hf
  · exact ⟨ha, hz⟩
/-- A header's line, taken apart. -/
def hdO (l : ByteArray) : Hr := (cutA l nmE, cutZ l nmE)
/-- Headers and body of a text. -/
def spF : Nat → ByteArray → Option (List Hr × ByteArray)
  | 0, _ => none
  | n + 1, t => if t.size = 0 then none else if (cutA t crB).size = 0 then some ([], cutZ t crB) else if cutF (cutA t crB) nmE = false then none else (spF n (cutZ t crB)).map fun r => (hdO (cutA t crB) :: r.1, r.2)
def spT (t : ByteArray) : Option (List Hr × ByteArray) := spF t.size t
/-- Headers that were taken already. -/
def ppd (hs : List Hr) (r : Option (List Hr × ByteArray)) : Option (List Hr × ByteArray) := r.map fun r => (hs ++ r.1, r.2)
theorem str_nms (s : ByteArray) : strOfNums (nmsB s) = s := by
  apply ba_ext
  have h1 := nmsB_str (nmsB s) (nmsB_by s)
  unfold nmsB at h1
  refine List.map_inj_right (f := fun b : UInt8 => (b.toNat : Int)) (fun a b h => ?_) |>.1 h1
  have h' : (a.toNat : Int) = (b.toNat : Int) := h
  exact UInt8.toNat_inj.1 (by omega)
end Go.Proofs.YtibjgaelaijgpaaGreatDoor
