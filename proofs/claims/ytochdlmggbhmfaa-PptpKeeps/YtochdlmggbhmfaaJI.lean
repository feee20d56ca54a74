/- The walk of PptpKeeps. -/
import Derived.Test.YtochdlmggbhmfaaJH
namespace Go.Proofs.Ytochdlmggbhmfaa
open Go.RowKit Go.Shelf
set_option maxRecDepth 100000
set_option linter.unusedVariables false
set_option linter.unusedSimpArgs false

set_option maxHeartbeats 8000000 in
theorem walk_PptpKeeps (w : World) (sv : Value) (zs : List Int) (hB : Mt.By zs) (hI : Rd w.heap.size w sv zs) (hl : zs.length ≤ 140737488351232) (v : Int) (hv : 0 ≤ v ∧ v ≤ 65535) :
    Calls Try.prog 5 #[sv, .int .u16 v] w fun e w' => e = .returned (.bool true) ∧ Below w.heap.size w w' := by
  obtain ⟨a, cap, rfl, hl1, hm1⟩ := hI.slice
  have HPA := hide (parse15_any _ zs hB w (Nat.le_refl _) hI)
  have HWC := hide (fun u (hr : Rd u.heap.size u (.slice a zs.length cap) zs) => withCall_any _ zs hB v hv u (by omega) hr)
  have HWP := hide (fun u (hr : Rd u.heap.size u (.slice a zs.length cap) zs) => withPeer_any _ zs hB v hv u (by omega) hr)
  by_cases c0 : lye zs = 0
  · have hle := (lye_yes c0).2.1
    have HKC := hide (keep_call c0 v hv.1)
    have HKP := hide (keep_peer c0 v hv.1)
    have HDC := hide (dif_put zs (lyC zs) v zs.length)
    have HDP := hide (dif_put zs (lyP zs) v zs.length)
    have hxl : (putAt2 zs (lyC zs) v).length = zs.length := putAt2_length _ _ _
    have hyl : (putAt2 zs (lyP zs) v).length = zs.length := putAt2_length _ _ _
    have hxb := By_putAt2 hB (lyC zs) hv
    have hyb := By_putAt2 hB (lyP zs) hv
    have HXL := hide hxl
    have HYL := hide hyl
    rw [c0] at HPA
    clear c0 hxl hyl
    generalize putAt2 zs (lyC zs) v = xs at *
    generalize putAt2 zs (lyP zs) v = ys at *
    generalize pmT zs = mt at *
    generalize getAt2 zs (lyC zs) = mc at *
    generalize getAt2 zs (lyP zs) = mp at *
    generalize pmR zs = mr at *
    have hle' : (zs.length : Int) ≤ 65535 := by omega
    go_enter Try.func5, Try.ntmps5
    go_wp2_with fail
    refine HPA.out.mono ?_
    rintro e w2 ⟨rfl, l2⟩
    have rM := heap_alloc_new w2 (.cells #[.int .i64 mt, .int .u16 mc, .int .u16 mp, .int .u8 mr] 25)
    have l3 : Later w (w2.alloc (.cells #[.int .i64 mt, .int .u16 mc, .int .u16 mp, .int .u8 mr] 25)) := l2.trans (later_alloc _ _)
    have RM := hide rM
    clear HPA l2 rM
    go_upto_region 2 with fail
    generalize w2.alloc _ = w3 at *
    go_wp2_with fail
    refine (HWC.out w3 ((hI.below l3).mono l3.size)).mono ?_
    rintro e w4 ⟨a4, rfl, hO4, l4⟩
    have l4' : Later w w4 := l3.trans l4
    go_wp2_with fail
    refine (HWP.out w4 ((hI.below l4').mono l4'.size)).mono ?_
    rintro e w5 ⟨a5, rfl, hO5, l5⟩
    have l5' : Later w w5 := l4'.trans l5
    have hw4 : w.heap.size ≤ w4.heap.size := l4'.size
    have hw5 : w.heap.size ≤ w5.heap.size := l5'.size
    have hX := hO4.rd.below l5
    have hY := hO5.rd
    have RM5 := hide (((l4.trans l5).block w2.heap.size (Array.getElem?_eq_some_iff.1 RM.out).1).trans RM.out)
    have hs45 : w4.heap.size ≤ w5.heap.size := l5.size
    clear HWC HWP hO4 hO5 l4' l3 RM l4 l5
    have HPX := hide (parse15_any _ xs hxb w5 hs45 hX)
    rw [HKC.out.1, HKC.out.2] at HPX
    go_wp2_with fail
    refine HPX.out.mono ?_
    rintro e w6 ⟨rfl, l6⟩
    obtain ⟨mc2, HM2⟩ : ∃ m, Hid ((if mt = 15 then mc else v) = m) := ⟨_, rfl⟩
    rw [HM2.out]
    have rX := heap_alloc_new w6 (.cells #[.int .i64 mt, .int .u16 mc2, .int .u16 mp, .int .u8 mr] 25)
    have RX := hide rX
    have l7 : Later w5 (w6.alloc (.cells #[.int .i64 mt, .int .u16 mc2, .int .u16 mp, .int .u8 mr] 25)) := l6.trans (later_alloc _ _)
    clear HPX l6 rX HKC
    go_upto_region 6 with fail
    generalize w6.alloc _ = w7 at *
    have HPY := hide (parse15_any _ ys hyb w7 (Nat.le_refl _) ((hY.below l7).mono l7.size))
    rw [HKP.out.1, HKP.out.2] at HPY
    go_wp2_with fail
    refine HPY.out.mono ?_
    rintro e w8 ⟨rfl, l8⟩
    obtain ⟨mp2, HM3⟩ : ∃ m, Hid ((if mt = 15 ∨ mt = 8 then v else mp) = m) := ⟨_, rfl⟩
    rw [HM3.out]
    have rY := heap_alloc_new w8 (.cells #[.int .i64 mt, .int .u16 mc, .int .u16 mp2, .int .u8 mr] 25)
    have RY := hide rY
    have l9 : Later w7 (w8.alloc (.cells #[.int .i64 mt, .int .u16 mc, .int .u16 mp2, .int .u8 mr] 25)) := l8.trans (later_alloc _ _)
    clear HPY l8 rY HKP
    go_upto_region 7 with fail
    generalize w8.alloc _ = w9 at *
    have L9 : Later w w9 := l5'.trans (l7.trans l9)
    have RM9 := hide (((l7.trans l9).block w2.heap.size (Array.getElem?_eq_some_iff.1 RM5.out).1).trans RM5.out)
    have RX9 := hide ((l9.block w6.heap.size (Array.getElem?_eq_some_iff.1 RX.out).1).trans RX.out)
    have hX9 := hX.below (Later.below (Below.refl _ _) hs45 (l7.trans l9))
    have hY9 := hY.below (l7.trans l9)
    have hI9 := hI.below L9
    have hs49 : w4.heap.size ≤ w9.heap.size := Nat.le_trans hs45 (l7.trans l9).size
    have hs59 : w5.heap.size ≤ w9.heap.size := (l7.trans l9).size
    have hM9 := (Array.getElem?_eq_some_iff.1 RM9.out).1
    have hX9' := (Array.getElem?_eq_some_iff.1 RX9.out).1
    have hY9' := (Array.getElem?_eq_some_iff.1 RY.out).1
    clear hX hY RM5 RX l5' l7 l9 hs45
    go_cut [13, 14] (fun p q wx => ∃ g h, p = .pointer (some ⟨g, 0, none⟩) ∧ q = .pointer (some ⟨h, 0, none⟩) ∧ g ≠ h ∧ w9.heap.size ≤ g ∧ w9.heap.size ≤ h ∧ wx.heap[g]? = some (.cells (List.toArray [.int .i64 mt, .int .u16 mc, .int .u16 mp, .int .u8 mr]) 25 (0, 0)) ∧ wx.heap[h]? = some (.cells (List.toArray [.int .i64 mt, .int .u16 mc, .int .u16 mp, .int .u8 mr]) 25 (0, 0)) ∧ Later w9 wx)
    case first =>
      refine anyR_begin (R := KI w9.heap.size 25 4 (List.toArray [.int .i64 mt, .int .u16 mc, .int .u16 mp, .int .u8 mr])) (KI.pre _ _ _ _) (fun w => KI.of (Later.drew w)) 6 rfl (by kernel_rfl) (fun W0 hW0 => ?_)
      have ha : ∀ v1, KI w9.heap.size 25 4 (List.toArray [.int .i64 mt, .int .u16 mc, .int .u16 mp, .int .u8 mr]) W0 v1 → ∀ j, v1.cell? ⟨w2.heap.size, j, none⟩ = #[Value.int .i64 mt, .int .u16 mc, .int .u16 mp, .int .u8 mr][j]? := fun v1 h => block_cell (((hW0.trans h).1.block w2.heap.size hM9 (by omega)).trans RM9.out)
      refine anyR_val (KI.pre _ _ _ _) 0 rfl (by kernel_rfl) (by kernel_rfl) (by kernel_rfl) (fun _ _ _ _ h => h) rfl ?_; apply Exists.intro; refine ⟨fun v1 hv1 => ?_, ?_⟩; (· (go_simp; rfl)); simp only [Act.put, List.setIfInBounds_toArray, List.set_cons_zero, List.set_cons_succ]
      refine anyR_val (KI.pre _ _ _ _) 1 rfl (by kernel_rfl) (by kernel_rfl) (by kernel_rfl) (fun _ _ _ _ h => h) rfl ?_; apply Exists.intro; refine ⟨fun v1 hv1 => ?_, ?_⟩; (· (go_simp; rfl)); simp only [Act.put, List.setIfInBounds_toArray, List.set_cons_zero, List.set_cons_succ]
      clear ha
      refine anyR_two 2 3 rfl rfl (by kernel_rfl) rfl rfl (fun V1 hV1 => ?_) (fun V1 hV1 => ?_)
      · unfold Oper.wp
        go_simp
        refine ⟨KI.of (later_alloc _ _), ?_⟩
        refine anyR_one 3 rfl (by kernel_rfl) rfl (fun V2 hV2 => ?_)
        unfold Oper.wp
        go_simp
        refine ⟨KI.of (later_alloc _ _), ?_⟩
        refine anyR_one 4 rfl (by kernel_rfl) rfl (fun V3 hV3 => ?_)
        have s1 : w9.heap.size ≤ V1.heap.size := (hW0.trans hV1).1.size
        have s2 : V1.heap.size < V2.heap.size := by have := hV2.1.size; simp at this; omega
        have wr1 : Wr V1.heap.size 4 25 V3 := hV3.2.1 _ (Wr.later (hV2.2.1 _ ⟨_, heap_alloc_new V1 _, rfl⟩) (later_alloc _ _))
        have wr2 : Wr V2.heap.size 4 25 V3 := hV3.2.1 _ ⟨_, heap_alloc_new V2 _, rfl⟩
        have C3 := ((((hW0.trans hV1).trans (KI.of (later_alloc _ _))).trans hV2).trans (KI.of (later_alloc _ _))).trans hV3
        clear hV3 hV2 hV1
        generalize V1.heap.size = g at *
        generalize V2.heap.size = h at *
        have hst := KI.store (n₁ := w9.heap.size) [.int .i64 mt, .int .u16 mc, .int .u16 mp, .int .u8 mr] (show w9.heap.size ≤ g by omega) wr1 rfl
        obtain ⟨cur, hcur, hsz⟩ := wr1
        have k7 := block_cell hcur
        have f7 := block_frozen hcur
        have HS := hide hst
        clear hst
        unfold Oper.wp
        go_simp
        generalize hV : (((V3.setCell ⟨g, 0, none⟩ _).setCell ⟨g, 1, none⟩ _).setCell ⟨g, 2, none⟩ _).setCell ⟨g, 3, none⟩ _ = V4
        have hV9 : V4 = putRow V3 g 0 [.int .i64 mt, .int .u16 mc, .int .u16 mp, .int .u8 mr] := hV.symm
        have hst := HS.out
        rw [← hV9] at hst
        clear hV hV9 HS k7 f7 hcur hsz
        refine ⟨hst.1, ?_⟩
        refine anyR_one 5 rfl (by kernel_rfl) rfl (fun V5 hV5 => ?_)
        have wr5 : Wr h 4 25 V5 := hV5.2.1 _ (hst.1.2.1 _ wr2)
        have pg5 := hV5.2.2 _ hst.2
        have C5 := (C3.trans hst.1).trans hV5
        clear hst hV5 C3
        have hst2 := KI.store (n₁ := w9.heap.size) [.int .i64 mt, .int .u16 mc, .int .u16 mp, .int .u8 mr] (show w9.heap.size ≤ h by omega) wr5 rfl
        obtain ⟨cur, hcur, hsz⟩ := wr5
        have k7 := block_cell hcur
        have f7 := block_frozen hcur
        have HS := hide hst2
        have PG5 := hide pg5
        clear hst2 pg5
        unfold Oper.wp
        go_simp
        generalize hV : (((V5.setCell ⟨h, 0, none⟩ _).setCell ⟨h, 1, none⟩ _).setCell ⟨h, 2, none⟩ _).setCell ⟨h, 3, none⟩ _ = V6
        have hV9 : V6 = putRow V5 h 0 [.int .i64 mt, .int .u16 mc, .int .u16 mp, .int .u8 mr] := hV.symm
        have hst2 := HS.out
        rw [← hV9] at hst2
        clear hV hV9 HS k7 f7 hcur hsz
        refine ⟨hst2.1, anyR_done (by kernel_rfl) (fun V7 hV7 => ?_)⟩
        have pg := hide (hV7.2.2 _ (hst2.1.2.2 _ PG5.out))
        have ph := hide (hV7.2.2 _ hst2.2)
        have LL : Later w9 V7 := ((C5.trans hst2.1).trans hV7).1.below (Nat.le_refl _) (fun k hk e => by omega)
        clear hV7 hst2 C5 PG5
        go_wp2_with fail
        go_meet
        case rel => exact ⟨_, _, rfl, rfl, by omega, by omega, by omega, pg.out, ph.out, LL⟩
      · unfold Oper.wp
        go_simp
        refine ⟨KI.of (later_alloc _ _), ?_⟩
        refine anyR_one 2 rfl (by kernel_rfl) rfl (fun V2 hV2 => ?_)
        unfold Oper.wp
        go_simp
        refine ⟨KI.of (later_alloc _ _), ?_⟩
        refine anyR_one 4 rfl (by kernel_rfl) rfl (fun V3 hV3 => ?_)
        have s1 : w9.heap.size ≤ V1.heap.size := (hW0.trans hV1).1.size
        have s2 : V1.heap.size < V2.heap.size := by have := hV2.1.size; simp at this; omega
        have wr1 : Wr V1.heap.size 4 25 V3 := hV3.2.1 _ (Wr.later (hV2.2.1 _ ⟨_, heap_alloc_new V1 _, rfl⟩) (later_alloc _ _))
        have wr2 : Wr V2.heap.size 4 25 V3 := hV3.2.1 _ ⟨_, heap_alloc_new V2 _, rfl⟩
        have C3 := ((((hW0.trans hV1).trans (KI.of (later_alloc _ _))).trans hV2).trans (KI.of (later_alloc _ _))).trans hV3
        clear hV3 hV2 hV1
        generalize V1.heap.size = h at *
        generalize V2.heap.size = g at *
        have hst := KI.store (n₁ := w9.heap.size) [.int .i64 mt, .int .u16 mc, .int .u16 mp, .int .u8 mr] (show w9.heap.size ≤ g by omega) wr2 rfl
        obtain ⟨cur, hcur, hsz⟩ := wr2
        have k7 := block_cell hcur
        have f7 := block_frozen hcur
        have HS := hide hst
        clear hst
        unfold Oper.wp
        go_simp
        generalize hV : (((V3.setCell ⟨g, 0, none⟩ _).setCell ⟨g, 1, none⟩ _).setCell ⟨g, 2, none⟩ _).setCell ⟨g, 3, none⟩ _ = V4
        have hV9 : V4 = putRow V3 g 0 [.int .i64 mt, .int .u16 mc, .int .u16 mp, .int .u8 mr] := hV.symm
        have hst := HS.out
        rw [← hV9] at hst
        clear hV hV9 HS k7 f7 hcur hsz
        refine ⟨hst.1, ?_⟩
        refine anyR_one 5 rfl (by kernel_rfl) rfl (fun V5 hV5 => ?_)
        have wr5 : Wr h 4 25 V5 := hV5.2.1 _ (hst.1.2.1 _ wr1)
        have pg5 := hV5.2.2 _ hst.2
        have C5 := (C3.trans hst.1).trans hV5
        clear hst hV5 C3
        have hst2 := KI.store (n₁ := w9.heap.size) [.int .i64 mt, .int .u16 mc, .int .u16 mp, .int .u8 mr] (show w9.heap.size ≤ h by omega) wr5 rfl
        obtain ⟨cur, hcur, hsz⟩ := wr5
        have k7 := block_cell hcur
        have f7 := block_frozen hcur
        have HS := hide hst2
        have PG5 := hide pg5
        clear hst2 pg5
        unfold Oper.wp
        go_simp
        generalize hV : (((V5.setCell ⟨h, 0, none⟩ _).setCell ⟨h, 1, none⟩ _).setCell ⟨h, 2, none⟩ _).setCell ⟨h, 3, none⟩ _ = V6
        have hV9 : V6 = putRow V5 h 0 [.int .i64 mt, .int .u16 mc, .int .u16 mp, .int .u8 mr] := hV.symm
        have hst2 := HS.out
        rw [← hV9] at hst2
        clear hV hV9 HS k7 f7 hcur hsz
        refine ⟨hst2.1, anyR_done (by kernel_rfl) (fun V7 hV7 => ?_)⟩
        have pg := hide (hV7.2.2 _ (hst2.1.2.2 _ PG5.out))
        have ph := hide (hV7.2.2 _ hst2.2)
        have LL : Later w9 V7 := ((C5.trans hst2.1).trans hV7).1.below (Nat.le_refl _) (fun k hk e => by omega)
        clear hV7 hst2 C5 PG5
        go_wp2_with fail
        go_meet
        case rel => exact ⟨_, _, rfl, rfl, by omega, by omega, by omega, pg.out, ph.out, LL⟩
    case rest =>
      obtain ⟨g, h, rfl, rfl, hgh, hg9, hh9, rU, rV, Lc⟩ := hcut
      have hgh2 : h ≠ g := fun e => hgh e.symm
      have RU0 := hide rU
      have RV0 := hide rV
      have HXR : Hid (∀ v, Later w9 v → Rd w4.heap.size v (.slice a4 zs.length zs.length) xs) := fun v hv => hX9.below (hv.mono hs49)
      have HYR : Hid (∀ v, Later w9 v → Rd w5.heap.size v (.slice a5 zs.length zs.length) ys) := fun v hv => hY9.below (hv.mono hs59)
      have HZR : Hid (∀ v, Later w9 v → Rd w4.heap.size v (.slice a zs.length cap) zs) := fun v hv => (hI9.below (hv.mono L9.size)).mono hw4
      have HZR5 : Hid (∀ v, Later w9 v → Rd w5.heap.size v (.slice a zs.length cap) zs) := fun v hv => (hI9.below (hv.mono L9.size)).mono hw5
      clear rU rV
      have hgs := (Array.getElem?_eq_some_iff.1 RU0.out).1
      have hhs := (Array.getElem?_eq_some_iff.1 RV0.out).1
      have kM := block_cell ((Lc.block w2.heap.size hM9).trans RM9.out)
      have kU := block_cell RU0.out
      have fU := block_frozen RU0.out
      have kV := block_cell RV0.out
      have fV := block_frozen RV0.out
      by_cases c15 : mt = 15
      · have t1 : (mt != 15) = false := by simp [c15]
        have t2 : (mt == 15) = true := by simp [c15]
        have t3 : (mt == 8) = false := by simp [c15]
        have em : mc2 = mc := by have := HM2.out; rw [if_pos c15] at this; exact this.symm
        have ep : mp2 = v := by have := HM3.out; rw [if_pos (.inl c15)] at this; exact this.symm
        subst em ep
        have RU := hide ((Below.heap_setCell wc ⟨h, 2, none⟩ (.int .u16 mp2) g (by simpa using hgh)).trans RU0.out)
        have RV := hide (heap_set1 RV0.out 2 (.int .u16 mp2))
        have LD : Hid (Later w9 (wc.setCell ⟨h, 2, none⟩ (.int .u16 mp2))) := Below.setCell Lc (p := ⟨h, 2, none⟩) hh9 _
        clear c15 HM2 HM3
        go_upto_region 12 with fail
        generalize wc.setCell ⟨h, 2, none⟩ _ = wd at *
        have Ld : Later w9 wd := LD.out
        clear kU fU kV fV kM LD RU0 RV0 Lc
        go_wp2_with fail
        refine (live15_any wd).mono ?_
        rintro e we ⟨rfl, le⟩
        have cu := block_cell ((le.block g (Array.getElem?_eq_some_iff.1 RU.out).1).trans RU.out)
        have cv := block_cell ((le.block h (Array.getElem?_eq_some_iff.1 RV.out).1).trans RV.out)
        have cX := block_cell (((Ld.trans le).block w6.heap.size hX9').trans RX9.out)
        have cY := block_cell (((Ld.trans le).block w8.heap.size hY9').trans RY.out)
        have Le : Later w9 we := Ld.trans le
        simp at cu cv
        go_wp2_with fail
        refine (differ_any _ _ xs zs HXL.out hle we (Nat.le_trans hs49 Le.size) (HXR.out we Le) (HZR.out we Le)).mono ?_
        obtain ⟨d1, HD1⟩ : ∃ d, Hid (dif xs zs zs.length = d) := ⟨_, rfl⟩
        have hd1 := HDC.out
        rw [HD1.out] at hd1 ⊢
        rintro e wf ⟨rfl, lf⟩
        have td1 : (d1 : Int) ≤ 2 := by omega
        go_wp2_with fail
        refine (differ_any _ _ ys zs HYL.out hle wf (Nat.le_trans hs59 (Le.trans lf).size) (HYR.out wf (Le.trans lf)) (HZR5.out wf (Le.trans lf))).mono ?_
        obtain ⟨d2, HD2⟩ : ∃ d, Hid (dif ys zs zs.length = d) := ⟨_, rfl⟩
        have hd2 := HDP.out
        rw [HD2.out] at hd2 ⊢
        rintro e wg ⟨rfl, lg⟩
        have td2 : (d2 : Int) ≤ 2 := by omega
        go_wp2_with fail
        go_ret
        exact ⟨rfl, L9.trans (Le.trans (lf.trans lg))⟩
      have t1 : (mt != 15) = true := by simp [c15]
      have t2 : (mt == 15) = false := by simp [c15]
      have em : mc2 = v := by have := HM2.out; rw [if_neg c15] at this; exact this.symm
      subst em
      have RU1 := heap_set1 RU0.out 1 (.int .u16 mc2)
      have RV1 := (Below.heap_setCell wc ⟨g, 1, none⟩ (.int .u16 mc2) h (by simpa using hgh2)).trans RV0.out
      have LD1 : Later w9 (wc.setCell ⟨g, 1, none⟩ (.int .u16 mc2)) := Below.setCell Lc (p := ⟨g, 1, none⟩) hg9 _
      by_cases c8 : mt = 8
      · have t3 : (mt == 8) = true := by simp [c8]
        have ep : mp2 = mc2 := by have := HM3.out; rw [if_pos (.inr c8)] at this; exact this.symm
        subst ep
        have RU := hide ((Below.heap_setCell (wc.setCell ⟨g, 1, none⟩ (.int .u16 mp2)) ⟨h, 2, none⟩ (.int .u16 mp2) g (by simpa using hgh)).trans RU1)
        have RV := hide (heap_set1 RV1 2 (.int .u16 mp2))
        have LD : Hid (Later w9 ((wc.setCell ⟨g, 1, none⟩ (.int .u16 mp2)).setCell ⟨h, 2, none⟩ (.int .u16 mp2))) := Below.setCell LD1 (p := ⟨h, 2, none⟩) hh9 _
        clear c15 HM2 HM3 c8 RU1 RV1 LD1
        go_upto_region 12 with fail
        generalize (wc.setCell ⟨g, 1, none⟩ _).setCell ⟨h, 2, none⟩ _ = wd at *
        have Ld : Later w9 wd := LD.out
        clear kU fU kV fV kM LD RU0 RV0 Lc
        go_wp2_with fail
        refine (live15_any wd).mono ?_
        rintro e we ⟨rfl, le⟩
        have cu := block_cell ((le.block g (Array.getElem?_eq_some_iff.1 RU.out).1).trans RU.out)
        have cv := block_cell ((le.block h (Array.getElem?_eq_some_iff.1 RV.out).1).trans RV.out)
        have cX := block_cell (((Ld.trans le).block w6.heap.size hX9').trans RX9.out)
        have cY := block_cell (((Ld.trans le).block w8.heap.size hY9').trans RY.out)
        have Le : Later w9 we := Ld.trans le
        simp at cu cv
        go_wp2_with fail
        refine (differ_any _ _ xs zs HXL.out hle we (Nat.le_trans hs49 Le.size) (HXR.out we Le) (HZR.out we Le)).mono ?_
        obtain ⟨d1, HD1⟩ : ∃ d, Hid (dif xs zs zs.length = d) := ⟨_, rfl⟩
        have hd1 := HDC.out
        rw [HD1.out] at hd1 ⊢
        rintro e wf ⟨rfl, lf⟩
        have td1 : (d1 : Int) ≤ 2 := by omega
        go_wp2_with fail
        refine (differ_any _ _ ys zs HYL.out hle wf (Nat.le_trans hs59 (Le.trans lf).size) (HYR.out wf (Le.trans lf)) (HZR5.out wf (Le.trans lf))).mono ?_
        obtain ⟨d2, HD2⟩ : ∃ d, Hid (dif ys zs zs.length = d) := ⟨_, rfl⟩
        have hd2 := HDP.out
        rw [HD2.out] at hd2 ⊢
        rintro e wg ⟨rfl, lg⟩
        have td2 : (d2 : Int) ≤ 2 := by omega
        go_wp2_with fail
        go_ret
        exact ⟨rfl, L9.trans (Le.trans (lf.trans lg))⟩
      · have t3 : (mt == 8) = false := by simp [c8]
        have ep : mp2 = mp := by have := HM3.out; rw [if_neg (fun e => e.elim c15 c8)] at this; exact this.symm
        subst ep
        have RU := hide RU1
        have RV := hide RV1
        have LD := hide LD1
        clear c15 HM2 HM3 c8 RU1 RV1 LD1
        go_upto_region 12 with fail
        generalize wc.setCell ⟨g, 1, none⟩ _ = wd at *
        have Ld : Later w9 wd := LD.out
        clear kU fU kV fV kM LD RU0 RV0 Lc
        go_wp2_with fail
        refine (live15_any wd).mono ?_
        rintro e we ⟨rfl, le⟩
        have cu := block_cell ((le.block g (Array.getElem?_eq_some_iff.1 RU.out).1).trans RU.out)
        have cv := block_cell ((le.block h (Array.getElem?_eq_some_iff.1 RV.out).1).trans RV.out)
        have cX := block_cell (((Ld.trans le).block w6.heap.size hX9').trans RX9.out)
        have cY := block_cell (((Ld.trans le).block w8.heap.size hY9').trans RY.out)
        have Le : Later w9 we := Ld.trans le
        simp at cu cv
        go_wp2_with fail
        refine (differ_any _ _ xs zs HXL.out hle we (Nat.le_trans hs49 Le.size) (HXR.out we Le) (HZR.out we Le)).mono ?_
        obtain ⟨d1, HD1⟩ : ∃ d, Hid (dif xs zs zs.length = d) := ⟨_, rfl⟩
        have hd1 := HDC.out
        rw [HD1.out] at hd1 ⊢
        rintro e wf ⟨rfl, lf⟩
        have td1 : (d1 : Int) ≤ 2 := by omega
        go_wp2_with fail
        refine (differ_any _ _ ys zs HYL.out hle wf (Nat.le_trans hs59 (Le.trans lf).size) (HYR.out wf (Le.trans lf)) (HZR5.out wf (Le.trans lf))).mono ?_
        obtain ⟨d2, HD2⟩ : ∃ d, Hid (dif ys zs zs.length = d) := ⟨_, rfl⟩
        have hd2 := HDP.out
        rw [HD2.out] at hd2 ⊢
        rintro e wg ⟨rfl, lg⟩
        have td2 : (d2 : Int) ≤ 2 := by omega
        go_wp2_with fail
        go_ret
        exact ⟨rfl, L9.trans (Le.trans (lf.trans lg))⟩
  · have t0 : (lye zs != 0) = true := by simp [c0]
    have e1 : putAt2 zs (lyC zs) v = zs := by rw [lyC_no c0, putAt2_neg]
    have e2 : putAt2 zs (lyP zs) v = zs := by rw [lyP_no c0, putAt2_neg]
    rw [e1] at HWC
    rw [e2] at HWP
    clear c0 e1 e2
    generalize lye zs = er at *
    generalize pmT zs = mt at *
    generalize getAt2 zs (lyC zs) = mc at *
    generalize getAt2 zs (lyP zs) = mp at *
    generalize pmR zs = mr at *
    go_enter Try.func5, Try.ntmps5
    go_wp2_with fail
    refine HPA.out.mono ?_
    rintro e w2 ⟨rfl, l2⟩
    have l3 : Later w (w2.alloc (.cells #[.int .i64 mt, .int .u16 mc, .int .u16 mp, .int .u8 mr] 25)) := l2.trans (later_alloc _ _)
    clear HPA l2
    go_upto_region 2 with fail
    generalize w2.alloc _ = w3 at *
    go_wp2_with fail
    refine (HWC.out w3 ((hI.below l3).mono l3.size)).mono ?_
    rintro e w4 ⟨a4, rfl, hO4, l4⟩
    have l4' : Later w w4 := l3.trans l4
    go_wp2_with fail
    refine (HWP.out w4 ((hI.below l4').mono l4'.size)).mono ?_
    rintro e w5 ⟨a5, rfl, hO5, l5⟩
    have l5' : Later w w5 := l4'.trans l5
    clear HWC HWP
    go_wp2_with fail
    refine (live15_any w5).mono ?_
    rintro e w6 ⟨rfl, l6⟩
    have l6' : Later w w6 := l5'.trans l6
    have q0 : (convert 22 9 (.slice a zs.length cap)).run Try.prog w6 = .ok (.string (strOfNums zs)) w6 := conv_rd 22 9 5 Try.underlying22 Try.underlying5 Try.underlying9 (hI.below l6')
    have q1 : (convert 22 9 (.slice a4 zs.length zs.length)).run Try.prog w6 = .ok (.string (strOfNums zs)) w6 := conv_rd 22 9 5 Try.underlying22 Try.underlying5 Try.underlying9 (hO4.rd.below (l5.trans l6))
    have q2 : (convert 22 9 (.slice a5 zs.length zs.length)).run Try.prog w6 = .ok (.string (strOfNums zs)) w6 := conv_rd 22 9 5 Try.underlying22 Try.underlying5 Try.underlying9 (hO5.rd.below l6)
    go_wp2_with fail
    go_ret
    exact ⟨rfl, l6'⟩
end Go.Proofs.Ytochdlmggbhmfaa
