/- The walk of PptpSizes. -/
import Derived.Test.YtochdlmggbhmfaaJF
namespace Go.Proofs.Ytochdlmggbhmfaa
open Go.RowKit Go.Shelf
set_option maxRecDepth 100000
set_option linter.unusedVariables false
set_option linter.unusedSimpArgs false

theorem hdk_len {zs : List Int} (h : hdk zs = true) : zs[0]?.getD 0 = (zs.length : Int) / 256 ∧ zs[1]?.getD 0 = (zs.length : Int) % 256 := by
  unfold hdk at h
  simp only [eqs, Bool.and_eq_true, beq_iff_eq] at h
  exact ⟨h.1, h.2.1⟩
/-- The size of a known type. -/
theorem lsz_known {t : Int} (h : lkn t = true) : 16 ≤ lsz t ∧ lsz t ≤ 168 := by
  unfold lkn at h
  simp only [Bool.or_eq_true, beq_iff_eq] at h
  rcases h with ((((rfl | rfl) | rfl) | rfl) | rfl) <;> decide
theorem lye_form {zs : List Int} (h12 : 12 ≤ zs.length) (h : zs[0]?.getD 0 * 256 + zs[1]?.getD 0 ≠ (zs.length : Int)) : lye zs = 4 := by
  unfold lye
  rw [if_neg (by omega)]
  split
  · rfl
  · rw [if_pos]
    cases hk : hdk zs with
    | false => rfl
    | true => have := hdk_len hk; omega
theorem lye_cut {zs : List Int} (h : lye zs = 0) : lye (zs.take (zs.length - 1)) = 4 := by
  obtain ⟨h1, h2, h3, h4, h5⟩ := lye_yes h
  have := lsz_known h4
  have hd := hdk_len h3
  refine lye_form (by simp; omega) ?_
  rw [List.getElem?_take, if_pos (by omega), List.getElem?_take, if_pos (by omega), hd.1, hd.2]
  simp
  omega
theorem lye_more {zs : List Int} (h : lye zs = 0) : lye (zs ++ [0]) = 4 := by
  obtain ⟨h1, h2, h3, h4, h5⟩ := lye_yes h
  have hd := hdk_len h3
  refine lye_form (by simp; omega) ?_
  rw [List.getElem?_append_left (by omega), List.getElem?_append_left (by omega), hd.1, hd.2]
  simp
  omega

set_option maxHeartbeats 8000000 in
theorem walk_PptpSizes (w : World) (sv : Value) (zs : List Int) (hB : Mt.By zs) (hI : Rd w.heap.size w sv zs) :
    Calls Try.prog 7 #[sv] w fun e w' => e = .returned (.bool true) ∧ Below w.heap.size w w' := by
  obtain ⟨i0, hi, hz0, hz1, hz2⟩ := info_parts info_u8
  obtain ⟨a, cap, rfl, hl1, hm1⟩ := hI.slice
  have HPA := hide (parse15_any _ zs hB w (Nat.le_refl _) hI)
  by_cases c0 : lye zs = 0
  · obtain ⟨h1, h2, h3, h4, h5⟩ := lye_yes c0
    have HC1 := hide (lye_cut c0)
    have HC2 := hide (lye_more c0)
    have HT : Hid (lsz (pmT zs) = (zs.length : Int)) := by show _ = _; unfold pmT; rw [if_pos c0, h5]
    rw [c0] at HPA
    clear c0 h3 h4 h5
    generalize pmT zs = mt at *
    generalize getAt2 zs (lyC zs) = mc at *
    generalize getAt2 zs (lyP zs) = mp at *
    generalize pmR zs = mr at *
    have h2' : (zs.length : Int) ≤ 65535 := by omega
    have h1' : (12 : Int) ≤ zs.length := by omega
    go_enter Try.func7, Try.ntmps7
    go_wp2_with fail
    refine HPA.out.mono ?_
    rintro e w2 ⟨rfl, l2⟩
    have rM := heap_alloc_new w2 (.cells #[.int .i64 mt, .int .u16 mc, .int .u16 mp, .int .u8 mr] 25)
    have l3 : Later w (w2.alloc (.cells #[.int .i64 mt, .int .u16 mc, .int .u16 mp, .int .u8 mr] 25)) := l2.trans (later_alloc _ _)
    have RM := hide rM
    clear HPA l2 rM
    go_upto_region 4 with fail
    generalize w2.alloc _ = w3 at *
    have hI3 : Rd w.heap.size w3 (.slice a zs.length cap) zs := hI.below l3
    have HPB := hide (parse15_any _ (zs.take (zs.length - 1)) (hB.take _) w3 l3.size (hI3.take (zs.length - 1) (by omega)))
    rw [HC1.out] at HPB
    generalize pmT (zs.take (zs.length - 1)) = nt at *
    generalize getAt2 (zs.take (zs.length - 1)) _ = nc at *
    generalize getAt2 (zs.take (zs.length - 1)) _ = np at *
    generalize pmR (zs.take (zs.length - 1)) = nr at *
    go_wp2_with fail
    refine HPB.out.mono ?_
    rintro e w4 ⟨rfl, l4⟩
    have l5 : Later w3 (w4.alloc (.cells #[.int .i64 nt, .int .u16 nc, .int .u16 np, .int .u8 nr] 25)) := l4.trans (later_alloc _ _)
    clear HPB l4 hI3
    go_upto_region 5 with fail
    generalize w4.alloc _ = w5 at *
    have lA : Later w w5 := l3.trans l5
    have hI5 : Rd w.heap.size w5 (.slice a zs.length cap) zs := hI.below lA
    have hbA : Below w5.heap.size w5 (w5.alloc (.cells #[] 5)) := (Below.refl _ w5).alloc (Nat.le_refl _) _
    have hlb : ([] : List Int).length + zs.length ≤ 140737488355328 := by simp; omega
    go_wp2_with (at_builtin; refine wpList_app _ rfl (.tmp 27) (.tmp 28) 22 rfl w5.heap.size 5 i0 Try.underlying22 hi hz0 hz1 hz2 _ [] rfl (own_empty w5 _) w.heap.size _ zs rfl (hI5.below (hbA.mono lA.size)) hlb (by simp) ?_; intro v6 w6 hown6 hg6; refine Hid.out ?_)
    have hb6 := below_app hbA (own_empty w5 _) hg6 (Nat.le_refl _) (by simp)
    clear hg6 hbA
    simp only [List.nil_append] at hown6
    have hb7 : Below w6.heap.size w6 (w6.alloc (.cells #[.int .u8 0] 5)) := (Below.refl _ w6).alloc (Nat.le_refl _) _
    have HO7 := hide (row_below hown6 hb7 (Nat.le_refl _))
    have HR7 := hide (Rd.new [0] 5 w6 (by simp) (by simp))
    have hl7 : zs.length + ([0] : List Int).length ≤ 140737488355328 := by simp; omega
    have hs7 : w5.heap.size ≤ (w6.alloc (.cells #[.int .u8 0] 5)).heap.size := Nat.le_trans hb6.size hb7.size
    clear hown6
    show wpList _ _ _ _ _ _
    go_wp2_with (at_builtin; refine wpList_app _ rfl (.tmp 29) (.tmp 30) 22 rfl w5.heap.size 5 i0 Try.underlying22 hi hz0 hz1 hz2 _ zs rfl HO7.out _ _ [0] rfl HR7.out hl7 hs7 ?_; intro v8 w8 hown8 hg8; refine Hid.out ?_)
    have hb8 := below_app (hb6.trans (hb7.mono hb6.size)) HO7.out hg8 (Nat.le_refl _) hs7
    have hO8 := Ow.of_row hown8
    clear hown8 hg8 HO7 HR7 hb7 hb6 hl7 hs7
    obtain ⟨a8, cap8, rfl, hl8, hm8⟩ := hO8.slice
    have hB8 : Mt.By (zs ++ [0]) := hB.append (fun z hz => by simp at hz; subst hz; omega)
    have HPC := hide (parse15_any _ (zs ++ [0]) hB8 w8 (Nat.le_refl _) hO8.rd)
    rw [HC2.out] at HPC
    generalize pmT (zs ++ [0]) = ot at *
    generalize getAt2 (zs ++ [0]) _ = oc at *
    generalize getAt2 (zs ++ [0]) _ = op at *
    generalize pmR (zs ++ [0]) = or at *
    generalize (zs ++ [0]).length = ol at *
    have lB : Later w w8 := lA.trans hb8
    have RM8 := hide (((l5.trans hb8).block w2.heap.size (Array.getElem?_eq_some_iff.1 RM.out).1).trans RM.out)
    clear hO8 hB8 hb8 hI5 l5 lA l3 RM hlb hl8
    show wpList _ _ _ _ _ _
    go_wp2_with fail
    refine HPC.out.mono ?_
    rintro e w9 ⟨rfl, l9⟩
    have lC : Later w8 (w9.alloc (.cells #[.int .i64 ot, .int .u16 oc, .int .u16 op, .int .u8 or] 25)) := l9.trans (later_alloc _ _)
    clear HPC l9
    go_upto_region 6 with fail
    generalize w9.alloc _ = wA at *
    go_wp2_with fail
    refine (live15_any wA).mono ?_
    rintro e wB ⟨rfl, l11⟩
    have CM := block_cell (((lC.trans l11).block w2.heap.size (Array.getElem?_eq_some_iff.1 RM8.out).1).trans RM8.out)
    go_wp2_with fail
    refine (size15_any mt wB).mono ?_
    rw [HT.out]
    rintro e wC ⟨rfl, l12⟩
    go_wp2_with fail
    go_ret
    exact ⟨rfl, lB.trans (lC.trans (l11.trans l12))⟩
  · have t0 : (lye zs != 0) = true := by simp [c0]
    clear c0
    generalize lye zs = er at *
    go_enter Try.func7, Try.ntmps7
    go_wp2_with fail
    refine HPA.out.mono ?_
    rintro e w2 ⟨rfl, l2⟩
    go_wp2_with fail
    refine (live15_any _).mono ?_
    rintro e w4 ⟨rfl, l4⟩
    go_wp2_with fail
    go_ret
    exact ⟨rfl, l2.trans ((later_alloc _ _).trans l4)⟩
end Go.Proofs.Ytochdlmggbhmfaa
