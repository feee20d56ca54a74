/- The document's answers for layer 15: bytes with another call. -/
import Derived.Test.YtochdlmggbhmfaaJK
namespace Go.Proofs.Ytochdlmggbhmfaa
open Go.RowKit Go.Shelf
set_option maxRecDepth 100000
set_option linter.unusedVariables false
set_option linter.unusedSimpArgs false

set_option maxHeartbeats 8000000 in
theorem rwithCall_any (sv : Value) (zs : List Int) (hB : Mt.By zs) (v : Int) (hv : 0 ≤ v ∧ v ≤ 65535) (w : World) (hl : zs.length ≤ 140737488355328) (hI : Rd w.heap.size w sv zs) :
    Calls Try.prog 13 #[sv, .int .u16 v] w fun e w' => ∃ r, e = .returned r ∧ Ow w.heap.size w' r (putAt2 zs (lyC zs) v) ∧ Later w w' := by
  obtain ⟨i0, hi, hz0, hz1, hz2⟩ := info_parts info_u8
  obtain ⟨a, cap, rfl, hl1, hm1⟩ := hI.slice
  have HPA := hide (rparse15_any _ zs hB hl w (Nat.le_refl _) hI)
  have HB8 : Hid (lye zs = 0 → lkn (pmT zs) = true ∧ lyC zs = lca (pmT zs) ∧ lyP zs = lpe (pmT zs)) := fun h => by
    rw [pmT_yes h]
    exact ⟨(lye_yes h).2.2.2.1, lyC_yes h, lyP_yes h⟩
  have HNO : Hid (lye zs ≠ 0 → putAt2 zs (lyC zs) v = zs) := fun h => by rw [lyC_no h, putAt2_neg]
  obtain ⟨er, HE⟩ : ∃ e, Hid (lye zs = e) := ⟨_, rfl⟩
  rw [HE.out] at HPA HB8 HNO
  generalize pmT zs = mt at *
  generalize getAt2 zs (lyC zs) = mc at *
  generalize getAt2 zs (lyP zs) = mp at *
  generalize pmR zs = mr at *
  go_enter Try.func13, Try.ntmps13
  go_wp2_with fail
  refine HPA.out.mono ?_
  rintro e w2 ⟨rfl, l2⟩
  have rM := heap_alloc_new w2 (.cells #[.int .i64 mt, .int .u16 mc, .int .u16 mp, .int .u8 mr] 29)
  have l3 : Later w (w2.alloc (.cells #[.int .i64 mt, .int .u16 mc, .int .u16 mp, .int .u8 mr] 29)) := l2.trans (later_alloc _ _)
  clear HPA l2
  go_upto_region 2 with fail
  generalize w2.alloc _ = w3 at *
  have CM := block_cell rM
  have hI3 : Rd w.heap.size w3 (.slice a zs.length cap) zs := hI.below l3
  have hbA : Below w3.heap.size w3 (w3.alloc (.cells #[] 5)) := (Below.refl _ w3).alloc (Nat.le_refl _) _
  have HIA := hide (hI3.below (hbA.mono l3.size))
  have hlb : ([] : List Int).length + zs.length ≤ 140737488355328 := by simpa using hl
  by_cases c0 : er = 0
  · subst c0
    obtain ⟨hk, eC, _⟩ := HB8.out rfl
    have hla := lca_at hk
    by_cases c15 : mt = 15
    · have t15 : (mt == 15) = true := by simp [c15]
      have HZ : Hid (putAt2 zs (lyC zs) v = zs) := by show _ = _; rw [eC, show lca mt = -1 from by omega, putAt2_neg]
      clear c15 hla hk eC
      go_wp2_with (at_builtin; refine wpList_app _ rfl (.tmp 19) (.tmp 20) 22 rfl w3.heap.size 5 i0 Try.underlying22 hi hz0 hz1 hz2 _ [] rfl (own_empty w3 _) w.heap.size _ zs rfl HIA.out hlb (by simp) ?_; intro v6 w6 hown6 hg6; refine Hid.out ?_)
      have hb6 := below_app hbA (own_empty w3 _) hg6 (Nat.le_refl _) (by simp)
      clear hg6
      simp only [List.nil_append] at hown6
      have hO6 := Ow.of_row hown6
      clear hown6
      show wpList _ _ _ _ _ _
      go_wp2_with fail
      go_ret
      exact ⟨_, rfl, by rw [HZ.out]; exact hO6.mono l3.size, l3.trans hb6⟩
    · have t15 : (mt == 15) = false := by simp [c15]
      have HZ : Hid (lyC zs = 12) := by show _ = _; rw [eC]; omega
      clear c15 hla hk eC
      go_wp2_with fail
      refine (rput16_any _ zs 12 v (by omega) hl w3 (hI3.mono l3.size) hv).mono ?_
      rintro e w4 ⟨r4, rfl, hO4, hb4⟩
      go_wp2_with fail
      go_ret
      exact ⟨_, rfl, by rw [HZ.out]; exact hO4.mono l3.size, l3.trans hb4⟩
  · have t0 : (er != 0) = true := by simp [c0]
    have HZ := hide (HNO.out c0)
    clear c0
    go_wp2_with (at_builtin; refine wpList_app _ rfl (.tmp 19) (.tmp 20) 22 rfl w3.heap.size 5 i0 Try.underlying22 hi hz0 hz1 hz2 _ [] rfl (own_empty w3 _) w.heap.size _ zs rfl HIA.out hlb (by simp) ?_; intro v6 w6 hown6 hg6; refine Hid.out ?_)
    have hb6 := below_app hbA (own_empty w3 _) hg6 (Nat.le_refl _) (by simp)
    clear hg6
    simp only [List.nil_append] at hown6
    have hO6 := Ow.of_row hown6
    clear hown6
    show wpList _ _ _ _ _ _
    go_wp2_with fail
    go_ret
    exact ⟨_, rfl, by rw [HZ.out]; exact hO6.mono l3.size, l3.trans hb6⟩

set_option maxHeartbeats 8000000 in
theorem rwithPeer_any (sv : Value) (zs : List Int) (hB : Mt.By zs) (v : Int) (hv : 0 ≤ v ∧ v ≤ 65535) (w : World) (hl : zs.length ≤ 140737488355328) (hI : Rd w.heap.size w sv zs) :
    Calls Try.prog 15 #[sv, .int .u16 v] w fun e w' => ∃ r, e = .returned r ∧ Ow w.heap.size w' r (putAt2 zs (lyP zs) v) ∧ Later w w' := by
  obtain ⟨i0, hi, hz0, hz1, hz2⟩ := info_parts info_u8
  obtain ⟨a, cap, rfl, hl1, hm1⟩ := hI.slice
  have HPA := hide (rparse15_any _ zs hB hl w (Nat.le_refl _) hI)
  have HB8 : Hid (lye zs = 0 → lkn (pmT zs) = true ∧ lyC zs = lca (pmT zs) ∧ lyP zs = lpe (pmT zs)) := fun h => by
    rw [pmT_yes h]
    exact ⟨(lye_yes h).2.2.2.1, lyC_yes h, lyP_yes h⟩
  have HNO : Hid (lye zs ≠ 0 → putAt2 zs (lyP zs) v = zs) := fun h => by rw [lyP_no h, putAt2_neg]
  obtain ⟨er, HE⟩ : ∃ e, Hid (lye zs = e) := ⟨_, rfl⟩
  rw [HE.out] at HPA HB8 HNO
  generalize pmT zs = mt at *
  generalize getAt2 zs (lyC zs) = mc at *
  generalize getAt2 zs (lyP zs) = mp at *
  generalize pmR zs = mr at *
  go_enter Try.func15, Try.ntmps15
  go_wp2_with fail
  refine HPA.out.mono ?_
  rintro e w2 ⟨rfl, l2⟩
  have rM := heap_alloc_new w2 (.cells #[.int .i64 mt, .int .u16 mc, .int .u16 mp, .int .u8 mr] 29)
  have l3 : Later w (w2.alloc (.cells #[.int .i64 mt, .int .u16 mc, .int .u16 mp, .int .u8 mr] 29)) := l2.trans (later_alloc _ _)
  clear HPA l2
  go_upto_region 2 with fail
  generalize w2.alloc _ = w3 at *
  have CM := block_cell rM
  have hI3 : Rd w.heap.size w3 (.slice a zs.length cap) zs := hI.below l3
  have hbA : Below w3.heap.size w3 (w3.alloc (.cells #[] 5)) := (Below.refl _ w3).alloc (Nat.le_refl _) _
  have HIA := hide (hI3.below (hbA.mono l3.size))
  have hlb : ([] : List Int).length + zs.length ≤ 140737488355328 := by simpa using hl
  by_cases c0 : er = 0
  · subst c0
    obtain ⟨hk, _, eC⟩ := HB8.out rfl
    have hla := lca_at hk
    by_cases c15 : mt = 15
    · have t15 : (mt == 15) = true := by simp [c15]
      have t8 : (mt == 8) = false := by simp [c15]
      have HZ : Hid (lyP zs = 12) := by show _ = _; rw [eC]; omega
      clear c15 hla hk eC
      go_wp2_with fail
      refine (rput16_any _ zs 12 v (by omega) hl w3 (hI3.mono l3.size) hv).mono ?_
      rintro e w4 ⟨r4, rfl, hO4, hb4⟩
      go_wp2_with fail
      go_ret
      exact ⟨_, rfl, by rw [HZ.out]; exact hO4.mono l3.size, l3.trans hb4⟩
    have t15 : (mt == 15) = false := by simp [c15]
    by_cases c8 : mt = 8
    · have t8 : (mt == 8) = true := by simp [c8]
      have HZ : Hid (lyP zs = 14) := by show _ = _; rw [eC]; omega
      clear c15 c8 hla hk eC
      go_wp2_with fail
      refine (rput16_any _ zs 14 v (by omega) hl w3 (hI3.mono l3.size) hv).mono ?_
      rintro e w4 ⟨r4, rfl, hO4, hb4⟩
      go_wp2_with fail
      go_ret
      exact ⟨_, rfl, by rw [HZ.out]; exact hO4.mono l3.size, l3.trans hb4⟩
    · have t8 : (mt == 8) = false := by simp [c8]
      have HZ : Hid (putAt2 zs (lyP zs) v = zs) := by show _ = _; rw [eC, show lpe mt = -1 from by omega, putAt2_neg]
      clear c15 c8 hla hk eC
      go_wp2_with (at_builtin; refine wpList_app _ rfl (.tmp 34) (.tmp 35) 22 rfl w3.heap.size 5 i0 Try.underlying22 hi hz0 hz1 hz2 _ [] rfl (own_empty w3 _) w.heap.size _ zs rfl HIA.out hlb (by simp) ?_; intro v6 w6 hown6 hg6; refine Hid.out ?_)
      have hb6 := below_app hbA (own_empty w3 _) hg6 (Nat.le_refl _) (by simp)
      clear hg6
      simp only [List.nil_append] at hown6
      have hO6 := Ow.of_row hown6
      clear hown6
      show wpList _ _ _ _ _ _
      go_wp2_with fail
      go_ret
      exact ⟨_, rfl, by rw [HZ.out]; exact hO6.mono l3.size, l3.trans hb6⟩
  · have t0 : (er == 0) = false := by simp [c0]
    have HZ := hide (HNO.out c0)
    clear c0
    go_wp2_with (at_builtin; refine wpList_app _ rfl (.tmp 34) (.tmp 35) 22 rfl w3.heap.size 5 i0 Try.underlying22 hi hz0 hz1 hz2 _ [] rfl (own_empty w3 _) w.heap.size _ zs rfl HIA.out hlb (by simp) ?_; intro v6 w6 hown6 hg6; refine Hid.out ?_)
    have hb6 := below_app hbA (own_empty w3 _) hg6 (Nat.le_refl _) (by simp)
    clear hg6
    simp only [List.nil_append] at hown6
    have hO6 := Ow.of_row hown6
    clear hown6
    show wpList _ _ _ _ _ _
    go_wp2_with fail
    go_ret
    exact ⟨_, rfl, by rw [HZ.out]; exact hO6.mono l3.size, l3.trans hb6⟩
end Go.Proofs.Ytochdlmggbhmfaa
