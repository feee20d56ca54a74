/- The walks of PptpParses and PptpChanges. -/
import Derived.Test.YtochdlmggbhmfaaJL
namespace Go.Proofs.Ytochdlmggbhmfaa
open Go.RowKit Go.Shelf
set_option maxRecDepth 100000
set_option linter.unusedVariables false
set_option linter.unusedSimpArgs false

set_option maxHeartbeats 8000000 in
theorem walk_PptpParses (w : World) (sv : Value) (zs : List Int) (hB : Mt.By zs) (hI : Rd w.heap.size w sv zs) (hl : zs.length ≤ 140737488351232) :
    Calls Try.prog 3 #[sv] w fun e w' => e = .returned (.bool true) ∧ Below w.heap.size w w' := by
  obtain ⟨i0, hi, hz0, hz1, hz2⟩ := info_parts info_u8
  obtain ⟨a, cap, rfl, hl1, hm1⟩ := hI.slice
  have hbA : Below w.heap.size w (w.alloc (.cells #[] 5)) := (Below.refl _ w).alloc (Nat.le_refl _) _
  have HIA := hide (hI.below hbA)
  have hlb : ([] : List Int).length + zs.length ≤ 140737488355328 := by simp; omega
  have HPA := hide (fun v sv (h : Rd v.heap.size v sv zs) => parse15_any sv zs hB v (Nat.le_refl _) h)
  have HPB := hide (fun v sv (h : Rd v.heap.size v sv zs) => rparse15_any sv zs hB (by omega) v (Nat.le_refl _) h)
  generalize lye zs = er at *
  generalize pmT zs = mt at *
  generalize getAt2 zs (lyC zs) = mc at *
  generalize getAt2 zs (lyP zs) = mp at *
  generalize pmR zs = mr at *
  go_enter Try.func3, Try.ntmps3
  go_wp2_with (at_builtin; refine wpList_app _ rfl (.tmp 8) (.tmp 9) 22 rfl w.heap.size 5 i0 Try.underlying22 hi hz0 hz1 hz2 _ [] rfl (own_empty w _) w.heap.size _ zs rfl HIA.out hlb (by simp) ?_; intro v1 w1 hown1 hg1; refine Hid.out ?_)
  have l1 := below_app hbA (own_empty w _) hg1 (Nat.le_refl _) (by simp)
  clear hg1
  simp only [List.nil_append] at hown1
  have hO1 := Ow.of_row hown1
  clear hown1 HIA hbA
  obtain ⟨a1, cap1, rfl, hl2, hm2⟩ := hO1.slice
  show wpList _ _ _ _ _ _
  go_wp2_with fail
  refine (HPA.out w1 _ hO1.rd).mono ?_
  rintro e w2 ⟨rfl, l2⟩
  have rM := heap_alloc_new w2 (.cells #[.int .i64 mt, .int .u16 mc, .int .u16 mp, .int .u8 mr] 25)
  have l3 : Later w1 (w2.alloc (.cells #[.int .i64 mt, .int .u16 mc, .int .u16 mp, .int .u8 mr] 25)) := l2.trans (later_alloc _ _)
  have RM := hide rM
  clear l2 rM
  go_upto_region 3 with fail
  generalize w2.alloc _ = w3 at *
  have L3 : Later w w3 := Later.trans l1 l3
  go_wp2_with fail
  refine (HPB.out w3 _ ((hI.below L3).mono L3.size)).mono ?_
  rintro e w4 ⟨rfl, l4⟩
  have rN := heap_alloc_new w4 (.cells #[.int .i64 mt, .int .u16 mc, .int .u16 mp, .int .u8 mr] 29)
  have l5 : Later w3 (w4.alloc (.cells #[.int .i64 mt, .int .u16 mc, .int .u16 mp, .int .u8 mr] 29)) := l4.trans (later_alloc _ _)
  have RN := hide rN
  clear l4 rN
  go_upto_region 4 with fail
  generalize w4.alloc _ = w5 at *
  go_wp2_with fail
  refine (live15_any w5).mono ?_
  rintro e w6 ⟨rfl, l6⟩
  have CM := block_cell (((l5.trans l6).block w2.heap.size (Array.getElem?_eq_some_iff.1 RM.out).1).trans RM.out)
  have CN := block_cell ((l6.block w4.heap.size (Array.getElem?_eq_some_iff.1 RN.out).1).trans RN.out)
  have L6 : Later w w6 := L3.trans (l5.trans l6)
  have q0 : (convert 22 9 (.slice a zs.length cap)).run Try.prog w6 = .ok (.string (strOfNums zs)) w6 := conv_rd 22 9 5 Try.underlying22 Try.underlying5 Try.underlying9 (hI.below L6)
  have q1 : (convert 22 9 (.slice a1 zs.length cap1)).run Try.prog w6 = .ok (.string (strOfNums zs)) w6 := conv_rd 22 9 5 Try.underlying22 Try.underlying5 Try.underlying9 (hO1.rd.below (l3.trans (l5.trans l6)))
  go_wp2_with fail
  go_ret
  exact ⟨rfl, L6⟩

set_option maxHeartbeats 8000000 in
theorem walk_PptpChanges (w : World) (sv : Value) (zs : List Int) (hB : Mt.By zs) (hI : Rd w.heap.size w sv zs) (hl : zs.length ≤ 140737488351232) (v : Int) (hv : 0 ≤ v ∧ v ≤ 65535) (t : Int) (ht : -9223372036854775808 ≤ t ∧ t ≤ 9223372036854775807) :
    Calls Try.prog 4 #[sv, .int .u16 v, .int .i64 t] w fun e w' => e = .returned (.bool true) ∧ Below w.heap.size w w' := by
  obtain ⟨i0, hi, hz0, hz1, hz2⟩ := info_parts info_u8
  obtain ⟨a, cap, rfl, hl1, hm1⟩ := hI.slice
  have hbA : Below w.heap.size w (w.alloc (.cells #[] 5)) := (Below.refl _ w).alloc (Nat.le_refl _) _
  have HIA := hide (hI.below hbA)
  have hlb : ([] : List Int).length + zs.length ≤ 140737488355328 := by simp; omega
  have HC := hide (fun u sv (h : Rd u.heap.size u sv zs) => withCall_any sv zs hB v hv u (by omega) h)
  have HP := hide (fun u sv (h : Rd u.heap.size u sv zs) => withPeer_any sv zs hB v hv u (by omega) h)
  have HRC := hide (fun u sv (h : Rd u.heap.size u sv zs) => rwithCall_any sv zs hB v hv u (by omega) h)
  have HRP := hide (fun u sv (h : Rd u.heap.size u sv zs) => rwithPeer_any sv zs hB v hv u (by omega) h)
  have HXL := hide (putAt2_length zs (lyC zs) v)
  have HYL := hide (putAt2_length zs (lyP zs) v)
  generalize putAt2 zs (lyC zs) v = xs at *
  generalize putAt2 zs (lyP zs) v = ys at *
  go_enter Try.func4, Try.ntmps4
  go_wp2_with (at_builtin; refine wpList_app _ rfl (.tmp 8) (.tmp 9) 22 rfl w.heap.size 5 i0 Try.underlying22 hi hz0 hz1 hz2 _ [] rfl (own_empty w _) w.heap.size _ zs rfl HIA.out hlb (by simp) ?_; intro v1 w1 hown1 hg1; refine Hid.out ?_)
  have l1 : Later w w1 := below_app hbA (own_empty w _) hg1 (Nat.le_refl _) (by simp)
  clear hg1
  simp only [List.nil_append] at hown1
  have hO1 := Ow.of_row hown1
  clear hown1 HIA hbA
  obtain ⟨a1, cap1, rfl, hl2, hm2⟩ := hO1.slice
  show wpList _ _ _ _ _ _
  go_upto_region 2 with fail
  refine anyR_begin (R := Later) Later.pre Later.drew 38 rfl (by kernel_rfl) (fun V0 hV0 => ?_)
  have HZ : Hid (∀ u, Later V0 u → Rd u.heap.size u (.slice a zs.length cap) zs) := fun u hu => (hI.below (l1.trans (hV0.trans hu))).mono (l1.trans (hV0.trans hu)).size
  have HO : Hid (∀ u, Later V0 u → Rd u.heap.size u (.slice a1 zs.length cap1) zs) := fun u hu => (hO1.rd.below (hV0.trans hu)).mono (hV0.trans hu).size
  refine anyR_take Later.pre 0 (.bool true) rfl (by kernel_rfl) (by kernel_rfl) (by kernel_rfl) (fun _ _ _ h => h) rfl (fun v1 hv1 => goes_call 11 #[] (by go_simp) (live15_any v1)) ?_
  simp only [Act.put, List.setIfInBounds_toArray, List.set_cons_zero, List.set_cons_succ]
  refine anyR_val Later.pre 1 rfl (by kernel_rfl) (by kernel_rfl) (by kernel_rfl) (fun _ _ _ _ h => h) rfl ?_; apply Exists.intro; refine ⟨fun v1 hv1 => ?_, ?_⟩; (· (go_simp; rfl)); simp only [Act.put, List.setIfInBounds_toArray, List.set_cons_zero, List.set_cons_succ]
  refine anyR_valG Later.pre 2 rfl (by kernel_rfl) (by kernel_rfl) (by kernel_rfl) (fun _ _ _ _ h => h) (by rfl) ?_; apply Exists.intro; refine ⟨fun v1 hv1 => ?_, ?_⟩; (· (go_simp; rfl)); simp only [Act.put, List.setIfInBounds_toArray, List.set_cons_zero, List.set_cons_succ]
  refine anyR_valG Later.pre 3 rfl (by kernel_rfl) (by kernel_rfl) (by kernel_rfl) (fun _ _ _ _ h => h) (by rfl) ?_; apply Exists.intro; refine ⟨fun v1 hv1 => ?_, ?_⟩; (· (go_simp; rfl)); simp only [Act.put, List.setIfInBounds_toArray, List.set_cons_zero, List.set_cons_succ]
  refine anyR_valG Later.pre 6 rfl (by kernel_rfl) (by kernel_rfl) (by kernel_rfl) (fun _ _ _ _ h => h) (by rfl) ?_; apply Exists.intro; refine ⟨fun v1 hv1 => ?_, ?_⟩; (· (go_simp; rfl)); simp only [Act.put, List.setIfInBounds_toArray, List.set_cons_zero, List.set_cons_succ]
  refine anyR_valG Later.pre 7 rfl (by kernel_rfl) (by kernel_rfl) (by kernel_rfl) (fun _ _ _ _ h => h) (by rfl) ?_; apply Exists.intro; refine ⟨fun v1 hv1 => ?_, ?_⟩; (· (go_simp; rfl)); simp only [Act.put, List.setIfInBounds_toArray, List.set_cons_zero, List.set_cons_succ]
  refine anyR_oneG 4 rfl (by kernel_rfl) (by rfl) (fun V1 hV1 => ?_)
  refine wp_enter 12 #[.slice a1 zs.length cap1, .int .u16 v] (by go_simp) ((HC.out V1 _ (HO.out V1 hV1)).mono ?_)
  rintro e V2 ⟨a2, rfl, hO2, k2⟩
  refine ⟨k2, ?_⟩
  simp only [Act.put, List.setIfInBounds_toArray, List.set_cons_zero, List.set_cons_succ]
  have q2 : ∀ u, Later V2 u → (convert 22 9 (.slice a2 zs.length zs.length)).run Try.prog u = .ok (.string (strOfNums xs)) u := fun u hu => conv_rd 22 9 5 Try.underlying22 Try.underlying5 Try.underlying9 (hO2.rd.below hu)
  refine anyR_valG Later.pre 5 rfl (by kernel_rfl) (by kernel_rfl) (by kernel_rfl) (fun _ _ _ _ h => h) (by rfl) ?_; apply Exists.intro; refine ⟨fun v1 hv1 => ?_, ?_⟩; (· (go_simp; rfl)); simp only [Act.put, List.setIfInBounds_toArray, List.set_cons_zero, List.set_cons_succ]
  clear q2
  refine anyR_oneG 8 rfl (by kernel_rfl) (by rfl) (fun V3 hV3 => ?_)
  refine wp_enter 13 #[.slice a zs.length cap, .int .u16 v] (by go_simp) ((HRC.out V3 _ (HZ.out V3 (hV1.trans (k2.trans hV3)))).mono ?_)
  rintro e V4 ⟨r4, rfl, hO4, k4⟩
  refine ⟨k4, ?_⟩
  simp only [Act.put, List.setIfInBounds_toArray, List.set_cons_zero, List.set_cons_succ]
  have q4 : ∀ u, Later V4 u → (convert 22 9 r4).run Try.prog u = .ok (.string (strOfNums xs)) u := fun u hu => conv_rd 22 9 5 Try.underlying22 Try.underlying5 Try.underlying9 (hO4.rd.below hu)
  refine anyR_valG Later.pre 9 rfl (by kernel_rfl) (by kernel_rfl) (by kernel_rfl) (fun _ _ _ _ h => h) (by rfl) ?_; apply Exists.intro; refine ⟨fun v1 hv1 => ?_, ?_⟩; (· (go_simp; rfl)); simp only [Act.put, List.setIfInBounds_toArray, List.set_cons_zero, List.set_cons_succ]
  clear q4
  refine anyR_valG Later.pre 10 rfl (by kernel_rfl) (by kernel_rfl) (by kernel_rfl) (fun _ _ _ _ h => h) (by rfl) ?_; apply Exists.intro; refine ⟨fun v1 hv1 => ?_, ?_⟩; (· (go_simp; rfl)); simp only [Act.put, List.setIfInBounds_toArray, List.set_cons_zero, List.set_cons_succ]
  refine anyR_val Later.pre 11 rfl (by kernel_rfl) (by kernel_rfl) (by kernel_rfl) (fun _ _ _ _ h => h) rfl ?_; apply Exists.intro; refine ⟨fun v1 hv1 => ?_, ?_⟩; (· (go_simp; rfl)); simp only [Act.put, List.setIfInBounds_toArray, List.set_cons_zero, List.set_cons_succ]
  refine anyR_val Later.pre 12 rfl (by kernel_rfl) (by kernel_rfl) (by kernel_rfl) (fun _ _ _ _ h => h) rfl ?_; apply Exists.intro; refine ⟨fun v1 hv1 => ?_, ?_⟩; (· (go_simp; rfl)); simp only [Act.put, List.setIfInBounds_toArray, List.set_cons_zero, List.set_cons_succ]
  refine anyR_valG Later.pre 13 rfl (by kernel_rfl) (by kernel_rfl) (by kernel_rfl) (fun _ _ _ _ h => h) (by rfl) ?_; apply Exists.intro; refine ⟨fun v1 hv1 => ?_, ?_⟩; (· (go_simp; rfl)); simp only [Act.put, List.setIfInBounds_toArray, List.set_cons_zero, List.set_cons_succ]
  refine anyR_valG Later.pre 14 rfl (by kernel_rfl) (by kernel_rfl) (by kernel_rfl) (fun _ _ _ _ h => h) (by rfl) ?_; apply Exists.intro; refine ⟨fun v1 hv1 => ?_, ?_⟩; (· (go_simp; rfl)); simp only [Act.put, List.setIfInBounds_toArray, List.set_cons_zero, List.set_cons_succ]
  refine anyR_valG Later.pre 17 rfl (by kernel_rfl) (by kernel_rfl) (by kernel_rfl) (fun _ _ _ _ h => h) (by rfl) ?_; apply Exists.intro; refine ⟨fun v1 hv1 => ?_, ?_⟩; (· (go_simp; rfl)); simp only [Act.put, List.setIfInBounds_toArray, List.set_cons_zero, List.set_cons_succ]
  refine anyR_valG Later.pre 18 rfl (by kernel_rfl) (by kernel_rfl) (by kernel_rfl) (fun _ _ _ _ h => h) (by rfl) ?_; apply Exists.intro; refine ⟨fun v1 hv1 => ?_, ?_⟩; (· (go_simp; rfl)); simp only [Act.put, List.setIfInBounds_toArray, List.set_cons_zero, List.set_cons_succ]
  have M4 : Later V0 V4 := hV1.trans (k2.trans (hV3.trans k4))
  refine anyR_oneG 15 rfl (by kernel_rfl) (by rfl) (fun V5 hV5 => ?_)
  refine wp_enter 14 #[.slice a1 zs.length cap1, .int .u16 v] (by go_simp) ((HP.out V5 _ (HO.out V5 (M4.trans hV5))).mono ?_)
  rintro e V6 ⟨a6, rfl, hO6, k6⟩
  refine ⟨k6, ?_⟩
  simp only [Act.put, List.setIfInBounds_toArray, List.set_cons_zero, List.set_cons_succ]
  have q6 : ∀ u, Later V6 u → (convert 22 9 (.slice a6 zs.length zs.length)).run Try.prog u = .ok (.string (strOfNums ys)) u := fun u hu => conv_rd 22 9 5 Try.underlying22 Try.underlying5 Try.underlying9 (hO6.rd.below hu)
  refine anyR_valG Later.pre 16 rfl (by kernel_rfl) (by kernel_rfl) (by kernel_rfl) (fun _ _ _ _ h => h) (by rfl) ?_; apply Exists.intro; refine ⟨fun v1 hv1 => ?_, ?_⟩; (· (go_simp; rfl)); simp only [Act.put, List.setIfInBounds_toArray, List.set_cons_zero, List.set_cons_succ]
  clear q6
  refine anyR_oneG 19 rfl (by kernel_rfl) (by rfl) (fun V7 hV7 => ?_)
  have M7 : Later V0 V7 := M4.trans (hV5.trans (k6.trans hV7))
  refine wp_enter 15 #[.slice a zs.length cap, .int .u16 v] (by go_simp) ((HRP.out V7 _ (HZ.out V7 M7)).mono ?_)
  rintro e V8 ⟨r8, rfl, hO8, k8⟩
  refine ⟨k8, ?_⟩
  simp only [Act.put, List.setIfInBounds_toArray, List.set_cons_zero, List.set_cons_succ]
  have q8 : ∀ u, Later V8 u → (convert 22 9 r8).run Try.prog u = .ok (.string (strOfNums ys)) u := fun u hu => conv_rd 22 9 5 Try.underlying22 Try.underlying5 Try.underlying9 (hO8.rd.below hu)
  refine anyR_valG Later.pre 20 rfl (by kernel_rfl) (by kernel_rfl) (by kernel_rfl) (fun _ _ _ _ h => h) (by rfl) ?_; apply Exists.intro; refine ⟨fun v1 hv1 => ?_, ?_⟩; (· (go_simp; rfl)); simp only [Act.put, List.setIfInBounds_toArray, List.set_cons_zero, List.set_cons_succ]
  clear q8
  refine anyR_valG Later.pre 21 rfl (by kernel_rfl) (by kernel_rfl) (by kernel_rfl) (fun _ _ _ _ h => h) (by rfl) ?_; apply Exists.intro; refine ⟨fun v1 hv1 => ?_, ?_⟩; (· (go_simp; rfl)); simp only [Act.put, List.setIfInBounds_toArray, List.set_cons_zero, List.set_cons_succ]
  refine anyR_val Later.pre 22 rfl (by kernel_rfl) (by kernel_rfl) (by kernel_rfl) (fun _ _ _ _ h => h) rfl ?_; apply Exists.intro; refine ⟨fun v1 hv1 => ?_, ?_⟩; (· (go_simp; rfl)); simp only [Act.put, List.setIfInBounds_toArray, List.set_cons_zero, List.set_cons_succ]
  refine anyR_val Later.pre 23 rfl (by kernel_rfl) (by kernel_rfl) (by kernel_rfl) (fun _ _ _ _ h => h) rfl ?_; apply Exists.intro; refine ⟨fun v1 hv1 => ?_, ?_⟩; (· (go_simp; rfl)); simp only [Act.put, List.setIfInBounds_toArray, List.set_cons_zero, List.set_cons_succ]
  refine anyR_valG Later.pre 24 rfl (by kernel_rfl) (by kernel_rfl) (by kernel_rfl) (fun _ _ _ _ h => h) (by rfl) ?_; apply Exists.intro; refine ⟨fun v1 hv1 => ?_, ?_⟩; (· (go_simp; rfl)); simp only [Act.put, List.setIfInBounds_toArray, List.set_cons_zero, List.set_cons_succ]
  refine anyR_valG Later.pre 26 rfl (by kernel_rfl) (by kernel_rfl) (by kernel_rfl) (fun _ _ _ _ h => h) (by rfl) ?_; apply Exists.intro; refine ⟨fun v1 hv1 => ?_, ?_⟩; (· (go_simp; rfl)); simp only [Act.put, List.setIfInBounds_toArray, List.set_cons_zero, List.set_cons_succ]
  have M8 : Later V0 V8 := M7.trans k8
  refine anyR_takeG Later.pre 25 (.int .i64 (lsz t)) rfl (by kernel_rfl) (by kernel_rfl) (by kernel_rfl) (fun _ _ _ h => h) (by rfl) (fun v1 hv1 => goes_call 16 #[.int .i64 t] (by go_simp) (size15_any t v1)) ?_
  simp only [Act.put, List.setIfInBounds_toArray, List.set_cons_zero, List.set_cons_succ]
  refine anyR_takeG Later.pre 27 (.int .i64 (lsz t)) rfl (by kernel_rfl) (by kernel_rfl) (by kernel_rfl) (fun _ _ _ h => h) (by rfl) (fun v1 hv1 => goes_call 17 #[.int .i64 t] (by go_simp) ((rsize15_any t v1).mono fun e w' h => ⟨h.1, by rw [h.2]; exact Later.refl _⟩)) ?_
  simp only [Act.put, List.setIfInBounds_toArray, List.set_cons_zero, List.set_cons_succ]
  refine anyR_valG Later.pre 28 rfl (by kernel_rfl) (by kernel_rfl) (by kernel_rfl) (fun _ _ _ _ h => h) (by rfl) ?_; apply Exists.intro; refine ⟨fun v1 hv1 => ?_, ?_⟩; (· (go_simp; rfl)); simp only [Act.put, List.setIfInBounds_toArray, List.set_cons_zero, List.set_cons_succ]
  refine anyR_val Later.pre 29 rfl (by kernel_rfl) (by kernel_rfl) (by kernel_rfl) (fun _ _ _ _ h => h) rfl ?_; apply Exists.intro; refine ⟨fun v1 hv1 => ?_, ?_⟩; (· (go_simp; rfl)); simp only [Act.put, List.setIfInBounds_toArray, List.set_cons_zero, List.set_cons_succ]
  refine anyR_val Later.pre 30 rfl (by kernel_rfl) (by kernel_rfl) (by kernel_rfl) (fun _ _ _ _ h => h) rfl ?_; apply Exists.intro; refine ⟨fun v1 hv1 => ?_, ?_⟩; (· (go_simp; rfl)); simp only [Act.put, List.setIfInBounds_toArray, List.set_cons_zero, List.set_cons_succ]
  have q9 : ∀ u, Later V8 u → (convert 22 9 (.slice a zs.length cap)).run Try.prog u = .ok (.string (strOfNums zs)) u := fun u hu => conv_rd 22 9 5 Try.underlying22 Try.underlying5 Try.underlying9 (HZ.out u (M8.trans hu))
  have qA : ∀ u, Later V8 u → (convert 22 9 (.slice a1 zs.length cap1)).run Try.prog u = .ok (.string (strOfNums zs)) u := fun u hu => conv_rd 22 9 5 Try.underlying22 Try.underlying5 Try.underlying9 (HO.out u (M8.trans hu))
  refine anyR_valG Later.pre 31 rfl (by kernel_rfl) (by kernel_rfl) (by kernel_rfl) (fun _ _ _ _ h => h) (by rfl) ?_; apply Exists.intro; refine ⟨fun v1 hv1 => ?_, ?_⟩; (· (go_simp; rfl)); simp only [Act.put, List.setIfInBounds_toArray, List.set_cons_zero, List.set_cons_succ]
  refine anyR_valG Later.pre 32 rfl (by kernel_rfl) (by kernel_rfl) (by kernel_rfl) (fun _ _ _ _ h => h) (by rfl) ?_; apply Exists.intro; refine ⟨fun v1 hv1 => ?_, ?_⟩; (· (go_simp; rfl)); simp only [Act.put, List.setIfInBounds_toArray, List.set_cons_zero, List.set_cons_succ]
  refine anyR_valG Later.pre 33 rfl (by kernel_rfl) (by kernel_rfl) (by kernel_rfl) (fun _ _ _ _ h => h) (by rfl) ?_; apply Exists.intro; refine ⟨fun v1 hv1 => ?_, ?_⟩; (· (go_simp; rfl)); simp only [Act.put, List.setIfInBounds_toArray, List.set_cons_zero, List.set_cons_succ]
  refine anyR_valG Later.pre 34 rfl (by kernel_rfl) (by kernel_rfl) (by kernel_rfl) (fun _ _ _ _ h => h) (by rfl) ?_; apply Exists.intro; refine ⟨fun v1 hv1 => ?_, ?_⟩; (· (go_simp; rfl)); simp only [Act.put, List.setIfInBounds_toArray, List.set_cons_zero, List.set_cons_succ]
  clear q9 qA
  refine anyR_valG Later.pre 35 rfl (by kernel_rfl) (by kernel_rfl) (by kernel_rfl) (fun _ _ _ _ h => h) (by rfl) ?_; apply Exists.intro; refine ⟨fun v1 hv1 => ?_, ?_⟩; (· (go_simp; rfl)); simp only [Act.put, List.setIfInBounds_toArray, List.set_cons_zero, List.set_cons_succ]
  refine anyR_val Later.pre 36 rfl (by kernel_rfl) (by kernel_rfl) (by kernel_rfl) (fun _ _ _ _ h => h) rfl ?_; apply Exists.intro; refine ⟨fun v1 hv1 => ?_, ?_⟩; (· (go_simp; rfl)); simp only [Act.put, List.setIfInBounds_toArray, List.set_cons_zero, List.set_cons_succ]
  refine anyR_val Later.pre 37 rfl (by kernel_rfl) (by kernel_rfl) (by kernel_rfl) (fun _ _ _ _ h => h) rfl ?_; apply Exists.intro; refine ⟨fun v1 hv1 => ?_, ?_⟩; (· (go_simp; rfl)); simp only [Act.put, List.setIfInBounds_toArray, List.set_cons_zero, List.set_cons_succ]
  refine anyR_done (by kernel_rfl) (fun V9 hV9 => ?_)
  go_wp2_with fail
  go_ret
  exact ⟨rfl, l1.trans (hV0.trans (M8.trans hV9))⟩
end Go.Proofs.Ytochdlmggbhmfaa
