/- The walk of PptpSelf. -/
import Derived.Test.YtochdlmggbhmfaaJD
import Derived.Test.YtochdlmggbhmfaaRi
namespace Go.Proofs.Ytochdlmggbhmfaa
open Go.RowKit Go.Shelf
set_option maxRecDepth 100000
set_option linter.unusedVariables false
set_option linter.unusedSimpArgs false

theorem lye_yes {zs : List Int} (h : lye zs = 0) : 12 ≤ zs.length ∧ zs.length ≤ 65535 ∧ hdk zs = true ∧ lkn (getAt2 zs 8) = true ∧ (zs.length : Int) = lsz (getAt2 zs 8) := by
  unfold lye at h
  split at h
  · omega
  split at h
  · omega
  split at h
  · omega
  split at h
  · omega
  split at h
  · omega
  rename_i h1 h2 h3 h4 h5
  exact ⟨by omega, by omega, by simpa using h3, by simpa using h4, by simpa using h5⟩
theorem putAt2_neg (zs : List Int) (v : Int) : putAt2 zs (-1) v = zs := by unfold putAt2; rw [if_neg (by omega)]
theorem putAt2_self {zs : List Int} (hB : Mt.By zs) (p : Int) : putAt2 zs p (getAt2 zs p) = zs := by
  unfold putAt2 getAt2
  split
  · rename_i h
    generalize p.toNat = n at *
    have b0 := hB.at n
    have b1 := hB.at (n + 1)
    unfold wat Mt.put2
    have e1 : (zs[n]?.getD 0 * 256 + zs[n + 1]?.getD 0) / 256 = zs[n]?.getD 0 := by omega
    have e2 : (zs[n]?.getD 0 * 256 + zs[n + 1]?.getD 0) % 256 = zs[n + 1]?.getD 0 := by omega
    rw [e1, e2]
    apply List.ext_getElem?
    intro i
    rw [List.getElem?_set, List.getElem?_set]
    split
    · rename_i h3; subst h3; rcases Nat.lt_or_ge (n + 1) zs.length with h4 | h4
      · simp [h4]
      · simp [h4]
    · split
      · rename_i h3; subst h3; rcases Nat.lt_or_ge n zs.length with h4 | h4
        · simp [h4]
        · simp [h4]
      · rfl
  · rfl

set_option maxHeartbeats 8000000 in
theorem walk_PptpSelf (w : World) (sv : Value) (zs : List Int) (hB : Mt.By zs) (hI : Rd w.heap.size w sv zs) :
    Calls Try.prog 6 #[sv] w fun e w' => e = .returned (.bool true) ∧ Below w.heap.size w w' := by
  obtain ⟨a, cap, rfl, hl1, hm1⟩ := hI.slice
  have bc := getAt2_bd hB (lyC zs)
  have bp := getAt2_bd hB (lyP zs)
  have HWC := hide (fun v (h : zs.length ≤ 65535) (hr : Rd v.heap.size v (.slice a zs.length cap) zs) => (putAt2_self hB (lyC zs)) ▸ withCall_any _ zs hB (getAt2 zs (lyC zs)) bc v (by omega) hr)
  have HWP := hide (fun v (h : zs.length ≤ 65535) (hr : Rd v.heap.size v (.slice a zs.length cap) zs) => (putAt2_self hB (lyP zs)) ▸ withPeer_any _ zs hB (getAt2 zs (lyP zs)) bp v (by omega) hr)
  clear bc bp
  have HNO : Hid (lye zs ≠ 0 → msg (pmT zs) (getAt2 zs (lyC zs)) (getAt2 zs (lyP zs)) (pmR zs) = msg 0 0 0 0) := fun hne => by
    rw [lyC_no hne, lyP_no hne, getAt2_neg, show pmT zs = 0 from by unfold pmT; rw [if_neg hne], show pmR zs = 0 from by unfold pmR; rw [if_neg (fun h => hne h.1)]]
  have HLE : Hid (lye zs = 0 → zs.length ≤ 65535) := fun h => (lye_yes h).2.1
  have HPA := hide (parse15_any _ zs hB w (Nat.le_refl _) hI)
  by_cases c0 : lye zs = 0
  · have HL : Hid (zs.length ≤ 65535) := HLE.out c0
    rw [c0] at HPA
    clear c0 HNO HLE
    generalize pmT zs = mt at *
    generalize getAt2 zs (lyC zs) = mc at *
    generalize getAt2 zs (lyP zs) = mp at *
    generalize pmR zs = mr at *
    go_enter Try.func6, Try.ntmps6
    go_wp2_with fail
    refine HPA.out.mono ?_
    rintro e w2 ⟨rfl, l2⟩
    have rM := heap_alloc_new w2 (.cells #[.int .i64 mt, .int .u16 mc, .int .u16 mp, .int .u8 mr] 25)
    have l3 : Later w (w2.alloc (.cells #[.int .i64 mt, .int .u16 mc, .int .u16 mp, .int .u8 mr] 25)) := l2.trans (later_alloc _ _)
    clear HPA l2
    go_upto_region 4 with fail
    generalize w2.alloc _ = w3 at *
    refine anyR_begin (R := Later) Later.pre Later.drew 22 rfl (by kernel_rfl) (fun V0 hV0 => ?_)
    have CM : ∀ v, Later V0 v → ∀ j, v.cell? ⟨w2.heap.size, j, none⟩ = #[Value.int .i64 mt, .int .u16 mc, .int .u16 mp, .int .u8 mr][j]? := fun v hv => block_cell (((hV0.trans hv).block w2.heap.size (Array.getElem?_eq_some_iff.1 rM).1).trans rM)
    have HRD : Hid (∀ v, Later V0 v → Rd v.heap.size v (.slice a zs.length cap) zs) := fun v hv => (hI.below (l3.trans (hV0.trans hv))).mono (l3.trans (hV0.trans hv)).size
    have qb : ∀ v, Later V0 v → (convert 22 9 (.slice a zs.length cap)).run Try.prog v = .ok (.string (strOfNums zs)) v := fun v hv => conv_rd 22 9 5 Try.underlying22 Try.underlying5 Try.underlying9 (HRD.out v hv)
    refine anyR_take Later.pre 0 (.bool true) rfl (by kernel_rfl) (by kernel_rfl) (by kernel_rfl) (fun _ _ _ h => h) rfl (fun v1 hv1 => goes_call 11 #[] (by go_simp) (live15_any v1)) ?_
    simp only [Act.put, List.setIfInBounds_toArray, List.set_cons_zero, List.set_cons_succ]
    refine anyR_val Later.pre 1 rfl (by kernel_rfl) (by kernel_rfl) (by kernel_rfl) (fun _ _ _ _ h => h) rfl ?_; apply Exists.intro; refine ⟨fun v1 hv1 => ?_, ?_⟩; (· (go_simp; rfl)); simp only [Act.put, List.setIfInBounds_toArray, List.set_cons_zero, List.set_cons_succ]
    refine anyR_valG Later.pre 2 rfl (by kernel_rfl) (by kernel_rfl) (by kernel_rfl) (fun _ _ _ _ h => h) (by rfl) ?_; apply Exists.intro; refine ⟨fun v1 hv1 => ?_, ?_⟩; (· (go_simp; rfl)); simp only [Act.put, List.setIfInBounds_toArray, List.set_cons_zero, List.set_cons_succ]
    refine anyR_valG Later.pre 3 rfl (by kernel_rfl) (by kernel_rfl) (by kernel_rfl) (fun _ _ _ _ h => h) (by rfl) ?_; apply Exists.intro; refine ⟨fun v1 hv1 => ?_, ?_⟩; (· (go_simp; rfl)); simp only [Act.put, List.setIfInBounds_toArray, List.set_cons_zero, List.set_cons_succ]
    refine anyR_valG Later.pre 4 rfl (by kernel_rfl) (by kernel_rfl) (by kernel_rfl) (fun _ _ _ _ h => h) (by rfl) ?_; apply Exists.intro; refine ⟨fun v1 hv1 => ?_, ?_⟩; (· (go_simp; rfl)); simp only [Act.put, List.setIfInBounds_toArray, List.set_cons_zero, List.set_cons_succ]
    refine anyR_valG Later.pre 7 rfl (by kernel_rfl) (by kernel_rfl) (by kernel_rfl) (fun _ _ _ _ h => h) (by rfl) ?_; apply Exists.intro; refine ⟨fun v1 hv1 => ?_, ?_⟩; (· (go_simp; rfl)); simp only [Act.put, List.setIfInBounds_toArray, List.set_cons_zero, List.set_cons_succ]
    refine anyR_valG Later.pre 8 rfl (by kernel_rfl) (by kernel_rfl) (by kernel_rfl) (fun _ _ _ _ h => h) (by rfl) ?_; apply Exists.intro; refine ⟨fun v1 hv1 => ?_, ?_⟩; (· (go_simp; rfl)); simp only [Act.put, List.setIfInBounds_toArray, List.set_cons_zero, List.set_cons_succ]
    refine anyR_oneG 5 rfl (by kernel_rfl) (by rfl) (fun V1 hV1 => ?_)
    refine wp_enter 12 #[.slice a zs.length cap, .int .u16 mc] (by go_simp) ((HWC.out V1 HL.out (HRD.out V1 hV1)).mono ?_)
    rintro e V2 ⟨a2, rfl, hO2, k2⟩
    refine ⟨k2, ?_⟩
    simp only [Act.put, List.setIfInBounds_toArray, List.set_cons_zero, List.set_cons_succ]
    have q2 : ∀ v, Later V2 v → (convert 22 9 (.slice a2 zs.length zs.length)).run Try.prog v = .ok (.string (strOfNums zs)) v := fun v hv => conv_rd 22 9 5 Try.underlying22 Try.underlying5 Try.underlying9 (hO2.rd.below hv)
    have CM2 : ∀ v, Later V2 v → ∀ j, v.cell? ⟨w2.heap.size, j, none⟩ = #[Value.int .i64 mt, .int .u16 mc, .int .u16 mp, .int .u8 mr][j]? := fun v hv => CM v (hV1.trans (k2.trans hv))
    have qb2 : ∀ v, Later V2 v → (convert 22 9 (.slice a zs.length cap)).run Try.prog v = .ok (.string (strOfNums zs)) v := fun v hv => qb v (hV1.trans (k2.trans hv))
    clear CM qb
    refine anyR_valG Later.pre 6 rfl (by kernel_rfl) (by kernel_rfl) (by kernel_rfl) (fun _ _ _ _ h => h) (by rfl) ?_; apply Exists.intro; refine ⟨fun v1 hv1 => ?_, ?_⟩; (· (go_simp; rfl)); simp only [Act.put, List.setIfInBounds_toArray, List.set_cons_zero, List.set_cons_succ]
    refine anyR_valG Later.pre 9 rfl (by kernel_rfl) (by kernel_rfl) (by kernel_rfl) (fun _ _ _ _ h => h) (by rfl) ?_; apply Exists.intro; refine ⟨fun v1 hv1 => ?_, ?_⟩; (· (go_simp; rfl)); simp only [Act.put, List.setIfInBounds_toArray, List.set_cons_zero, List.set_cons_succ]
    refine anyR_val Later.pre 10 rfl (by kernel_rfl) (by kernel_rfl) (by kernel_rfl) (fun _ _ _ _ h => h) rfl ?_; apply Exists.intro; refine ⟨fun v1 hv1 => ?_, ?_⟩; (· (go_simp; rfl)); simp only [Act.put, List.setIfInBounds_toArray, List.set_cons_zero, List.set_cons_succ]
    refine anyR_val Later.pre 11 rfl (by kernel_rfl) (by kernel_rfl) (by kernel_rfl) (fun _ _ _ _ h => h) rfl ?_; apply Exists.intro; refine ⟨fun v1 hv1 => ?_, ?_⟩; (· (go_simp; rfl)); simp only [Act.put, List.setIfInBounds_toArray, List.set_cons_zero, List.set_cons_succ]
    refine anyR_valG Later.pre 12 rfl (by kernel_rfl) (by kernel_rfl) (by kernel_rfl) (fun _ _ _ _ h => h) (by rfl) ?_; apply Exists.intro; refine ⟨fun v1 hv1 => ?_, ?_⟩; (· (go_simp; rfl)); simp only [Act.put, List.setIfInBounds_toArray, List.set_cons_zero, List.set_cons_succ]
    refine anyR_valG Later.pre 13 rfl (by kernel_rfl) (by kernel_rfl) (by kernel_rfl) (fun _ _ _ _ h => h) (by rfl) ?_; apply Exists.intro; refine ⟨fun v1 hv1 => ?_, ?_⟩; (· (go_simp; rfl)); simp only [Act.put, List.setIfInBounds_toArray, List.set_cons_zero, List.set_cons_succ]
    refine anyR_valG Later.pre 14 rfl (by kernel_rfl) (by kernel_rfl) (by kernel_rfl) (fun _ _ _ _ h => h) (by rfl) ?_; apply Exists.intro; refine ⟨fun v1 hv1 => ?_, ?_⟩; (· (go_simp; rfl)); simp only [Act.put, List.setIfInBounds_toArray, List.set_cons_zero, List.set_cons_succ]
    refine anyR_valG Later.pre 17 rfl (by kernel_rfl) (by kernel_rfl) (by kernel_rfl) (fun _ _ _ _ h => h) (by rfl) ?_; apply Exists.intro; refine ⟨fun v1 hv1 => ?_, ?_⟩; (· (go_simp; rfl)); simp only [Act.put, List.setIfInBounds_toArray, List.set_cons_zero, List.set_cons_succ]
    refine anyR_valG Later.pre 18 rfl (by kernel_rfl) (by kernel_rfl) (by kernel_rfl) (fun _ _ _ _ h => h) (by rfl) ?_; apply Exists.intro; refine ⟨fun v1 hv1 => ?_, ?_⟩; (· (go_simp; rfl)); simp only [Act.put, List.setIfInBounds_toArray, List.set_cons_zero, List.set_cons_succ]
    clear q2 CM2 qb2
    refine anyR_oneG 15 rfl (by kernel_rfl) (by rfl) (fun V3 hV3 => ?_)
    refine wp_enter 14 #[.slice a zs.length cap, .int .u16 mp] (by go_simp) ((HWP.out V3 HL.out (HRD.out V3 (hV1.trans (k2.trans hV3)))).mono ?_)
    rintro e V4 ⟨a4, rfl, hO4, k4⟩
    refine ⟨k4, ?_⟩
    simp only [Act.put, List.setIfInBounds_toArray, List.set_cons_zero, List.set_cons_succ]
    have q4 : ∀ v, Later V4 v → (convert 22 9 (.slice a4 zs.length zs.length)).run Try.prog v = .ok (.string (strOfNums zs)) v := fun v hv => conv_rd 22 9 5 Try.underlying22 Try.underlying5 Try.underlying9 (hO4.rd.below hv)
    refine anyR_valG Later.pre 16 rfl (by kernel_rfl) (by kernel_rfl) (by kernel_rfl) (fun _ _ _ _ h => h) (by rfl) ?_; apply Exists.intro; refine ⟨fun v1 hv1 => ?_, ?_⟩; (· (go_simp; rfl)); simp only [Act.put, List.setIfInBounds_toArray, List.set_cons_zero, List.set_cons_succ]
    refine anyR_valG Later.pre 19 rfl (by kernel_rfl) (by kernel_rfl) (by kernel_rfl) (fun _ _ _ _ h => h) (by rfl) ?_; apply Exists.intro; refine ⟨fun v1 hv1 => ?_, ?_⟩; (· (go_simp; rfl)); simp only [Act.put, List.setIfInBounds_toArray, List.set_cons_zero, List.set_cons_succ]
    refine anyR_val Later.pre 20 rfl (by kernel_rfl) (by kernel_rfl) (by kernel_rfl) (fun _ _ _ _ h => h) rfl ?_; apply Exists.intro; refine ⟨fun v1 hv1 => ?_, ?_⟩; (· (go_simp; rfl)); simp only [Act.put, List.setIfInBounds_toArray, List.set_cons_zero, List.set_cons_succ]
    refine anyR_val Later.pre 21 rfl (by kernel_rfl) (by kernel_rfl) (by kernel_rfl) (fun _ _ _ _ h => h) rfl ?_; apply Exists.intro; refine ⟨fun v1 hv1 => ?_, ?_⟩; (· (go_simp; rfl)); simp only [Act.put, List.setIfInBounds_toArray, List.set_cons_zero, List.set_cons_succ]
    clear q4
    refine anyR_done (by kernel_rfl) (fun V7 hV7 => ?_)
    go_wp2_with fail
    go_ret
    exact ⟨rfl, l3.trans (hV0.trans (hV1.trans (k2.trans (hV3.trans (k4.trans hV7)))))⟩
  · have t0 : (lye zs != 0) = true := by simp [c0]
    rw [HNO.out c0] at HPA
    clear c0 HNO HLE HWC HWP
    generalize lye zs = er at *
    go_enter Try.func6, Try.ntmps6
    go_wp2_with fail
    refine HPA.out.mono ?_
    rintro e w2 ⟨rfl, l2⟩
    have rM := heap_alloc_new w2 (.cells #[.int .i64 0, .int .u16 0, .int .u16 0, .int .u8 0] 25)
    have l3 : Later w (w2.alloc (.cells #[.int .i64 0, .int .u16 0, .int .u16 0, .int .u8 0] 25)) := l2.trans (later_alloc _ _)
    clear HPA l2
    go_upto_region 3 with fail
    generalize w2.alloc _ = w3 at *
    go_wp2_with fail
    refine (live15_any w3).mono ?_
    rintro e w4 ⟨rfl, l4⟩
    have CM := block_cell ((l4.block w2.heap.size (Array.getElem?_eq_some_iff.1 rM).1).trans rM)
    go_wp2_with fail
    go_ret
    exact ⟨rfl, l3.trans l4⟩
end Go.Proofs.Ytochdlmggbhmfaa
