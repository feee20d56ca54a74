/- The walk of PptpClear. -/
import Derived.Test.YtochdlmggbhmfaaJD
import Derived.Test.YtochdlmggbhmfaaRi
namespace Go.Proofs.Ytochdlmggbhmfaa
open Go.RowKit Go.Shelf
set_option maxRecDepth 100000
set_option linter.unusedVariables false
set_option linter.unusedSimpArgs false

theorem put_clr (c o : Int) : putAt2 (clr c) (lyC (clr c)) o = clr o := by
  rw [lyC_clr]
  unfold putAt2
  rw [clr_len, if_pos (by omega)]
  rfl

set_option maxHeartbeats 8000000 in
theorem walk_PptpClear (w : World) (c : Int) (hc : 0 ≤ c ∧ c ≤ 65535) (o : Int) (ho : 0 ≤ o ∧ o ≤ 65535) :
    Calls Try.prog 8 #[.int .u16 c, .int .u16 o] w fun e w' => e = .returned (.bool true) ∧ Below w.heap.size w w' := by
  have HP := hide (parse_clr c)
  have HE := hide (lye_clr c)
  go_enter Try.func8, Try.ntmps8
  go_wp2_with fail
  refine (clearOf_any c hc w).mono ?_
  rintro e w1 ⟨rfl, hO, l1⟩
  go_wp2_with fail
  refine (parse15_any _ (clr c) (clr_by c hc) w1 (Nat.le_refl _) hO.rd).mono ?_
  rintro e w2 ⟨rfl, l2⟩
  rw [HP.out, HE.out]
  have rM := heap_alloc_new w2 (.cells #[.int .i64 12, .int .u16 c, .int .u16 0, .int .u8 0] 25)
  have l3 : Later w (w2.alloc (.cells #[.int .i64 12, .int .u16 c, .int .u16 0, .int .u8 0] 25)) := l1.trans (l2.trans (later_alloc _ _))
  clear hO HP HE l1 l2
  go_upto_region 2 with fail
  generalize w2.alloc _ = w3 at *
  refine anyR_begin (R := Later) Later.pre Later.drew 23 rfl (by kernel_rfl) (fun V0 hV0 => ?_)
  have CM : ∀ v, Later V0 v → ∀ j, v.cell? ⟨w2.heap.size, j, none⟩ = #[Value.int .i64 12, .int .u16 c, .int .u16 0, .int .u8 0][j]? := fun v hv => block_cell (((hV0.trans hv).block w2.heap.size (Array.getElem?_eq_some_iff.1 rM).1).trans rM)
  refine anyR_take Later.pre 0 (.bool true) rfl (by kernel_rfl) (by kernel_rfl) (by kernel_rfl) (fun _ _ _ h => h) rfl (fun v1 hv1 => goes_call 11 #[] (by go_simp) (live15_any v1)) ?_
  simp only [Act.put, List.setIfInBounds_toArray, List.set_cons_zero, List.set_cons_succ]
  refine anyR_val Later.pre 1 rfl (by kernel_rfl) (by kernel_rfl) (by kernel_rfl) (fun _ _ _ _ h => h) rfl ?_; apply Exists.intro; refine ⟨fun v1 hv1 => ?_, ?_⟩; (· (go_simp; rfl)); simp only [Act.put, List.setIfInBounds_toArray, List.set_cons_zero, List.set_cons_succ]
  refine anyR_valG Later.pre 2 rfl (by kernel_rfl) (by kernel_rfl) (by kernel_rfl) (fun _ _ _ _ h => h) (by rfl) ?_; apply Exists.intro; refine ⟨fun v1 hv1 => ?_, ?_⟩; (· (go_simp; rfl)); simp only [Act.put, List.setIfInBounds_toArray, List.set_cons_zero, List.set_cons_succ]
  refine anyR_valG Later.pre 3 rfl (by kernel_rfl) (by kernel_rfl) (by kernel_rfl) (fun _ _ _ _ h => h) (by rfl) ?_; apply Exists.intro; refine ⟨fun v1 hv1 => ?_, ?_⟩; (· (go_simp; rfl)); simp only [Act.put, List.setIfInBounds_toArray, List.set_cons_zero, List.set_cons_succ]
  refine anyR_val Later.pre 4 rfl (by kernel_rfl) (by kernel_rfl) (by kernel_rfl) (fun _ _ _ _ h => h) rfl ?_; apply Exists.intro; refine ⟨fun v1 hv1 => ?_, ?_⟩; (· (go_simp; rfl)); simp only [Act.put, List.setIfInBounds_toArray, List.set_cons_zero, List.set_cons_succ]
  refine anyR_val Later.pre 5 rfl (by kernel_rfl) (by kernel_rfl) (by kernel_rfl) (fun _ _ _ _ h => h) rfl ?_; apply Exists.intro; refine ⟨fun v1 hv1 => ?_, ?_⟩; (· (go_simp; rfl)); simp only [Act.put, List.setIfInBounds_toArray, List.set_cons_zero, List.set_cons_succ]
  refine anyR_valG Later.pre 6 rfl (by kernel_rfl) (by kernel_rfl) (by kernel_rfl) (fun _ _ _ _ h => h) (by rfl) ?_; apply Exists.intro; refine ⟨fun v1 hv1 => ?_, ?_⟩; (· (go_simp; rfl)); simp only [Act.put, List.setIfInBounds_toArray, List.set_cons_zero, List.set_cons_succ]
  refine anyR_valG Later.pre 7 rfl (by kernel_rfl) (by kernel_rfl) (by kernel_rfl) (fun _ _ _ _ h => h) (by rfl) ?_; apply Exists.intro; refine ⟨fun v1 hv1 => ?_, ?_⟩; (· (go_simp; rfl)); simp only [Act.put, List.setIfInBounds_toArray, List.set_cons_zero, List.set_cons_succ]
  refine anyR_valG Later.pre 8 rfl (by kernel_rfl) (by kernel_rfl) (by kernel_rfl) (fun _ _ _ _ h => h) (by rfl) ?_; apply Exists.intro; refine ⟨fun v1 hv1 => ?_, ?_⟩; (· (go_simp; rfl)); simp only [Act.put, List.setIfInBounds_toArray, List.set_cons_zero, List.set_cons_succ]
  refine anyR_valG Later.pre 9 rfl (by kernel_rfl) (by kernel_rfl) (by kernel_rfl) (fun _ _ _ _ h => h) (by rfl) ?_; apply Exists.intro; refine ⟨fun v1 hv1 => ?_, ?_⟩; (· (go_simp; rfl)); simp only [Act.put, List.setIfInBounds_toArray, List.set_cons_zero, List.set_cons_succ]
  refine anyR_val Later.pre 10 rfl (by kernel_rfl) (by kernel_rfl) (by kernel_rfl) (fun _ _ _ _ h => h) rfl ?_; apply Exists.intro; refine ⟨fun v1 hv1 => ?_, ?_⟩; (· (go_simp; rfl)); simp only [Act.put, List.setIfInBounds_toArray, List.set_cons_zero, List.set_cons_succ]
  refine anyR_val Later.pre 11 rfl (by kernel_rfl) (by kernel_rfl) (by kernel_rfl) (fun _ _ _ _ h => h) rfl ?_; apply Exists.intro; refine ⟨fun v1 hv1 => ?_, ?_⟩; (· (go_simp; rfl)); simp only [Act.put, List.setIfInBounds_toArray, List.set_cons_zero, List.set_cons_succ]
  refine anyR_valG Later.pre 12 rfl (by kernel_rfl) (by kernel_rfl) (by kernel_rfl) (fun _ _ _ _ h => h) (by rfl) ?_; apply Exists.intro; refine ⟨fun v1 hv1 => ?_, ?_⟩; (· (go_simp; rfl)); simp only [Act.put, List.setIfInBounds_toArray, List.set_cons_zero, List.set_cons_succ]
  refine anyR_valG Later.pre 14 rfl (by kernel_rfl) (by kernel_rfl) (by kernel_rfl) (fun _ _ _ _ h => h) (by rfl) ?_; apply Exists.intro; refine ⟨fun v1 hv1 => ?_, ?_⟩; (· (go_simp; rfl)); simp only [Act.put, List.setIfInBounds_toArray, List.set_cons_zero, List.set_cons_succ]
  refine anyR_valG Later.pre 17 rfl (by kernel_rfl) (by kernel_rfl) (by kernel_rfl) (fun _ _ _ _ h => h) (by rfl) ?_; apply Exists.intro; refine ⟨fun v1 hv1 => ?_, ?_⟩; (· (go_simp; rfl)); simp only [Act.put, List.setIfInBounds_toArray, List.set_cons_zero, List.set_cons_succ]
  clear CM rM
  refine anyR_oneG 13 rfl (by kernel_rfl) (by rfl) (fun V1 hV1 => ?_)
  refine wp_enter 19 #[.int .u16 c] (by go_simp) ((clearOf_any c hc V1).mono ?_)
  rintro e V2 ⟨rfl, hO2, k2⟩
  refine ⟨k2, ?_⟩
  simp only [Act.put, List.setIfInBounds_toArray, List.set_cons_zero, List.set_cons_succ]
  refine anyR_oneG 15 rfl (by kernel_rfl) (by rfl) (fun V3 hV3 => ?_)
  refine wp_enter 12 #[.slice (some ⟨V1.heap.size, 0, none⟩) 16 16, .int .u16 o] (by go_simp) ((withCall_any _ (clr c) (clr_by c hc) o ho V3 (by rw [clr_len]; omega) ((hO2.rd.below hV3).mono hV3.size)).mono ?_)
  rintro e V4 ⟨a4, rfl, hO4, k4⟩
  rw [put_clr, clr_len] at hO4
  rw [clr_len]
  refine ⟨k4, ?_⟩
  simp only [Act.put, List.setIfInBounds_toArray, List.set_cons_zero, List.set_cons_succ]
  have q4 : ∀ v, Later V4 v → (convert 22 9 (.slice a4 16 16)).run Try.prog v = .ok (.string (strOfNums (clr o))) v := fun v hv => conv_rd 22 9 5 Try.underlying22 Try.underlying5 Try.underlying9 (hO4.rd.below hv)
  refine anyR_valG Later.pre 16 rfl (by kernel_rfl) (by kernel_rfl) (by kernel_rfl) (fun _ _ _ _ h => h) (by rfl) ?_; apply Exists.intro; refine ⟨fun v1 hv1 => ?_, ?_⟩; (· (go_simp; rfl)); simp only [Act.put, List.setIfInBounds_toArray, List.set_cons_zero, List.set_cons_succ]
  clear q4
  refine anyR_oneG 18 rfl (by kernel_rfl) (by rfl) (fun V5 hV5 => ?_)
  refine wp_enter 19 #[.int .u16 o] (by go_simp) ((clearOf_any o ho V5).mono ?_)
  rintro e V6 ⟨rfl, hO6, k6⟩
  refine ⟨k6, ?_⟩
  simp only [Act.put, List.setIfInBounds_toArray, List.set_cons_zero, List.set_cons_succ]
  have q6 : ∀ v, Later V6 v → (convert 22 9 (.slice (some ⟨V5.heap.size, 0, none⟩) 16 16)).run Try.prog v = .ok (.string (strOfNums (clr o))) v := fun v hv => conv_rd 22 9 5 Try.underlying22 Try.underlying5 Try.underlying9 (hO6.rd.below hv)
  refine anyR_valG Later.pre 19 rfl (by kernel_rfl) (by kernel_rfl) (by kernel_rfl) (fun _ _ _ _ h => h) (by rfl) ?_; apply Exists.intro; refine ⟨fun v1 hv1 => ?_, ?_⟩; (· (go_simp; rfl)); simp only [Act.put, List.setIfInBounds_toArray, List.set_cons_zero, List.set_cons_succ]
  clear q6
  refine anyR_valG Later.pre 20 rfl (by kernel_rfl) (by kernel_rfl) (by kernel_rfl) (fun _ _ _ _ h => h) (by rfl) ?_; apply Exists.intro; refine ⟨fun v1 hv1 => ?_, ?_⟩; (· (go_simp; rfl)); simp only [Act.put, List.setIfInBounds_toArray, List.set_cons_zero, List.set_cons_succ]
  refine anyR_val Later.pre 21 rfl (by kernel_rfl) (by kernel_rfl) (by kernel_rfl) (fun _ _ _ _ h => h) rfl ?_; apply Exists.intro; refine ⟨fun v1 hv1 => ?_, ?_⟩; (· (go_simp; rfl)); simp only [Act.put, List.setIfInBounds_toArray, List.set_cons_zero, List.set_cons_succ]
  refine anyR_val Later.pre 22 rfl (by kernel_rfl) (by kernel_rfl) (by kernel_rfl) (fun _ _ _ _ h => h) rfl ?_; apply Exists.intro; refine ⟨fun v1 hv1 => ?_, ?_⟩; (· (go_simp; rfl)); simp only [Act.put, List.setIfInBounds_toArray, List.set_cons_zero, List.set_cons_succ]
  refine anyR_done (by kernel_rfl) (fun V7 hV7 => ?_)
  go_wp2_with fail
  go_ret
  exact ⟨rfl, l3.trans (hV0.trans (hV1.trans (k2.trans (hV3.trans (k4.trans (hV5.trans (k6.trans hV7)))))))⟩
end Go.Proofs.Ytochdlmggbhmfaa
