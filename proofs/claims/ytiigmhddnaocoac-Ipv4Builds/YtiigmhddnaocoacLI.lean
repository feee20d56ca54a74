/- The walk of the law Ipv4Builds. -/
import Derived.Test.YtiigmhddnaocoacVR
import Derived.Test.YtiigmhddnaocoacVZ
import Derived.Test.YtiigmhddnaocoacRh
namespace Go.Proofs.Ytiigmhddnaocoac
open Go.RowKit Go.Shelf
set_option linter.unusedVariables false
set_option linter.unusedSimpArgs false

theorem flt_fit {lo ld : Nat} (hf : flt lo ld = 0) : lo ≤ 40 ∧ lo % 4 = 0 ∧ 20 + lo + ld ≤ 65535 := by
  unfold flt at hf
  split at hf <;> first | omega | (split at hf <;> omega)

set_option maxHeartbeats 8000000 in
theorem walk_Ipv4Builds (w : World) (tos id ttl proto src dst : Int) (keep : Bool) (so sd : Value) (zo zd : List Int) (hBo : Mt.By zo) (hBd : Mt.By zd) (hIo : Rd w.heap.size w so zo) (hId : Rd w.heap.size w sd zd) (hlo : zo.length ≤ 140737488355328) (hld : zd.length ≤ 140737488355328)
    (ht : 0 ≤ tos ∧ tos ≤ 255) (hid : 0 ≤ id ∧ id ≤ 65535) (htt : 0 ≤ ttl ∧ ttl ≤ 255) (hpr : 0 ≤ proto ∧ proto ≤ 255) (hsr : 0 ≤ src ∧ src ≤ 4294967295) (hds : 0 ≤ dst ∧ dst ≤ 4294967295)
    (tos2 id2 ttl2 proto2 src2 dst2 : Int) (keep2 : Bool) (so2 sd2 : Value) (zo2 zd2 : List Int) (hBo2 : Mt.By zo2) (hBd2 : Mt.By zd2) (hIo2 : Rd w.heap.size w so2 zo2) (hId2 : Rd w.heap.size w sd2 zd2) (hlo2 : zo2.length ≤ 140737488355328) (hld2 : zd2.length ≤ 140737488355328)
    (ht2 : 0 ≤ tos2 ∧ tos2 ≤ 255) (hid2 : 0 ≤ id2 ∧ id2 ≤ 65535) (htt2 : 0 ≤ ttl2 ∧ ttl2 ≤ 255) (hpr2 : 0 ≤ proto2 ∧ proto2 ≤ 255) (hsr2 : 0 ≤ src2 ∧ src2 ≤ 4294967295) (hds2 : 0 ≤ dst2 ∧ dst2 ≤ 4294967295) :
    Calls Try.prog 3 #[.agg #[.int .u8 tos, .int .u16 id, .bool keep, .int .u8 ttl, .int .u8 proto, .int .u32 src, .int .u32 dst, so, sd], .agg #[.int .u8 tos2, .int .u16 id2, .bool keep2, .int .u8 ttl2, .int .u8 proto2, .int .u32 src2, .int .u32 dst2, so2, sd2]] w fun e w' => e = .returned (.bool true) ∧ Below w.heap.size w w' := by
  obtain ⟨ao, co, rfl, hl1, hm1⟩ := hIo.slice
  obtain ⟨ad, cd, rfl, hl2, hm2⟩ := hId.slice
  obtain ⟨ao2, co2, rfl, hl3, hm3⟩ := hIo2.slice
  obtain ⟨ad2, cd2, rfl, hl4, hm4⟩ := hId2.slice
  go_enter Try.func3, Try.ntmps3
  go_wp2_with fail
  have a1 := heap_alloc_new w (.cells #[.int .u8 tos, .int .u16 id, .bool keep, .int .u8 ttl, .int .u8 proto, .int .u32 src, .int .u32 dst, .slice ao zo.length co, .slice ad zd.length cd] 26)
  have s1 : (w.alloc (.cells #[.int .u8 tos, .int .u16 id, .bool keep, .int .u8 ttl, .int .u8 proto, .int .u32 src, .int .u32 dst, .slice ao zo.length co, .slice ad zd.length cd] 26)).heap.size = w.heap.size + 1 := by simp
  have hb1 : Below w.heap.size w (w.alloc (.cells #[.int .u8 tos, .int .u16 id, .bool keep, .int .u8 ttl, .int .u8 proto, .int .u32 src, .int .u32 dst, .slice ao zo.length co, .slice ad zd.length cd] 26)) := (Below.refl _ _).alloc (Nat.le_refl _) _
  generalize w.alloc (.cells #[.int .u8 tos, .int .u16 id, .bool keep, .int .u8 ttl, .int .u8 proto, .int .u32 src, .int .u32 dst, .slice ao zo.length co, .slice ad zd.length cd] 26) = W1 at *
  have a2 := heap_alloc_new W1 (.cells #[.int .u8 tos2, .int .u16 id2, .bool keep2, .int .u8 ttl2, .int .u8 proto2, .int .u32 src2, .int .u32 dst2, .slice ao2 zo2.length co2, .slice ad2 zd2.length cd2] 26)
  rw [s1] at a2
  have l2 : Later W1 (W1.alloc (.cells #[.int .u8 tos2, .int .u16 id2, .bool keep2, .int .u8 ttl2, .int .u8 proto2, .int .u32 src2, .int .u32 dst2, .slice ao2 zo2.length co2, .slice ad2 zd2.length cd2] 26)) := (Below.refl _ _).alloc (Nat.le_refl _) _
  have a3 := (l2.block _ (by omega)).trans a1
  have s2 : (W1.alloc (.cells #[.int .u8 tos2, .int .u16 id2, .bool keep2, .int .u8 ttl2, .int .u8 proto2, .int .u32 src2, .int .u32 dst2, .slice ao2 zo2.length co2, .slice ad2 zd2.length cd2] 26)).heap.size = w.heap.size + 1 + 1 := by simp [s1]
  have hb2 := hb1.trans (l2.mono (by omega))
  generalize W1.alloc (.cells #[.int .u8 tos2, .int .u16 id2, .bool keep2, .int .u8 ttl2, .int .u8 proto2, .int .u32 src2, .int .u32 dst2, .slice ao2 zo2.length co2, .slice ad2 zd2.length cd2] 26) = W2 at *
  clear a1 l2 hb1 s1
  by_cases hf : flt zo.length zd.length = 0
  · have hv := flt_fit hf
    refine (build_yes tos id ttl proto src dst keep _ _ zo zd W2 hBo ((hIo.below hb2).mono hb2.size) ((hId.below hb2).mono hb2.size) hv.1 hv.2.1 hv.2.2 ht hid htt hpr hsr hds).mono ?_
    rintro e w3 ⟨v3, rfl, hO3, hb3⟩
    obtain ⟨av, capv, rfl, hlv, hmv⟩ := hO3.slice
    have k3 := (hb3.block _ (by omega)).trans a3
    have k3' := (hb3.block _ (by omega)).trans a2
    have C3 := block_cell k3
    have hw3 := hb2.trans (hb3.mono hb2.size)
    generalize hbb : hdr tos id keep ttl proto src dst zo (20 + zo.length + zd.length) ++ zd = bb at *
    have HBB := hide hbb
    clear hbb
    generalize hlb : bb.length = lb at *
    have HLB := hide hlb
    clear hlb
    go_wp2_with fail
    refine (rbuild_yes tos id ttl proto src dst keep _ _ zo zd w3 hBo ((hIo.below hw3).mono hw3.size) ((hId.below hw3).mono hw3.size) hv.1 hv.2.1 hv.2.2 ht hid htt hpr hsr hds).mono ?_
    rintro e w4 ⟨v4, rfl, hO4, hb4⟩
    rw [HBB.out] at hO4
    obtain ⟨au, capu, rfl, hlu, hmu⟩ := hO4.slice
    rw [HLB.out] at hO4 ⊢
    have k4 := (hb4.block _ (Array.getElem?_eq_some_iff.1 k3).1).trans k3
    have k5 := (hb4.block _ (Array.getElem?_eq_some_iff.1 k3').1).trans k3'
    have hw4 := hw3.trans (hb4.mono hw3.size)
    have hRa : Rd w4.heap.size w4 (.slice av lb capv) bb := (hO3.below hb4 (Nat.le_refl _)).rd
    have hRb : Rd w4.heap.size w4 (.slice au lb capu) bb := hO4.rd
    clear C3 k3 k3' a2 a3 hO3 hO4 hlv hlu HBB HLB hf
    go_wp2_with fail
    refine anyR_begin Later.pre Later.drew 30 rfl (by kernel_rfl) (fun W5 hW5 => ?_)
    have hL5 : Below w.heap.size w W5 := hw4.trans (hW5.mono hw4.size)
    have hC1 : ∀ w1, Later W5 w1 → ∀ j, w1.cell? ⟨w.heap.size, j, none⟩ = #[Value.int .u8 tos, .int .u16 id, .bool keep, .int .u8 ttl, .int .u8 proto, .int .u32 src, .int .u32 dst, .slice ao zo.length co, .slice ad zd.length cd][j]? := fun w1 h => block_cell (((hW5.trans h).block _ (Array.getElem?_eq_some_iff.1 k4).1).trans k4)
    have hC2 : ∀ w1, Later W5 w1 → ∀ j, w1.cell? ⟨w.heap.size + 1, j, none⟩ = #[Value.int .u8 tos2, .int .u16 id2, .bool keep2, .int .u8 ttl2, .int .u8 proto2, .int .u32 src2, .int .u32 dst2, .slice ao2 zo2.length co2, .slice ad2 zd2.length cd2][j]? := fun w1 h => block_cell (((hW5.trans h).block _ (Array.getElem?_eq_some_iff.1 k5).1).trans k5)
    have hsa : ∀ w1, Later W5 w1 → (convert 24 9 (.slice av lb capv)).run Try.prog w1 = .ok (.string (strOfNums bb)) w1 := fun w1 h => conv_rd 24 9 5 Try.underlying24 Try.underlying5 Try.underlying9 (hRa.below (hW5.trans h))
    have hsb : ∀ w1, Later W5 w1 → (convert 24 9 (.slice au lb capu)).run Try.prog w1 = .ok (.string (strOfNums bb)) w1 := fun w1 h => conv_rd 24 9 5 Try.underlying24 Try.underlying5 Try.underlying9 (hRb.below (hW5.trans h))
    have hP1 : ∀ w1, Later W5 w1 → Rd w1.heap.size w1 (.slice ao zo.length co) zo := fun w1 h => (hIo.below (hL5.trans (h.mono hL5.size))).mono (Nat.le_trans hL5.size h.size)
    have hP2 : ∀ w1, Later W5 w1 → Rd w1.heap.size w1 (.slice ad zd.length cd) zd := fun w1 h => (hId.below (hL5.trans (h.mono hL5.size))).mono (Nat.le_trans hL5.size h.size)
    have hP3 : ∀ w1, Later W5 w1 → Rd w1.heap.size w1 (.slice ao2 zo2.length co2) zo2 := fun w1 h => (hIo2.below (hL5.trans (h.mono hL5.size))).mono (Nat.le_trans hL5.size h.size)
    have hP4 : ∀ w1, Later W5 w1 → Rd w1.heap.size w1 (.slice ad2 zd2.length cd2) zd2 := fun w1 h => (hId2.below (hL5.trans (h.mono hL5.size))).mono (Nat.le_trans hL5.size h.size)
    generalize strOfNums bb = str at *
    refine anyR_takeG Later.pre 0 (.bool true) rfl (by kernel_rfl) (by kernel_rfl) (by kernel_rfl) (fun _ _ _ h => h) (by rfl) (fun w1 hw1 => goes_call 11 #[] (by go_simp) ?_) ?_
    · exact (live2_any w1).mono fun e w' ⟨he, hb⟩ => ⟨he, hb⟩
    simp only [Act.put, List.setIfInBounds_toArray, List.set_cons_zero, List.set_cons_succ]
    refine anyR_valG Later.pre 1 rfl (by kernel_rfl) (by kernel_rfl) (by kernel_rfl) (fun _ _ _ _ h => h) (by rfl) ?_; apply Exists.intro; refine ⟨fun w1 hw1 => ?_, ?_⟩; (· (go_simp; rfl)); simp only [Act.put, List.setIfInBounds_toArray, List.set_cons_zero, List.set_cons_succ]
    refine anyR_valG Later.pre 2 rfl (by kernel_rfl) (by kernel_rfl) (by kernel_rfl) (fun _ _ _ _ h => h) (by rfl) ?_; apply Exists.intro; refine ⟨fun w1 hw1 => ?_, ?_⟩; (· (go_simp; rfl)); simp only [Act.put, List.setIfInBounds_toArray, List.set_cons_zero, List.set_cons_succ]
    refine anyR_valG Later.pre 3 rfl (by kernel_rfl) (by kernel_rfl) (by kernel_rfl) (fun _ _ _ _ h => h) (by rfl) ?_; apply Exists.intro; refine ⟨fun w1 hw1 => ?_, ?_⟩; (· (go_simp; rfl)); simp only [Act.put, List.setIfInBounds_toArray, List.set_cons_zero, List.set_cons_succ]
    refine anyR_valG Later.pre 4 rfl (by kernel_rfl) (by kernel_rfl) (by kernel_rfl) (fun _ _ _ _ h => h) (by rfl) ?_; apply Exists.intro; refine ⟨fun w1 hw1 => ?_, ?_⟩; (· (go_simp; rfl)); simp only [Act.put, List.setIfInBounds_toArray, List.set_cons_zero, List.set_cons_succ]
    refine anyR_valG Later.pre 5 rfl (by kernel_rfl) (by kernel_rfl) (by kernel_rfl) (fun _ _ _ _ h => h) (by rfl) ?_; apply Exists.intro; refine ⟨fun w1 hw1 => ?_, ?_⟩; (· (go_simp; rfl)); simp only [Act.put, List.setIfInBounds_toArray, List.set_cons_zero, List.set_cons_succ]
    refine anyR_takeG Later.pre 6 (.bool true) rfl (by kernel_rfl) (by kernel_rfl) (by kernel_rfl) (fun _ _ _ h => h) (by rfl) (fun w1 hw1 => goes_val Later.pre (by go_simp)) ?_
    simp only [Act.put, List.setIfInBounds_toArray, List.set_cons_zero, List.set_cons_succ]
    refine anyR_valG Later.pre 7 rfl (by kernel_rfl) (by kernel_rfl) (by kernel_rfl) (fun _ _ _ _ h => h) (by rfl) ?_; apply Exists.intro; refine ⟨fun w1 hw1 => ?_, ?_⟩; (· (go_simp; rfl)); simp only [Act.put, List.setIfInBounds_toArray, List.set_cons_zero, List.set_cons_succ]
    refine anyR_valG Later.pre 8 rfl (by kernel_rfl) (by kernel_rfl) (by kernel_rfl) (fun _ _ _ _ h => h) (by rfl) ?_; apply Exists.intro; refine ⟨fun w1 hw1 => ?_, ?_⟩; (· (go_simp; rfl)); simp only [Act.put, List.setIfInBounds_toArray, List.set_cons_zero, List.set_cons_succ]
    refine anyR_valG Later.pre 9 rfl (by kernel_rfl) (by kernel_rfl) (by kernel_rfl) (fun _ _ _ _ h => h) (by rfl) ?_; apply Exists.intro; refine ⟨fun w1 hw1 => ?_, ?_⟩; (· (go_simp; rfl)); simp only [Act.put, List.setIfInBounds_toArray, List.set_cons_zero, List.set_cons_succ]
    refine anyR_valG Later.pre 10 rfl (by kernel_rfl) (by kernel_rfl) (by kernel_rfl) (fun _ _ _ _ h => h) (by rfl) ?_; apply Exists.intro; refine ⟨fun w1 hw1 => ?_, ?_⟩; (· (go_simp; rfl)); simp only [Act.put, List.setIfInBounds_toArray, List.set_cons_zero, List.set_cons_succ]
    refine anyR_takeG Later.pre 11 (.bool true) rfl (by kernel_rfl) (by kernel_rfl) (by kernel_rfl) (fun _ _ _ h => h) (by rfl) (fun w1 hw1 => goes_val Later.pre (by go_simp)) ?_
    simp only [Act.put, List.setIfInBounds_toArray, List.set_cons_zero, List.set_cons_succ]
    refine anyR_valG Later.pre 12 rfl (by kernel_rfl) (by kernel_rfl) (by kernel_rfl) (fun _ _ _ _ h => h) (by rfl) ?_; apply Exists.intro; refine ⟨fun w1 hw1 => ?_, ?_⟩; (· (go_simp; rfl)); simp only [Act.put, List.setIfInBounds_toArray, List.set_cons_zero, List.set_cons_succ]
    refine anyR_valG Later.pre 13 rfl (by kernel_rfl) (by kernel_rfl) (by kernel_rfl) (fun _ _ _ _ h => h) (by rfl) ?_; apply Exists.intro; refine ⟨fun w1 hw1 => ?_, ?_⟩; (· (go_simp; rfl)); simp only [Act.put, List.setIfInBounds_toArray, List.set_cons_zero, List.set_cons_succ]
    refine anyR_valG Later.pre 14 rfl (by kernel_rfl) (by kernel_rfl) (by kernel_rfl) (fun _ _ _ _ h => h) (by rfl) ?_; apply Exists.intro; refine ⟨fun w1 hw1 => ?_, ?_⟩; (· (go_simp; rfl)); simp only [Act.put, List.setIfInBounds_toArray, List.set_cons_zero, List.set_cons_succ]
    refine anyR_takeG Later.pre 15 (.bool (flt zo.length zd.length == 0)) rfl (by kernel_rfl) (by kernel_rfl) (by kernel_rfl) (fun _ _ _ h => h) (by rfl) (fun w1 hw1 => goes_call 12 #[.agg #[.int .u8 tos, .int .u16 id, .bool keep, .int .u8 ttl, .int .u8 proto, .int .u32 src, .int .u32 dst, .slice ao zo.length co, .slice ad zd.length cd]] (by go_simp) ?_) ?_
    · exact (right_any tos id ttl proto src dst keep ao ad zo.length co zd.length cd w1 hlo hld).mono fun e w' ⟨he, hb⟩ => ⟨he, hb⟩
    simp only [Act.put, List.setIfInBounds_toArray, List.set_cons_zero, List.set_cons_succ]
    refine anyR_valG Later.pre 16 rfl (by kernel_rfl) (by kernel_rfl) (by kernel_rfl) (fun _ _ _ _ h => h) (by rfl) ?_; apply Exists.intro; refine ⟨fun w1 hw1 => ?_, ?_⟩; (· (go_simp; rfl)); simp only [Act.put, List.setIfInBounds_toArray, List.set_cons_zero, List.set_cons_succ]
    refine anyR_takeG Later.pre 17 (.bool (flt zo.length zd.length == 0)) rfl (by kernel_rfl) (by kernel_rfl) (by kernel_rfl) (fun _ _ _ h => h) (by rfl) (fun w1 hw1 => goes_call 13 #[.agg #[.int .u8 tos, .int .u16 id, .bool keep, .int .u8 ttl, .int .u8 proto, .int .u32 src, .int .u32 dst, .slice ao zo.length co, .slice ad zd.length cd]] (by go_simp) ?_) ?_
    · exact (rright_any tos id ttl proto src dst keep ao ad zo.length co zd.length cd w1 hlo hld).mono fun e w' ⟨he, hb⟩ => ⟨he, hb⟩
    simp only [Act.put, List.setIfInBounds_toArray, List.set_cons_zero, List.set_cons_succ]
    refine anyR_takeG Later.pre 18 (.bool true) rfl (by kernel_rfl) (by kernel_rfl) (by kernel_rfl) (fun _ _ _ h => h) (by rfl) (fun w1 hw1 => goes_val Later.pre (by go_simp)) ?_
    simp only [Act.put, List.setIfInBounds_toArray, List.set_cons_zero, List.set_cons_succ]
    refine anyR_valG Later.pre 19 rfl (by kernel_rfl) (by kernel_rfl) (by kernel_rfl) (fun _ _ _ _ h => h) (by rfl) ?_; apply Exists.intro; refine ⟨fun w1 hw1 => ?_, ?_⟩; (· (go_simp; rfl)); simp only [Act.put, List.setIfInBounds_toArray, List.set_cons_zero, List.set_cons_succ]
    refine anyR_valG Later.pre 20 rfl (by kernel_rfl) (by kernel_rfl) (by kernel_rfl) (fun _ _ _ _ h => h) (by rfl) ?_; apply Exists.intro; refine ⟨fun w1 hw1 => ?_, ?_⟩; (· (go_simp; rfl)); simp only [Act.put, List.setIfInBounds_toArray, List.set_cons_zero, List.set_cons_succ]
    refine anyR_valG Later.pre 21 rfl (by kernel_rfl) (by kernel_rfl) (by kernel_rfl) (fun _ _ _ _ h => h) (by rfl) ?_; apply Exists.intro; refine ⟨fun w1 hw1 => ?_, ?_⟩; (· (go_simp; rfl)); simp only [Act.put, List.setIfInBounds_toArray, List.set_cons_zero, List.set_cons_succ]
    refine anyR_valG Later.pre 22 rfl (by kernel_rfl) (by kernel_rfl) (by kernel_rfl) (fun _ _ _ _ h => h) (by rfl) ?_; apply Exists.intro; refine ⟨fun w1 hw1 => ?_, ?_⟩; (· (go_simp; rfl)); simp only [Act.put, List.setIfInBounds_toArray, List.set_cons_zero, List.set_cons_succ]
    refine anyR_takeG Later.pre 23 (.bool (smP tos id ttl proto src dst tos2 id2 ttl2 proto2 src2 dst2 keep keep2 zo zd zo2 zd2)) rfl (by kernel_rfl) (by kernel_rfl) (by kernel_rfl) (fun _ _ _ h => h) (by rfl) (fun w1 hw1 => goes_call 14 #[.agg #[.int .u8 tos, .int .u16 id, .bool keep, .int .u8 ttl, .int .u8 proto, .int .u32 src, .int .u32 dst, .slice ao zo.length co, .slice ad zd.length cd], .agg #[.int .u8 tos2, .int .u16 id2, .bool keep2, .int .u8 ttl2, .int .u8 proto2, .int .u32 src2, .int .u32 dst2, .slice ao2 zo2.length co2, .slice ad2 zd2.length cd2]] (by go_simp) ?_) ?_
    · exact (same_any tos id ttl proto src dst tos2 id2 ttl2 proto2 src2 dst2 keep keep2 _ _ _ _ zo zd zo2 zd2 w1 hBo hBd hBo2 hBd2 (hP1 w1 hw1) (hP2 w1 hw1) (hP3 w1 hw1) (hP4 w1 hw1)).mono fun e w' ⟨he, hb⟩ => ⟨he, hb⟩
    simp only [Act.put, List.setIfInBounds_toArray, List.set_cons_zero, List.set_cons_succ]
    refine anyR_valG Later.pre 24 rfl (by kernel_rfl) (by kernel_rfl) (by kernel_rfl) (fun _ _ _ _ h => h) (by rfl) ?_; apply Exists.intro; refine ⟨fun w1 hw1 => ?_, ?_⟩; (· (go_simp; rfl)); simp only [Act.put, List.setIfInBounds_toArray, List.set_cons_zero, List.set_cons_succ]
    refine anyR_valG Later.pre 25 rfl (by kernel_rfl) (by kernel_rfl) (by kernel_rfl) (fun _ _ _ _ h => h) (by rfl) ?_; apply Exists.intro; refine ⟨fun w1 hw1 => ?_, ?_⟩; (· (go_simp; rfl)); simp only [Act.put, List.setIfInBounds_toArray, List.set_cons_zero, List.set_cons_succ]
    refine anyR_takeG Later.pre 26 (.bool (smP tos id ttl proto src dst tos2 id2 ttl2 proto2 src2 dst2 keep keep2 zo zd zo2 zd2)) rfl (by kernel_rfl) (by kernel_rfl) (by kernel_rfl) (fun _ _ _ h => h) (by rfl) (fun w1 hw1 => goes_call 15 #[.agg #[.int .u8 tos, .int .u16 id, .bool keep, .int .u8 ttl, .int .u8 proto, .int .u32 src, .int .u32 dst, .slice ao zo.length co, .slice ad zd.length cd], .agg #[.int .u8 tos2, .int .u16 id2, .bool keep2, .int .u8 ttl2, .int .u8 proto2, .int .u32 src2, .int .u32 dst2, .slice ao2 zo2.length co2, .slice ad2 zd2.length cd2]] (by go_simp) ?_) ?_
    · exact (rsame_any tos id ttl proto src dst tos2 id2 ttl2 proto2 src2 dst2 keep keep2 _ _ _ _ zo zd zo2 zd2 w1 hBo hBd hBo2 hBd2 (hP1 w1 hw1) (hP2 w1 hw1) (hP3 w1 hw1) (hP4 w1 hw1)).mono fun e w' ⟨he, hb⟩ => ⟨he, hb⟩
    simp only [Act.put, List.setIfInBounds_toArray, List.set_cons_zero, List.set_cons_succ]
    refine anyR_takeG Later.pre 27 (.bool true) rfl (by kernel_rfl) (by kernel_rfl) (by kernel_rfl) (fun _ _ _ h => h) (by rfl) (fun w1 hw1 => goes_val Later.pre (by go_simp)) ?_
    simp only [Act.put, List.setIfInBounds_toArray, List.set_cons_zero, List.set_cons_succ]
    refine anyR_valG Later.pre 28 rfl (by kernel_rfl) (by kernel_rfl) (by kernel_rfl) (fun _ _ _ _ h => h) (by rfl) ?_; apply Exists.intro; refine ⟨fun w1 hw1 => ?_, ?_⟩; (· (go_simp; rfl)); simp only [Act.put, List.setIfInBounds_toArray, List.set_cons_zero, List.set_cons_succ]
    refine anyR_valG Later.pre 29 rfl (by kernel_rfl) (by kernel_rfl) (by kernel_rfl) (fun _ _ _ _ h => h) (by rfl) ?_; apply Exists.intro; refine ⟨fun w1 hw1 => ?_, ?_⟩; (· (go_simp; rfl)); simp only [Act.put, List.setIfInBounds_toArray, List.set_cons_zero, List.set_cons_succ]
    refine anyR_done (by kernel_rfl) (fun W6 hW6 => ?_)
    clear hC1 hC2 hsa hsb hP1 hP2 hP3 hP4
    go_wp2
    go_ret
    exact ⟨rfl, hL5.trans (hW6.mono hL5.size)⟩
  · refine (build_no tos id ttl proto src dst keep ao ad zo.length co zd.length cd W2 hlo hld hf).mono ?_
    rintro e w3 ⟨rfl, hb3⟩
    have k3 := (hb3.block _ (by omega)).trans a3
    have k3' := (hb3.block _ (by omega)).trans a2
    have C3 := block_cell k3
    have hw3 := hb2.trans (hb3.mono hb2.size)
    go_wp2_with fail
    refine (rbuild_no tos id ttl proto src dst keep ao ad zo.length co zd.length cd w3 hlo hld hf).mono ?_
    rintro e w4 ⟨rfl, hb4⟩
    have k4 := (hb4.block _ (Array.getElem?_eq_some_iff.1 k3).1).trans k3
    have k5 := (hb4.block _ (Array.getElem?_eq_some_iff.1 k3').1).trans k3'
    have hw4 := hw3.trans (hb4.mono hw3.size)
    have hRa : Rd w4.heap.size w4 (.slice none 0 0) [] := rd_zero w4
    have hRb : Rd w4.heap.size w4 (.slice none 0 0) [] := rd_zero w4
    clear C3 k3 k3' a2 a3 hf
    go_wp2_with fail
    refine anyR_begin Later.pre Later.drew 30 rfl (by kernel_rfl) (fun W5 hW5 => ?_)
    have hL5 : Below w.heap.size w W5 := hw4.trans (hW5.mono hw4.size)
    have hC1 : ∀ w1, Later W5 w1 → ∀ j, w1.cell? ⟨w.heap.size, j, none⟩ = #[Value.int .u8 tos, .int .u16 id, .bool keep, .int .u8 ttl, .int .u8 proto, .int .u32 src, .int .u32 dst, .slice ao zo.length co, .slice ad zd.length cd][j]? := fun w1 h => block_cell (((hW5.trans h).block _ (Array.getElem?_eq_some_iff.1 k4).1).trans k4)
    have hC2 : ∀ w1, Later W5 w1 → ∀ j, w1.cell? ⟨w.heap.size + 1, j, none⟩ = #[Value.int .u8 tos2, .int .u16 id2, .bool keep2, .int .u8 ttl2, .int .u8 proto2, .int .u32 src2, .int .u32 dst2, .slice ao2 zo2.length co2, .slice ad2 zd2.length cd2][j]? := fun w1 h => block_cell (((hW5.trans h).block _ (Array.getElem?_eq_some_iff.1 k5).1).trans k5)
    have hsa : ∀ w1, Later W5 w1 → (convert 24 9 (.slice none 0 0)).run Try.prog w1 = .ok (.string (strOfNums [])) w1 := fun w1 h => conv_rd 24 9 5 Try.underlying24 Try.underlying5 Try.underlying9 (hRa.below (hW5.trans h))
    have hsb : ∀ w1, Later W5 w1 → (convert 24 9 (.slice none 0 0)).run Try.prog w1 = .ok (.string (strOfNums [])) w1 := fun w1 h => conv_rd 24 9 5 Try.underlying24 Try.underlying5 Try.underlying9 (hRb.below (hW5.trans h))
    have hP1 : ∀ w1, Later W5 w1 → Rd w1.heap.size w1 (.slice ao zo.length co) zo := fun w1 h => (hIo.below (hL5.trans (h.mono hL5.size))).mono (Nat.le_trans hL5.size h.size)
    have hP2 : ∀ w1, Later W5 w1 → Rd w1.heap.size w1 (.slice ad zd.length cd) zd := fun w1 h => (hId.below (hL5.trans (h.mono hL5.size))).mono (Nat.le_trans hL5.size h.size)
    have hP3 : ∀ w1, Later W5 w1 → Rd w1.heap.size w1 (.slice ao2 zo2.length co2) zo2 := fun w1 h => (hIo2.below (hL5.trans (h.mono hL5.size))).mono (Nat.le_trans hL5.size h.size)
    have hP4 : ∀ w1, Later W5 w1 → Rd w1.heap.size w1 (.slice ad2 zd2.length cd2) zd2 := fun w1 h => (hId2.below (hL5.trans (h.mono hL5.size))).mono (Nat.le_trans hL5.size h.size)
    generalize strOfNums [] = str at *
    refine anyR_takeG Later.pre 0 (.bool true) rfl (by kernel_rfl) (by kernel_rfl) (by kernel_rfl) (fun _ _ _ h => h) (by rfl) (fun w1 hw1 => goes_call 11 #[] (by go_simp) ?_) ?_
    · exact (live2_any w1).mono fun e w' ⟨he, hb⟩ => ⟨he, hb⟩
    simp only [Act.put, List.setIfInBounds_toArray, List.set_cons_zero, List.set_cons_succ]
    refine anyR_valG Later.pre 1 rfl (by kernel_rfl) (by kernel_rfl) (by kernel_rfl) (fun _ _ _ _ h => h) (by rfl) ?_; apply Exists.intro; refine ⟨fun w1 hw1 => ?_, ?_⟩; (· (go_simp; rfl)); simp only [Act.put, List.setIfInBounds_toArray, List.set_cons_zero, List.set_cons_succ]
    refine anyR_valG Later.pre 2 rfl (by kernel_rfl) (by kernel_rfl) (by kernel_rfl) (fun _ _ _ _ h => h) (by rfl) ?_; apply Exists.intro; refine ⟨fun w1 hw1 => ?_, ?_⟩; (· (go_simp; rfl)); simp only [Act.put, List.setIfInBounds_toArray, List.set_cons_zero, List.set_cons_succ]
    refine anyR_valG Later.pre 3 rfl (by kernel_rfl) (by kernel_rfl) (by kernel_rfl) (fun _ _ _ _ h => h) (by rfl) ?_; apply Exists.intro; refine ⟨fun w1 hw1 => ?_, ?_⟩; (· (go_simp; rfl)); simp only [Act.put, List.setIfInBounds_toArray, List.set_cons_zero, List.set_cons_succ]
    refine anyR_valG Later.pre 4 rfl (by kernel_rfl) (by kernel_rfl) (by kernel_rfl) (fun _ _ _ _ h => h) (by rfl) ?_; apply Exists.intro; refine ⟨fun w1 hw1 => ?_, ?_⟩; (· (go_simp; rfl)); simp only [Act.put, List.setIfInBounds_toArray, List.set_cons_zero, List.set_cons_succ]
    refine anyR_valG Later.pre 5 rfl (by kernel_rfl) (by kernel_rfl) (by kernel_rfl) (fun _ _ _ _ h => h) (by rfl) ?_; apply Exists.intro; refine ⟨fun w1 hw1 => ?_, ?_⟩; (· (go_simp; rfl)); simp only [Act.put, List.setIfInBounds_toArray, List.set_cons_zero, List.set_cons_succ]
    refine anyR_takeG Later.pre 6 (.bool true) rfl (by kernel_rfl) (by kernel_rfl) (by kernel_rfl) (fun _ _ _ h => h) (by rfl) (fun w1 hw1 => goes_val Later.pre (by go_simp)) ?_
    simp only [Act.put, List.setIfInBounds_toArray, List.set_cons_zero, List.set_cons_succ]
    refine anyR_valG Later.pre 7 rfl (by kernel_rfl) (by kernel_rfl) (by kernel_rfl) (fun _ _ _ _ h => h) (by rfl) ?_; apply Exists.intro; refine ⟨fun w1 hw1 => ?_, ?_⟩; (· (go_simp; rfl)); simp only [Act.put, List.setIfInBounds_toArray, List.set_cons_zero, List.set_cons_succ]
    refine anyR_valG Later.pre 8 rfl (by kernel_rfl) (by kernel_rfl) (by kernel_rfl) (fun _ _ _ _ h => h) (by rfl) ?_; apply Exists.intro; refine ⟨fun w1 hw1 => ?_, ?_⟩; (· (go_simp; rfl)); simp only [Act.put, List.setIfInBounds_toArray, List.set_cons_zero, List.set_cons_succ]
    refine anyR_valG Later.pre 9 rfl (by kernel_rfl) (by kernel_rfl) (by kernel_rfl) (fun _ _ _ _ h => h) (by rfl) ?_; apply Exists.intro; refine ⟨fun w1 hw1 => ?_, ?_⟩; (· (go_simp; rfl)); simp only [Act.put, List.setIfInBounds_toArray, List.set_cons_zero, List.set_cons_succ]
    refine anyR_valG Later.pre 10 rfl (by kernel_rfl) (by kernel_rfl) (by kernel_rfl) (fun _ _ _ _ h => h) (by rfl) ?_; apply Exists.intro; refine ⟨fun w1 hw1 => ?_, ?_⟩; (· (go_simp; rfl)); simp only [Act.put, List.setIfInBounds_toArray, List.set_cons_zero, List.set_cons_succ]
    refine anyR_takeG Later.pre 11 (.bool true) rfl (by kernel_rfl) (by kernel_rfl) (by kernel_rfl) (fun _ _ _ h => h) (by rfl) (fun w1 hw1 => goes_val Later.pre (by go_simp)) ?_
    simp only [Act.put, List.setIfInBounds_toArray, List.set_cons_zero, List.set_cons_succ]
    refine anyR_valG Later.pre 12 rfl (by kernel_rfl) (by kernel_rfl) (by kernel_rfl) (fun _ _ _ _ h => h) (by rfl) ?_; apply Exists.intro; refine ⟨fun w1 hw1 => ?_, ?_⟩; (· (go_simp; rfl)); simp only [Act.put, List.setIfInBounds_toArray, List.set_cons_zero, List.set_cons_succ]
    refine anyR_valG Later.pre 13 rfl (by kernel_rfl) (by kernel_rfl) (by kernel_rfl) (fun _ _ _ _ h => h) (by rfl) ?_; apply Exists.intro; refine ⟨fun w1 hw1 => ?_, ?_⟩; (· (go_simp; rfl)); simp only [Act.put, List.setIfInBounds_toArray, List.set_cons_zero, List.set_cons_succ]
    refine anyR_valG Later.pre 14 rfl (by kernel_rfl) (by kernel_rfl) (by kernel_rfl) (fun _ _ _ _ h => h) (by rfl) ?_; apply Exists.intro; refine ⟨fun w1 hw1 => ?_, ?_⟩; (· (go_simp; rfl)); simp only [Act.put, List.setIfInBounds_toArray, List.set_cons_zero, List.set_cons_succ]
    refine anyR_takeG Later.pre 15 (.bool (flt zo.length zd.length == 0)) rfl (by kernel_rfl) (by kernel_rfl) (by kernel_rfl) (fun _ _ _ h => h) (by rfl) (fun w1 hw1 => goes_call 12 #[.agg #[.int .u8 tos, .int .u16 id, .bool keep, .int .u8 ttl, .int .u8 proto, .int .u32 src, .int .u32 dst, .slice ao zo.length co, .slice ad zd.length cd]] (by go_simp) ?_) ?_
    · exact (right_any tos id ttl proto src dst keep ao ad zo.length co zd.length cd w1 hlo hld).mono fun e w' ⟨he, hb⟩ => ⟨he, hb⟩
    simp only [Act.put, List.setIfInBounds_toArray, List.set_cons_zero, List.set_cons_succ]
    refine anyR_valG Later.pre 16 rfl (by kernel_rfl) (by kernel_rfl) (by kernel_rfl) (fun _ _ _ _ h => h) (by rfl) ?_; apply Exists.intro; refine ⟨fun w1 hw1 => ?_, ?_⟩; (· (go_simp; rfl)); simp only [Act.put, List.setIfInBounds_toArray, List.set_cons_zero, List.set_cons_succ]
    refine anyR_takeG Later.pre 17 (.bool (flt zo.length zd.length == 0)) rfl (by kernel_rfl) (by kernel_rfl) (by kernel_rfl) (fun _ _ _ h => h) (by rfl) (fun w1 hw1 => goes_call 13 #[.agg #[.int .u8 tos, .int .u16 id, .bool keep, .int .u8 ttl, .int .u8 proto, .int .u32 src, .int .u32 dst, .slice ao zo.length co, .slice ad zd.length cd]] (by go_simp) ?_) ?_
    · exact (rright_any tos id ttl proto src dst keep ao ad zo.length co zd.length cd w1 hlo hld).mono fun e w' ⟨he, hb⟩ => ⟨he, hb⟩
    simp only [Act.put, List.setIfInBounds_toArray, List.set_cons_zero, List.set_cons_succ]
    refine anyR_takeG Later.pre 18 (.bool true) rfl (by kernel_rfl) (by kernel_rfl) (by kernel_rfl) (fun _ _ _ h => h) (by rfl) (fun w1 hw1 => goes_val Later.pre (by go_simp)) ?_
    simp only [Act.put, List.setIfInBounds_toArray, List.set_cons_zero, List.set_cons_succ]
    refine anyR_valG Later.pre 19 rfl (by kernel_rfl) (by kernel_rfl) (by kernel_rfl) (fun _ _ _ _ h => h) (by rfl) ?_; apply Exists.intro; refine ⟨fun w1 hw1 => ?_, ?_⟩; (· (go_simp; rfl)); simp only [Act.put, List.setIfInBounds_toArray, List.set_cons_zero, List.set_cons_succ]
    refine anyR_valG Later.pre 20 rfl (by kernel_rfl) (by kernel_rfl) (by kernel_rfl) (fun _ _ _ _ h => h) (by rfl) ?_; apply Exists.intro; refine ⟨fun w1 hw1 => ?_, ?_⟩; (· (go_simp; rfl)); simp only [Act.put, List.setIfInBounds_toArray, List.set_cons_zero, List.set_cons_succ]
    refine anyR_valG Later.pre 21 rfl (by kernel_rfl) (by kernel_rfl) (by kernel_rfl) (fun _ _ _ _ h => h) (by rfl) ?_; apply Exists.intro; refine ⟨fun w1 hw1 => ?_, ?_⟩; (· (go_simp; rfl)); simp only [Act.put, List.setIfInBounds_toArray, List.set_cons_zero, List.set_cons_succ]
    refine anyR_valG Later.pre 22 rfl (by kernel_rfl) (by kernel_rfl) (by kernel_rfl) (fun _ _ _ _ h => h) (by rfl) ?_; apply Exists.intro; refine ⟨fun w1 hw1 => ?_, ?_⟩; (· (go_simp; rfl)); simp only [Act.put, List.setIfInBounds_toArray, List.set_cons_zero, List.set_cons_succ]
    refine anyR_takeG Later.pre 23 (.bool (smP tos id ttl proto src dst tos2 id2 ttl2 proto2 src2 dst2 keep keep2 zo zd zo2 zd2)) rfl (by kernel_rfl) (by kernel_rfl) (by kernel_rfl) (fun _ _ _ h => h) (by rfl) (fun w1 hw1 => goes_call 14 #[.agg #[.int .u8 tos, .int .u16 id, .bool keep, .int .u8 ttl, .int .u8 proto, .int .u32 src, .int .u32 dst, .slice ao zo.length co, .slice ad zd.length cd], .agg #[.int .u8 tos2, .int .u16 id2, .bool keep2, .int .u8 ttl2, .int .u8 proto2, .int .u32 src2, .int .u32 dst2, .slice ao2 zo2.length co2, .slice ad2 zd2.length cd2]] (by go_simp) ?_) ?_
    · exact (same_any tos id ttl proto src dst tos2 id2 ttl2 proto2 src2 dst2 keep keep2 _ _ _ _ zo zd zo2 zd2 w1 hBo hBd hBo2 hBd2 (hP1 w1 hw1) (hP2 w1 hw1) (hP3 w1 hw1) (hP4 w1 hw1)).mono fun e w' ⟨he, hb⟩ => ⟨he, hb⟩
    simp only [Act.put, List.setIfInBounds_toArray, List.set_cons_zero, List.set_cons_succ]
    refine anyR_valG Later.pre 24 rfl (by kernel_rfl) (by kernel_rfl) (by kernel_rfl) (fun _ _ _ _ h => h) (by rfl) ?_; apply Exists.intro; refine ⟨fun w1 hw1 => ?_, ?_⟩; (· (go_simp; rfl)); simp only [Act.put, List.setIfInBounds_toArray, List.set_cons_zero, List.set_cons_succ]
    refine anyR_valG Later.pre 25 rfl (by kernel_rfl) (by kernel_rfl) (by kernel_rfl) (fun _ _ _ _ h => h) (by rfl) ?_; apply Exists.intro; refine ⟨fun w1 hw1 => ?_, ?_⟩; (· (go_simp; rfl)); simp only [Act.put, List.setIfInBounds_toArray, List.set_cons_zero, List.set_cons_succ]
    refine anyR_takeG Later.pre 26 (.bool (smP tos id ttl proto src dst tos2 id2 ttl2 proto2 src2 dst2 keep keep2 zo zd zo2 zd2)) rfl (by kernel_rfl) (by kernel_rfl) (by kernel_rfl) (fun _ _ _ h => h) (by rfl) (fun w1 hw1 => goes_call 15 #[.agg #[.int .u8 tos, .int .u16 id, .bool keep, .int .u8 ttl, .int .u8 proto, .int .u32 src, .int .u32 dst, .slice ao zo.length co, .slice ad zd.length cd], .agg #[.int .u8 tos2, .int .u16 id2, .bool keep2, .int .u8 ttl2, .int .u8 proto2, .int .u32 src2, .int .u32 dst2, .slice ao2 zo2.length co2, .slice ad2 zd2.length cd2]] (by go_simp) ?_) ?_
    · exact (rsame_any tos id ttl proto src dst tos2 id2 ttl2 proto2 src2 dst2 keep keep2 _ _ _ _ zo zd zo2 zd2 w1 hBo hBd hBo2 hBd2 (hP1 w1 hw1) (hP2 w1 hw1) (hP3 w1 hw1) (hP4 w1 hw1)).mono fun e w' ⟨he, hb⟩ => ⟨he, hb⟩
    simp only [Act.put, List.setIfInBounds_toArray, List.set_cons_zero, List.set_cons_succ]
    refine anyR_takeG Later.pre 27 (.bool true) rfl (by kernel_rfl) (by kernel_rfl) (by kernel_rfl) (fun _ _ _ h => h) (by rfl) (fun w1 hw1 => goes_val Later.pre (by go_simp)) ?_
    simp only [Act.put, List.setIfInBounds_toArray, List.set_cons_zero, List.set_cons_succ]
    refine anyR_valG Later.pre 28 rfl (by kernel_rfl) (by kernel_rfl) (by kernel_rfl) (fun _ _ _ _ h => h) (by rfl) ?_; apply Exists.intro; refine ⟨fun w1 hw1 => ?_, ?_⟩; (· (go_simp; rfl)); simp only [Act.put, List.setIfInBounds_toArray, List.set_cons_zero, List.set_cons_succ]
    refine anyR_valG Later.pre 29 rfl (by kernel_rfl) (by kernel_rfl) (by kernel_rfl) (fun _ _ _ _ h => h) (by rfl) ?_; apply Exists.intro; refine ⟨fun w1 hw1 => ?_, ?_⟩; (· (go_simp; rfl)); simp only [Act.put, List.setIfInBounds_toArray, List.set_cons_zero, List.set_cons_succ]
    refine anyR_done (by kernel_rfl) (fun W6 hW6 => ?_)
    clear hC1 hC2 hsa hsb hP1 hP2 hP3 hP4
    go_wp2
    go_ret
    exact ⟨rfl, hL5.trans (hW6.mono hL5.size)⟩
end Go.Proofs.Ytiigmhddnaocoac
