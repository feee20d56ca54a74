/- The document's ParseGre. -/
import Derived.Test.YtejkonnbpjocoabDoorCO
namespace Go.Proofs.YtejkonnbpjocoabDoor
open Go.RowKit Go.Shelf
set_option maxRecDepth 100000
set_option linter.unusedVariables false
set_option linter.unusedSimpArgs false

theorem bgo_parts (a b c d : Int) (h : bgo a b c d ≠ 4) : (a == 48) = ghs (bgo a b c d) ∧ (b == 129) = gha (bgo a b c d) := by
  unfold bgo at *
  cases a1 : (a == 32) <;> cases a2 : (a == 48) <;> cases b1 : (b == 1) <;> cases b2 : (b == 129) <;> cases c1 : (c == 136) <;> cases d1 : (d == 11) <;> simp [a1, a2, b1, b2, c1, d1, pick4, ghs, gha] at h ⊢
  all_goals first
    | (have e1 := beq_iff_eq.1 a1; have e2 := beq_iff_eq.1 a2; omega)
    | (have e1 := beq_iff_eq.1 b1; have e2 := beq_iff_eq.1 b2; omega)

set_option maxHeartbeats 8000000 in
theorem rparseGre_any (tos id ttl proto src dst : Int) (keep : Bool) (so sd : Value) (zs : List Int) (w : World) (hB : Mt.By zs) (hI : Rd w.heap.size w sd zs) (hl : zs.length ≤ 140737488355328) :
    Calls Tryd.prog 10 #[.agg #[.int .u8 tos, .int .u16 id, .bool keep, .int .u8 ttl, .int .u8 proto, .int .u32 src, .int .u32 dst, so, sd]] w fun e w' => Below w.heap.size w w' ∧ ((pge proto zs ≠ 0 ∧ e = .returned (.tuple #[.agg zf.toArray, .int .i64 (pge proto zs)])) ∨
      (pge proto zs = 0 ∧ ∃ ad cd, e = .returned (.tuple #[.agg #[.int .u16 (getAt2 zs 6), .bool (ghs (bgz zs)), .bool (gha (bgz zs)), .int .u32 (gsq (bgz zs) zs), .int .u32 (gak (bgz zs) zs), .slice ad (zs.length - ghd (bgz zs)) cd], .int .i64 0]) ∧ Ow w.heap.size w' (.slice ad (zs.length - ghd (bgz zs)) cd) (zs.drop (ghd (bgz zs))))) := by
  obtain ⟨ad, cd, rfl, hl1, hm1⟩ := hI.slice
  have hb0 : Below w.heap.size w ((w.alloc (.cells #[.int .u8 tos, .int .u16 id, .bool keep, .int .u8 ttl, .int .u8 proto, .int .u32 src, .int .u32 dst, so, .slice ad zs.length cd] 26)).alloc (.cells zf.toArray 36)) := ((Below.refl _ _).alloc (Nat.le_refl _) _).alloc (by simp) _
  have r0 : ((w.alloc (.cells #[.int .u8 tos, .int .u16 id, .bool keep, .int .u8 ttl, .int .u8 proto, .int .u32 src, .int .u32 dst, so, .slice ad zs.length cd] 26)).alloc (.cells zf.toArray 36)).heap[w.heap.size + 1]? = some (.cells zf.toArray 36 (0, 0)) := by have := heap_alloc_new (w.alloc (.cells #[.int .u8 tos, .int .u16 id, .bool keep, .int .u8 ttl, .int .u8 proto, .int .u32 src, .int .u32 dst, so, .slice ad zs.length cd] 26)) (.cells zf.toArray 36); simpa using this
  have hs0 : ((w.alloc (.cells #[.int .u8 tos, .int .u16 id, .bool keep, .int .u8 ttl, .int .u8 proto, .int .u32 src, .int .u32 dst, so, .slice ad zs.length cd] 26)).alloc (.cells zf.toArray 36)).heap.size = w.heap.size + 1 + 1 := by simp
  have R0 := hide r0
  have HS := hide hs0
  clear r0 hs0
  by_cases c1 : proto = 47
  · have t1 : (proto != 47) = false := by simp [c1]
    have C1 := hide c1
    clear c1
    by_cases c2 : zs.length < 8
    · have t2 : (zs.length : Int) < 8 := by omega
      have HF : Hid (pge proto zs = 3) := by show _ = _; unfold pge; rw [if_neg (by simp [C1.out]), if_pos c2]
      go_enter Tryd.func10, Tryd.ntmps10
      go_wp2_with fail
      exact bodyPost_ret (v := .tuple #[.agg zf.toArray, .int .i64 3]) (by simp [results, Tryd.results10, go_sem]) rfl ⟨hb0, .inl ⟨by rw [HF.out]; decide, by rw [HF.out]⟩⟩
    · have t2 : ¬ (zs.length : Int) < 8 := by omega
      go_enter Tryd.func10, Tryd.ntmps10
      go_wp2_with fail
      generalize (w.alloc (.cells #[.int .u8 tos, .int .u16 id, .bool keep, .int .u8 ttl, .int .u8 proto, .int .u32 src, .int .u32 dst, so, .slice ad zs.length cd] 26)).alloc (.cells zf.toArray 36) = W0 at *
      refine (rbegin_any _ zs (by omega) W0 ((hI.below hb0).mono hb0.size)).mono ?_
      rintro e w1 ⟨rfl, hb1⟩
      have r1 := (hb1.block (w.heap.size + 1) (by have := HS.out; omega)).trans R0.out
      have hw1 : Below w.heap.size w w1 := hb0.trans (hb1.mono hb0.size)
      have hs1 : w.heap.size + 1 + 1 ≤ w1.heap.size := by have := hb1.size; have := HS.out; omega
      by_cases c3 : bgz zs = 4
      · have HF : Hid (pge proto zs = 4) := by show _ = _; unfold pge; rw [if_neg (by simp [C1.out]), if_neg c2, if_pos c3]
        rw [show bgk (bgz zs) = false from by rw [c3]; rfl]
        clear c3
        have RR := block_cell r1
        have FF := block_frozen r1
        go_wp2_with fail
        generalize hV : (((((w1.setCell ⟨w.heap.size + 1, 0, none⟩ _).setCell ⟨w.heap.size + 1, 1, none⟩ _).setCell ⟨w.heap.size + 1, 2, none⟩ _).setCell ⟨w.heap.size + 1, 3, none⟩ _).setCell ⟨w.heap.size + 1, 4, none⟩ _).setCell ⟨w.heap.size + 1, 5, none⟩ _ = V8
        have hV9 : V8 = putRow w1 (w.heap.size + 1) 0 [Value.int .u16 0, .bool false, .bool false, .int .u32 0, .int .u32 0, .slice none 0 0] := hV.symm
        have hb8 : But (fun b => b = w.heap.size + 1) w1 V8 := by rw [hV9]; exact putRow_but (E := fun b => b = w.heap.size + 1) (n := w.heap.size + 1) rfl _ _ _ _ (But.refl _ _)
        have p8 := putRow_all [Value.int .u16 0, .bool false, .bool false, .int .u32 0, .int .u32 0, .slice none 0 0] r1 rfl
        rw [← hV9] at p8
        clear hV hV9
        have P8 := block_cell p8
        have hw8 : Below w.heap.size w V8 := (hw1).trans (hb8.below (hw1).size (fun k h e => by omega))
        exact bodyPost_ret (v := .tuple #[.agg zf.toArray, .int .i64 4]) (by simp [results, Tryd.results10, go_sem, P8]) rfl (⟨hw8, .inl ⟨by rw [HF.out]; decide, by rw [HF.out]⟩⟩)
      · rw [show bgk (bgz zs) = true from by simp [bgk, c3]]
        obtain ⟨ths, tha⟩ := bgo_parts (zs[0]?.getD 0) (zs[1]?.getD 0) (zs[2]?.getD 0) (zs[3]?.getD 0) c3
        change _ = ghs (bgz zs) at ths
        change _ = gha (bgz zs) at tha
        have hn3 : bgz zs ≤ 3 := by have := bgo_le (zs[0]?.getD 0) (zs[1]?.getD 0) (zs[2]?.getD 0) (zs[3]?.getD 0); have : bgz zs ≤ 4 := this; omega
        obtain ⟨b, off, cap, e0, hlc, hmc, hbb, hcs⟩ := hI.cells (by omega)
        have hcl := e0
        simp at hcl
        obtain ⟨rfl, rfl⟩ := hcl
        clear e0
        have d0 := hcs 0 (by omega)
        have d1 := hcs 1 (by omega)
        have hwd : Below w.heap.size w w1.drew := hw1.trans ((Later.drew w1).mono hw1.size)
        obtain ⟨N, HN⟩ : ∃ N, Hid (bgz zs = N) := ⟨_, rfl⟩
        rw [HN.out] at ths tha hn3
        obtain ⟨hs, HHs⟩ : ∃ hs, Hid (ghs N = hs) := ⟨_, rfl⟩
        obtain ⟨ha, HHa⟩ : ∃ ha, Hid (gha N = ha) := ⟨_, rfl⟩
        rw [HHs.out] at ths
        rw [HHa.out] at tha
        generalize zs[0]?.getD 0 = x0 at *
        generalize zs[1]?.getD 0 = x1 at *
        clear c3
        go_upto_region 8 with fail
        go_cut [5] (fun p wx => ∃ mb, p = .pointer (some ⟨mb, 0, none⟩) ∧ w1.heap.size ≤ mb ∧ Later w1 wx ∧ wx.heap[mb]? = some (.cells #[.int .u16 (getAt2 zs 6), .bool hs, .bool ha, .int .u32 0, .int .u32 0, .slice none 0 0] 36 (0, 0)))
        case first =>
          refine anyT_begin (R := But (fun b => w1.heap.size ≤ b)) 13 rfl (by kernel_rfl) ?_
          have hd : Later w1 w1.drew := Later.drew w1
          generalize w1.drew = Wd at *
          have hbel : ∀ v1, But (fun b => w1.heap.size ≤ b) Wd v1 → Below w.heap.size w v1 := fun v1 h => hwd.trans (h.below hwd.size (fun k hk e => by omega))
          have q0 : ∀ v1, But (fun b => w1.heap.size ≤ b) Wd v1 → v1.cell? ⟨b, off, none⟩ = some (.int .u8 x0) := fun v1 h => ((hbel v1 h).cell (p := ⟨b, off, none⟩) hbb).trans d0
          have q1 : ∀ v1, But (fun b => w1.heap.size ≤ b) Wd v1 → v1.cell? ⟨b, off + 1, none⟩ = some (.int .u8 x1) := fun v1 h => ((hbel v1 h).cell (p := ⟨b, off + 1, none⟩) hbb).trans d1
          have hr : ∀ v1, But (fun b => w1.heap.size ≤ b) Wd v1 → Rd w.heap.size v1 (.slice (some ⟨b, off, none⟩) zs.length cd) zs := fun v1 h => hI.below (hbel v1 h)
          have i0 : 0 < zs.length := by omega
          have i1 : (1 : Int) < zs.length := by omega
          clear d0 d1
          refine anyT_val (But.pre _) 0 rfl (by kernel_rfl) (by kernel_rfl) (by kernel_rfl) (fun _ _ _ _ h => h) rfl ?_; apply Exists.intro; refine ⟨fun v1 hv1 => ?_, ?_⟩; (· (go_simp; rfl)); simp only [Act.put, List.setIfInBounds_toArray, List.set_cons_zero, List.set_cons_succ]
          refine anyT_val (But.pre _) 2 rfl (by kernel_rfl) (by kernel_rfl) (by kernel_rfl) (fun _ _ _ _ h => h) rfl ?_; apply Exists.intro; refine ⟨fun v1 hv1 => ?_, ?_⟩; (· (go_simp; rfl)); simp only [Act.put, List.setIfInBounds_toArray, List.set_cons_zero, List.set_cons_succ]
          refine anyT_val (But.pre _) 3 rfl (by kernel_rfl) (by kernel_rfl) (by kernel_rfl) (fun _ _ _ _ h => h) rfl ?_; apply Exists.intro; refine ⟨fun v1 hv1 => ?_, ?_⟩; (· (go_simp; rfl)); simp only [Act.put, List.setIfInBounds_toArray, List.set_cons_zero, List.set_cons_succ]
          refine anyT_val (But.pre _) 4 rfl (by kernel_rfl) (by kernel_rfl) (by kernel_rfl) (fun _ _ _ _ h => h) rfl ?_; apply Exists.intro; refine ⟨fun v1 hv1 => ?_, ?_⟩; (· (go_simp; rfl)); simp only [Act.put, List.setIfInBounds_toArray, List.set_cons_zero, List.set_cons_succ]
          refine anyT_val (But.pre _) 5 rfl (by kernel_rfl) (by kernel_rfl) (by kernel_rfl) (fun _ _ _ _ h => h) rfl ?_; apply Exists.intro; refine ⟨fun v1 hv1 => ?_, ?_⟩; (· (go_simp; rfl)); simp only [Act.put, List.setIfInBounds_toArray, List.set_cons_zero, List.set_cons_succ]
          refine anyT_val (But.pre _) 6 rfl (by kernel_rfl) (by kernel_rfl) (by kernel_rfl) (fun _ _ _ _ h => h) rfl ?_; apply Exists.intro; refine ⟨fun v1 hv1 => ?_, ?_⟩; (· (go_simp; rfl)); simp only [Act.put, List.setIfInBounds_toArray, List.set_cons_zero, List.set_cons_succ]
          refine anyT_val (But.pre _) 7 rfl (by kernel_rfl) (by kernel_rfl) (by kernel_rfl) (fun _ _ _ _ h => h) rfl ?_; apply Exists.intro; refine ⟨fun v1 hv1 => ?_, ?_⟩; (· (go_simp; rfl)); simp only [Act.put, List.setIfInBounds_toArray, List.set_cons_zero, List.set_cons_succ]
          refine anyT_val (But.pre _) 8 rfl (by kernel_rfl) (by kernel_rfl) (by kernel_rfl) (fun _ _ _ _ h => h) rfl ?_; apply Exists.intro; refine ⟨fun v1 hv1 => ?_, ?_⟩; (· (go_simp; rfl)); simp only [Act.put, List.setIfInBounds_toArray, List.set_cons_zero, List.set_cons_succ]
          refine anyT_val (But.pre _) 9 rfl (by kernel_rfl) (by kernel_rfl) (by kernel_rfl) (fun _ _ _ _ h => h) rfl ?_; apply Exists.intro; refine ⟨fun v1 hv1 => ?_, ?_⟩; (· (go_simp; rfl)); simp only [Act.put, List.setIfInBounds_toArray, List.set_cons_zero, List.set_cons_succ]
          refine anyT_two 1 11 rfl rfl (by kernel_rfl) rfl rfl ?_ ?_
          · refine wp_enter 24 #[.slice (some ⟨b, off, none⟩) zs.length cd, .int .i64 6] (by go_simp) ?_
            refine (rget16_at _ zs hB 6 (by omega) (by omega) Wd (hr _ (But.refl _ _))).mono ?_
            rintro e W2 ⟨rfl, q, hq⟩
            have lW2 : Later Wd W2 := by rw [hq]; exact below_draw (Later.refl _) q
            clear hq
            refine ⟨But.of lW2, ?_⟩
            simp only [Act.put, List.setIfInBounds_toArray, List.set_cons_zero, List.set_cons_succ]
            refine anyT_val (But.pre _) 10 rfl (by kernel_rfl) (by kernel_rfl) (by kernel_rfl) (fun _ _ _ _ h => h) rfl ?_; apply Exists.intro; refine ⟨fun v1 hv1 => ?_, ?_⟩; (· (go_simp; rfl)); simp only [Act.put, List.setIfInBounds_toArray, List.set_cons_zero, List.set_cons_succ]
            refine anyT_one 11 rfl (by kernel_rfl) rfl ?_
            unfold Oper.wp
            go_simp
            have zW3 : (W2.alloc (.cells #[.int .u16 0, .bool false, .bool false, .int .u32 0, .int .u32 0, .slice none 0 0] 36)).heap[W2.heap.size]? = some (.cells #[.int .u16 0, .bool false, .bool false, .int .u32 0, .int .u32 0, .slice none 0 0] 36) := heap_alloc_new W2 _
            have lW3 : Later W2 (W2.alloc (.cells #[.int .u16 0, .bool false, .bool false, .int .u32 0, .int .u32 0, .slice none 0 0] 36)) := (Below.refl _ _).alloc (Nat.le_refl _) _
            refine ⟨But.of lW3, ?_⟩
            generalize W2.alloc (.cells #[.int .u16 0, .bool false, .bool false, .int .u32 0, .int .u32 0, .slice none 0 0] 36) = W3 at *
            have zc := zW3
            have hml : w1.heap.size ≤ W2.heap.size := Nat.le_trans hd.size lW2.size
            have lall := Later.trans hd (Later.trans lW2 lW3)
            refine anyT_one 12 rfl (by kernel_rfl) rfl ?_
            have k4 := block_cell zc
            have f4 : ∀ j, W3.frozen? ⟨W2.heap.size, j, none⟩ = false := block_frozen zc
            unfold Oper.wp
            go_simp
            generalize hV7 : (((((W3.setCell ⟨W2.heap.size, 0, none⟩ _).setCell ⟨W2.heap.size, 1, none⟩ _).setCell ⟨W2.heap.size, 2, none⟩ _).setCell ⟨W2.heap.size, 3, none⟩ _).setCell ⟨W2.heap.size, 4, none⟩ _).setCell ⟨W2.heap.size, 5, none⟩ _ = V7
            have hV8 : V7 = putRow W3 W2.heap.size 0 [.int .u16 (getAt2 zs 6), .bool hs, .bool ha, .int .u32 0, .int .u32 0, .slice none 0 0] := hV7.symm
            have hb7 : But (fun b => b = W2.heap.size) W3 V7 := by rw [hV8]; exact putRow_rb _ _
            have p7 := putRow_all [Value.int .u16 (getAt2 zs 6), .bool hs, .bool ha, .int .u32 0, .int .u32 0, .slice none 0 0] zc rfl
            rw [← hV8] at p7
            clear hV7 hV8 k4 f4
            refine ⟨⟨hb7.os, hb7.tape, hb7.output, hb7.size, fun i hi he => hb7.block i hi (fun e => he (by omega))⟩, ?_⟩
            refine anyT_done (by kernel_rfl) ?_
            have lz : Later w1 V7 := Below.trans (B := w1.heap.size) lall (hb7.below lall.size (fun k hk e => by omega))
            go_wp2_with fail
            go_meet
            case rel => exact ⟨W2.heap.size, rfl, hml, lz, p7⟩
          · unfold Oper.wp
            go_simp
            have zW2 : (Wd.alloc (.cells #[.int .u16 0, .bool false, .bool false, .int .u32 0, .int .u32 0, .slice none 0 0] 36)).heap[Wd.heap.size]? = some (.cells #[.int .u16 0, .bool false, .bool false, .int .u32 0, .int .u32 0, .slice none 0 0] 36) := heap_alloc_new Wd _
            have lW2 : Later Wd (Wd.alloc (.cells #[.int .u16 0, .bool false, .bool false, .int .u32 0, .int .u32 0, .slice none 0 0] 36)) := (Below.refl _ _).alloc (Nat.le_refl _) _
            refine ⟨But.of lW2, ?_⟩
            generalize Wd.alloc (.cells #[.int .u16 0, .bool false, .bool false, .int .u32 0, .int .u32 0, .slice none 0 0] 36) = W2 at *
            refine anyT_one 1 rfl (by kernel_rfl) rfl ?_
            refine wp_enter 24 #[.slice (some ⟨b, off, none⟩) zs.length cd, .int .i64 6] (by go_simp) ?_
            refine (rget16_at _ zs hB 6 (by omega) (by omega) W2 (hr _ (But.of lW2))).mono ?_
            rintro e W3 ⟨rfl, q, hq⟩
            have lW3 : Later W2 W3 := by rw [hq]; exact below_draw (Later.refl _) q
            clear hq
            refine ⟨But.of lW3, ?_⟩
            simp only [Act.put, List.setIfInBounds_toArray, List.set_cons_zero, List.set_cons_succ]
            refine anyT_val (But.pre _) 10 rfl (by kernel_rfl) (by kernel_rfl) (by kernel_rfl) (fun _ _ _ _ h => h) rfl ?_; apply Exists.intro; refine ⟨fun v1 hv1 => ?_, ?_⟩; (· (go_simp; rfl)); simp only [Act.put, List.setIfInBounds_toArray, List.set_cons_zero, List.set_cons_succ]
            have zc := (lW3.block Wd.heap.size (Array.getElem?_eq_some_iff.1 zW2).1).trans zW2
            have hml : w1.heap.size ≤ Wd.heap.size := hd.size
            have lall := Later.trans hd (Later.trans lW2 lW3)
            refine anyT_one 12 rfl (by kernel_rfl) rfl ?_
            have k4 := block_cell zc
            have f4 : ∀ j, W3.frozen? ⟨Wd.heap.size, j, none⟩ = false := block_frozen zc
            unfold Oper.wp
            go_simp
            generalize hV7 : (((((W3.setCell ⟨Wd.heap.size, 0, none⟩ _).setCell ⟨Wd.heap.size, 1, none⟩ _).setCell ⟨Wd.heap.size, 2, none⟩ _).setCell ⟨Wd.heap.size, 3, none⟩ _).setCell ⟨Wd.heap.size, 4, none⟩ _).setCell ⟨Wd.heap.size, 5, none⟩ _ = V7
            have hV8 : V7 = putRow W3 Wd.heap.size 0 [.int .u16 (getAt2 zs 6), .bool hs, .bool ha, .int .u32 0, .int .u32 0, .slice none 0 0] := hV7.symm
            have hb7 : But (fun b => b = Wd.heap.size) W3 V7 := by rw [hV8]; exact putRow_rb _ _
            have p7 := putRow_all [Value.int .u16 (getAt2 zs 6), .bool hs, .bool ha, .int .u32 0, .int .u32 0, .slice none 0 0] zc rfl
            rw [← hV8] at p7
            clear hV7 hV8 k4 f4
            refine ⟨⟨hb7.os, hb7.tape, hb7.output, hb7.size, fun i hi he => hb7.block i hi (fun e => he (by omega))⟩, ?_⟩
            refine anyT_done (by kernel_rfl) ?_
            have lz : Later w1 V7 := Below.trans (B := w1.heap.size) lall (hb7.below lall.size (fun k hk e => by omega))
            go_wp2_with fail
            go_meet
            case rel => exact ⟨Wd.heap.size, rfl, hml, lz, p7⟩
        case rest =>
          obtain ⟨mb, rfl, hml, lc, mc⟩ := hcut
          have r2 := (lc.block (w.heap.size + 1) (by omega)).trans r1
          have hw2 := hw1.trans (lc.mono hw1.size)
          clear d0 d1 hwd ths tha
          have HG4 : Hid (getAt2 zs 4 = wat zs 4) := by show _ = _; unfold getAt2; rw [if_pos (by omega)]; rfl
          have hLb := wat_bd hB 4
          obtain ⟨g6, HG6⟩ : ∃ g6, Hid (getAt2 zs 6 = g6) := ⟨_, rfl⟩
          rw [HG6.out] at mc
          obtain ⟨L, HL⟩ : ∃ L, Hid (wat zs 4 = L) := ⟨_, rfl⟩
          rw [HL.out] at hLb
          have HG4 : Hid (getAt2 zs 4 = L) := HG4.out.trans HL.out
          have hN4 : N = 0 ∨ N = 1 ∨ N = 2 ∨ N = 3 := by omega
          clear hn3
          rcases hN4 with rfl | rfl | rfl | rfl
          · skip
            have e1 : hs = false := HHs.out.symm
            have e2 : ha = false := HHa.out.symm
            subst e1 e2
            have MC := block_cell mc
            go_wp2_with fail
            refine (rget16_at _ zs hB 4 (by omega) hl wc (hI.below hw2)).mono ?_
            rw [HG4.out]
            rintro e w3 ⟨rfl, q, hq⟩
            have l3 : Later wc w3 := by rw [hq]; exact below_draw (Later.refl _) q
            clear hq MC
            have m3 := (l3.block mb (Array.getElem?_eq_some_iff.1 mc).1).trans mc
            have r3 := (l3.block (w.heap.size + 1) (Array.getElem?_eq_some_iff.1 r2).1).trans r2
            have hw3 := hw2.trans (l3.mono hw2.size)
            have M3 := block_cell m3
            have hgd : Hid (ghd 0 = 8) := rfl
            by_cases c4 : (zs.length : Int) < 8 + L
            · have HF : Hid (pge proto zs = 3) := by show _ = _; unfold pge; rw [if_neg (by simp [C1.out]), if_neg c2, HN.out, if_neg (by decide), HL.out, hgd.out, if_pos (by omega)]
              have RR := block_cell r3
              have FF := block_frozen r3
              go_wp2_with fail
              generalize hV : (((((w3.setCell ⟨w.heap.size + 1, 0, none⟩ _).setCell ⟨w.heap.size + 1, 1, none⟩ _).setCell ⟨w.heap.size + 1, 2, none⟩ _).setCell ⟨w.heap.size + 1, 3, none⟩ _).setCell ⟨w.heap.size + 1, 4, none⟩ _).setCell ⟨w.heap.size + 1, 5, none⟩ _ = V8
              have hV9 : V8 = putRow w3 (w.heap.size + 1) 0 [Value.int .u16 0, .bool false, .bool false, .int .u32 0, .int .u32 0, .slice none 0 0] := hV.symm
              have hb8 : But (fun b => b = w.heap.size + 1) w3 V8 := by rw [hV9]; exact putRow_but (E := fun b => b = w.heap.size + 1) (n := w.heap.size + 1) rfl _ _ _ _ (But.refl _ _)
              have p8 := putRow_all [Value.int .u16 0, .bool false, .bool false, .int .u32 0, .int .u32 0, .slice none 0 0] r3 rfl
              rw [← hV9] at p8
              clear hV hV9
              have P8 := block_cell p8
              have hw8 : Below w.heap.size w V8 := (hw3).trans (hb8.below (hw3).size (fun k h e => by omega))
              exact bodyPost_ret (v := .tuple #[.agg zf.toArray, .int .i64 3]) (by simp [results, Tryd.results10, go_sem, P8]) rfl (⟨hw8, .inl ⟨by rw [HF.out]; decide, by rw [HF.out]⟩⟩)
            · by_cases c5 : 8 + L < (zs.length : Int)
              · have HF : Hid (pge proto zs = 4) := by show _ = _; unfold pge; rw [if_neg (by simp [C1.out]), if_neg c2, HN.out, if_neg (by decide), HL.out, hgd.out, if_neg (by omega), if_pos (by omega)]
                have RR := block_cell r3
                have FF := block_frozen r3
                go_wp2_with fail
                generalize hV : (((((w3.setCell ⟨w.heap.size + 1, 0, none⟩ _).setCell ⟨w.heap.size + 1, 1, none⟩ _).setCell ⟨w.heap.size + 1, 2, none⟩ _).setCell ⟨w.heap.size + 1, 3, none⟩ _).setCell ⟨w.heap.size + 1, 4, none⟩ _).setCell ⟨w.heap.size + 1, 5, none⟩ _ = V8
                have hV9 : V8 = putRow w3 (w.heap.size + 1) 0 [Value.int .u16 0, .bool false, .bool false, .int .u32 0, .int .u32 0, .slice none 0 0] := hV.symm
                have hb8 : But (fun b => b = w.heap.size + 1) w3 V8 := by rw [hV9]; exact putRow_but (E := fun b => b = w.heap.size + 1) (n := w.heap.size + 1) rfl _ _ _ _ (But.refl _ _)
                have p8 := putRow_all [Value.int .u16 0, .bool false, .bool false, .int .u32 0, .int .u32 0, .slice none 0 0] r3 rfl
                rw [← hV9] at p8
                clear hV hV9
                have P8 := block_cell p8
                have hw8 : Below w.heap.size w V8 := (hw3).trans (hb8.below (hw3).size (fun k h e => by omega))
                exact bodyPost_ret (v := .tuple #[.agg zf.toArray, .int .i64 4]) (by simp [results, Tryd.results10, go_sem, P8]) rfl (⟨hw8, .inl ⟨by rw [HF.out]; decide, by rw [HF.out]⟩⟩)
              · have HF : Hid (pge proto zs = 0) := by show _ = _; unfold pge; rw [if_neg (by simp [C1.out]), if_neg c2, HN.out, if_neg (by decide), HL.out, hgd.out, if_neg (by omega), if_neg (by omega)]
                have hH : 8 ≤ zs.length := by omega
                go_upto_region 25 with fail
                go_cut [5] (fun p wx => p = .pointer (some ⟨mb, 0, none⟩) ∧ But (fun b => b = mb) w3 wx ∧ ∃ a3 c3, wx.heap[mb]? = some (.cells #[.int .u16 g6, .bool false, .bool false, .int .u32 0, .int .u32 0, .slice a3 (zs.length - 8) c3] 36 (0, 0)) ∧ Ow (w.heap.size + 1 + 1) wx (.slice a3 (zs.length - 8) c3) (zs.drop 8))
                case first =>
                  refine anyT_begin (R := But (fun b => b = mb)) 8 rfl (by kernel_rfl) ?_
                  have hd : Later w3 w3.drew := Later.drew w3
                  have md := (hd.block mb (Array.getElem?_eq_some_iff.1 m3).1).trans m3
                  have hwd : Below w.heap.size w w3.drew := hw3.trans (hd.mono hw3.size)
                  generalize w3.drew = Wd at *
                  have hs8 : Rd w.heap.size Wd (.slice (if cd = 8 then some (⟨b, off, none⟩ : Addr) else some ⟨b, off + 8, none⟩) (zs.length - 8) (cd - 8)) (zs.drop 8) := (hI.below hwd).cutAt 8 (by omega)
                  generalize hE8 : (if cd = 8 then some (⟨b, off, none⟩ : Addr) else some ⟨b, off + 8, none⟩) = ad8 at *
                  have i8 : (8 : Int) ≤ zs.length := by omega
                  have i8c : (zs.length : Int) ≤ cd := by omega
                  have i8n : ¬ zs.length < 8 := by omega
                  refine anyT_val (But.pre _) 0 rfl (by kernel_rfl) (by kernel_rfl) (by kernel_rfl) (fun _ _ _ _ h => h) rfl ?_; apply Exists.intro; refine ⟨fun v1 hv1 => ?_, ?_⟩; (· (go_simp; rfl)); simp only [Act.put, List.setIfInBounds_toArray, List.set_cons_zero, List.set_cons_succ]
                  refine anyT_val (But.pre _) 2 rfl (by kernel_rfl) (by kernel_rfl) (by kernel_rfl) (fun _ _ _ _ h => h) rfl ?_; apply Exists.intro; refine ⟨fun v1 hv1 => ?_, ?_⟩; (· (go_simp; rfl)); simp only [Act.put, List.setIfInBounds_toArray, List.set_cons_zero, List.set_cons_succ]
                  refine anyT_val (But.pre _) 3 rfl (by kernel_rfl) (by kernel_rfl) (by kernel_rfl) (fun _ _ _ _ h => h) rfl ?_; apply Exists.intro; refine ⟨fun v1 hv1 => ?_, ?_⟩; (· (go_simp; rfl)); simp only [Act.put, List.setIfInBounds_toArray, List.set_cons_zero, List.set_cons_succ]
                  refine anyT_val (But.pre _) 4 rfl (by kernel_rfl) (by kernel_rfl) (by kernel_rfl) (fun _ _ _ _ h => h) rfl ⟨.slice ad8 (zs.length - 8) (cd - 8), fun v1 hv1 => by go_simp, ?_⟩
                  simp only [Act.put, List.setIfInBounds_toArray, List.set_cons_zero, List.set_cons_succ]
                  refine anyT_one 1 rfl (by kernel_rfl) rfl ?_
                  have kd := block_cell md
                  unfold Oper.wp
                  go_simp
                  refine ⟨But.refl _ _, ?_⟩
                  refine anyT_one 5 rfl (by kernel_rfl) rfl ?_
                  obtain ⟨i0, hi, hz0, hz1, hz2⟩ := info_parts info_u8
                  have hsd : w.heap.size + 1 + 1 ≤ Wd.heap.size := by have := (Array.getElem?_eq_some_iff.1 md).1; omega
                  obtain ⟨v3, W3, hrun3, hown3, hgr3⟩ := run_app (P := Tryd.prog) Wd 24 24 5 (w.heap.size + 1 + 1) i0 Tryd.underlying24 hi hz0 hz1 hz2 (.slice none 0 0) [] (World.ownsRow_nil _ _ _ _) w.heap.size _ (zs.drop 8) hs8 (by simp; omega) hsd
                  have hl3 : Later Wd W3 := (Below.refl _ Wd).grown hgr3 (Nat.le_refl _) (fun _ e => by cases e)
                  have hO3 := Ow.of_row hown3
                  rw [List.nil_append] at hO3
                  clear hown3
                  obtain ⟨a3, c3, rfl, hq3, hm3⟩ := hO3.slice
                  rw [List.length_drop] at hO3 hrun3
                  refine wp_app (.tmp 75) (.tmp 78) 24 rfl _ _ rfl rfl _ W3 hrun3 ⟨But.of hl3, ?_⟩
                  simp only [Act.put, List.setIfInBounds_toArray, List.set_cons_zero, List.set_cons_succ]
                  refine anyT_val (But.pre _) 6 rfl (by kernel_rfl) (by kernel_rfl) (by kernel_rfl) (fun _ _ _ _ h => h) rfl ?_; apply Exists.intro; refine ⟨fun v1 hv1 => ?_, ?_⟩; (· (go_simp; rfl)); simp only [Act.put, List.setIfInBounds_toArray, List.set_cons_zero, List.set_cons_succ]
                  have m6 := (hl3.block mb (Array.getElem?_eq_some_iff.1 md).1).trans md
                  have k6 := block_cell m6
                  have f6 : ∀ j, W3.frozen? ⟨mb, j, none⟩ = false := block_frozen m6
                  clear kd
                  refine anyT_one 7 rfl (by kernel_rfl) rfl ?_
                  unfold Oper.wp
                  go_simp
                  refine ⟨(But.refl (fun b => b = mb) _).setCell (p := ⟨mb, 5, none⟩) rfl _, ?_⟩
                  refine anyT_done (by kernel_rfl) ?_
                  have m7 : (W3.setCell ⟨mb, 5, none⟩ (.slice a3 (zs.length - 8) c3)).heap[mb]? = some (.cells #[.int .u16 g6, .bool false, .bool false, .int .u32 0, .int .u32 0, .slice a3 (zs.length - 8) c3] 36 (0, 0)) := heap_set1 m6 5 _
                  have b7 : But (fun b => b = mb) w3 (W3.setCell ⟨mb, 5, none⟩ (.slice a3 (zs.length - 8) c3)) := (But.of (E := fun b => b = mb) (Later.trans hd hl3)).setCell (p := ⟨mb, 5, none⟩) rfl _
                  have hO7 : Ow (w.heap.size + 1 + 1) (W3.setCell ⟨mb, 5, none⟩ (.slice a3 (zs.length - 8) c3)) (.slice a3 (zs.length - 8) c3) (zs.drop 8) := hO3.other m6 (by decide) ((But.refl (fun b => b = mb) _).setCell (p := ⟨mb, 5, none⟩) rfl _)
                  go_wp2_with fail
                  go_meet
                  case rel => exact ⟨rfl, b7, a3, c3, m7, hO7⟩
                case rest =>
                  obtain ⟨rfl, bc, a3, c3, mx, hOx⟩ := hcut
                  have rx := (bc.block (w.heap.size + 1) (Array.getElem?_eq_some_iff.1 r3).1 (by omega)).trans r3
                  have hwx := hw3.trans (bc.below hw3.size (fun k hk e => by omega))
                  have MX := block_cell mx
                  have RX := block_cell rx
                  have FX := block_frozen rx
                  go_wp2_with fail
                  generalize hV : (((((wc.setCell ⟨w.heap.size + 1, 0, none⟩ _).setCell ⟨w.heap.size + 1, 1, none⟩ _).setCell ⟨w.heap.size + 1, 2, none⟩ _).setCell ⟨w.heap.size + 1, 3, none⟩ _).setCell ⟨w.heap.size + 1, 4, none⟩ _).setCell ⟨w.heap.size + 1, 5, none⟩ _ = V8
                  have hV9 : V8 = putRow wc (w.heap.size + 1) 0 [Value.int .u16 g6, .bool false, .bool false, .int .u32 0, .int .u32 0, .slice a3 (zs.length - 8) c3] := hV.symm
                  have hb8 : But (fun b => b = w.heap.size + 1) wc V8 := by rw [hV9]; exact putRow_but (E := fun b => b = w.heap.size + 1) (n := w.heap.size + 1) rfl _ _ _ _ (But.refl _ _)
                  have p8 := putRow_all [Value.int .u16 g6, .bool false, .bool false, .int .u32 0, .int .u32 0, .slice a3 (zs.length - 8) c3] rx rfl
                  rw [← hV9] at p8
                  clear hV hV9
                  have P8 := block_cell p8
                  have hw8 : Below w.heap.size w V8 := (hwx).trans (hb8.below (hwx).size (fun k h e => by omega))
                  exact bodyPost_ret (v := .tuple #[.agg #[.int .u16 g6, .bool false, .bool false, .int .u32 0, .int .u32 0, .slice a3 (zs.length - 8) c3], .int .i64 0]) (by simp [results, Tryd.results10, go_sem, P8]) rfl (⟨hw8, .inr ⟨HF.out, a3, c3, by rw [HN.out, HG6.out]; rfl, by rw [HN.out]; exact (hOx.other rx (by decide) hb8).mono (by omega)⟩⟩)
          · skip
            have e1 : hs = true := HHs.out.symm
            have e2 : ha = false := HHa.out.symm
            subst e1 e2
            have MC := block_cell mc
            go_wp2_with fail
            refine (rget16_at _ zs hB 4 (by omega) hl wc (hI.below hw2)).mono ?_
            rw [HG4.out]
            rintro e w3 ⟨rfl, q, hq⟩
            have l3 : Later wc w3 := by rw [hq]; exact below_draw (Later.refl _) q
            clear hq MC
            have m3 := (l3.block mb (Array.getElem?_eq_some_iff.1 mc).1).trans mc
            have r3 := (l3.block (w.heap.size + 1) (Array.getElem?_eq_some_iff.1 r2).1).trans r2
            have hw3 := hw2.trans (l3.mono hw2.size)
            have M3 := block_cell m3
            have hgd : Hid (ghd 1 = 12) := rfl
            by_cases c4 : (zs.length : Int) < 12 + L
            · have HF : Hid (pge proto zs = 3) := by show _ = _; unfold pge; rw [if_neg (by simp [C1.out]), if_neg c2, HN.out, if_neg (by decide), HL.out, hgd.out, if_pos (by omega)]
              have RR := block_cell r3
              have FF := block_frozen r3
              go_wp2_with fail
              generalize hV : (((((w3.setCell ⟨w.heap.size + 1, 0, none⟩ _).setCell ⟨w.heap.size + 1, 1, none⟩ _).setCell ⟨w.heap.size + 1, 2, none⟩ _).setCell ⟨w.heap.size + 1, 3, none⟩ _).setCell ⟨w.heap.size + 1, 4, none⟩ _).setCell ⟨w.heap.size + 1, 5, none⟩ _ = V8
              have hV9 : V8 = putRow w3 (w.heap.size + 1) 0 [Value.int .u16 0, .bool false, .bool false, .int .u32 0, .int .u32 0, .slice none 0 0] := hV.symm
              have hb8 : But (fun b => b = w.heap.size + 1) w3 V8 := by rw [hV9]; exact putRow_but (E := fun b => b = w.heap.size + 1) (n := w.heap.size + 1) rfl _ _ _ _ (But.refl _ _)
              have p8 := putRow_all [Value.int .u16 0, .bool false, .bool false, .int .u32 0, .int .u32 0, .slice none 0 0] r3 rfl
              rw [← hV9] at p8
              clear hV hV9
              have P8 := block_cell p8
              have hw8 : Below w.heap.size w V8 := (hw3).trans (hb8.below (hw3).size (fun k h e => by omega))
              exact bodyPost_ret (v := .tuple #[.agg zf.toArray, .int .i64 3]) (by simp [results, Tryd.results10, go_sem, P8]) rfl (⟨hw8, .inl ⟨by rw [HF.out]; decide, by rw [HF.out]⟩⟩)
            · by_cases c5 : 12 + L < (zs.length : Int)
              · have HF : Hid (pge proto zs = 4) := by show _ = _; unfold pge; rw [if_neg (by simp [C1.out]), if_neg c2, HN.out, if_neg (by decide), HL.out, hgd.out, if_neg (by omega), if_pos (by omega)]
                have RR := block_cell r3
                have FF := block_frozen r3
                go_wp2_with fail
                generalize hV : (((((w3.setCell ⟨w.heap.size + 1, 0, none⟩ _).setCell ⟨w.heap.size + 1, 1, none⟩ _).setCell ⟨w.heap.size + 1, 2, none⟩ _).setCell ⟨w.heap.size + 1, 3, none⟩ _).setCell ⟨w.heap.size + 1, 4, none⟩ _).setCell ⟨w.heap.size + 1, 5, none⟩ _ = V8
                have hV9 : V8 = putRow w3 (w.heap.size + 1) 0 [Value.int .u16 0, .bool false, .bool false, .int .u32 0, .int .u32 0, .slice none 0 0] := hV.symm
                have hb8 : But (fun b => b = w.heap.size + 1) w3 V8 := by rw [hV9]; exact putRow_but (E := fun b => b = w.heap.size + 1) (n := w.heap.size + 1) rfl _ _ _ _ (But.refl _ _)
                have p8 := putRow_all [Value.int .u16 0, .bool false, .bool false, .int .u32 0, .int .u32 0, .slice none 0 0] r3 rfl
                rw [← hV9] at p8
                clear hV hV9
                have P8 := block_cell p8
                have hw8 : Below w.heap.size w V8 := (hw3).trans (hb8.below (hw3).size (fun k h e => by omega))
                exact bodyPost_ret (v := .tuple #[.agg zf.toArray, .int .i64 4]) (by simp [results, Tryd.results10, go_sem, P8]) rfl (⟨hw8, .inl ⟨by rw [HF.out]; decide, by rw [HF.out]⟩⟩)
              · have HF : Hid (pge proto zs = 0) := by show _ = _; unfold pge; rw [if_neg (by simp [C1.out]), if_neg c2, HN.out, if_neg (by decide), HL.out, hgd.out, if_neg (by omega), if_neg (by omega)]
                have hH : 12 ≤ zs.length := by omega
                go_wp2_with fail
                refine (rget32_at _ zs hB 8 (by omega) hl w3 (hI.below hw3)).mono ?_
                rintro e x3 ⟨rfl, q, hq⟩
                have lx3 : Later w3 x3 := by rw [hq]; exact below_draw (Later.refl _) q
                clear hq
                have mx3 := (lx3.block mb (Array.getElem?_eq_some_iff.1 m3).1).trans m3
                have rx3 := (lx3.block (w.heap.size + 1) (Array.getElem?_eq_some_iff.1 r3).1).trans r3
                have hx3 := hw3.trans (lx3.mono hw3.size)
                have K3 := block_cell mx3
                have F3 := block_frozen mx3
                have my3 : (x3.setCell ⟨mb, 3, none⟩ (.int .u32 (getAt4 zs 8))).heap[mb]? = some (.cells #[.int .u16 g6, .bool true, .bool false, .int .u32 (getAt4 zs 8), .int .u32 0, .slice none 0 0] 36 (0, 0)) := heap_set1 mx3 3 _
                have by3 : But (fun b => b = mb) x3 (x3.setCell ⟨mb, 3, none⟩ (.int .u32 (getAt4 zs 8))) := (But.refl (fun b => b = mb) _).setCell (p := ⟨mb, 3, none⟩) rfl _
                have ry3 := (by3.block (w.heap.size + 1) (Array.getElem?_eq_some_iff.1 rx3).1 (by omega)).trans rx3
                have hy3 : Below w.heap.size w _ := hx3.trans (by3.below hx3.size (fun k hk e => by omega))
                have KY3 := block_cell my3
                go_upto_region 25 with fail
                clear K3 F3
                generalize x3.setCell ⟨mb, 3, none⟩ (.int .u32 (getAt4 zs 8)) = y3 at *
                go_cut [5] (fun p wx => p = .pointer (some ⟨mb, 0, none⟩) ∧ But (fun b => b = mb) y3 wx ∧ ∃ a3 c3, wx.heap[mb]? = some (.cells #[.int .u16 g6, .bool true, .bool false, .int .u32 (getAt4 zs 8), .int .u32 0, .slice a3 (zs.length - 12) c3] 36 (0, 0)) ∧ Ow (w.heap.size + 1 + 1) wx (.slice a3 (zs.length - 12) c3) (zs.drop 12))
                case first =>
                  refine anyT_begin (R := But (fun b => b = mb)) 8 rfl (by kernel_rfl) ?_
                  have hd : Later y3 y3.drew := Later.drew y3
                  have md := (hd.block mb (Array.getElem?_eq_some_iff.1 my3).1).trans my3
                  have hwd : Below w.heap.size w y3.drew := hy3.trans (hd.mono hy3.size)
                  generalize y3.drew = Wd at *
                  have hs8 : Rd w.heap.size Wd (.slice (if cd = 12 then some (⟨b, off, none⟩ : Addr) else some ⟨b, off + 12, none⟩) (zs.length - 12) (cd - 12)) (zs.drop 12) := (hI.below hwd).cutAt 12 (by omega)
                  generalize hE8 : (if cd = 12 then some (⟨b, off, none⟩ : Addr) else some ⟨b, off + 12, none⟩) = ad8 at *
                  have i8 : (12 : Int) ≤ zs.length := by omega
                  have i8c : (zs.length : Int) ≤ cd := by omega
                  have i8n : ¬ zs.length < 12 := by omega
                  refine anyT_val (But.pre _) 0 rfl (by kernel_rfl) (by kernel_rfl) (by kernel_rfl) (fun _ _ _ _ h => h) rfl ?_; apply Exists.intro; refine ⟨fun v1 hv1 => ?_, ?_⟩; (· (go_simp; rfl)); simp only [Act.put, List.setIfInBounds_toArray, List.set_cons_zero, List.set_cons_succ]
                  refine anyT_val (But.pre _) 2 rfl (by kernel_rfl) (by kernel_rfl) (by kernel_rfl) (fun _ _ _ _ h => h) rfl ?_; apply Exists.intro; refine ⟨fun v1 hv1 => ?_, ?_⟩; (· (go_simp; rfl)); simp only [Act.put, List.setIfInBounds_toArray, List.set_cons_zero, List.set_cons_succ]
                  refine anyT_val (But.pre _) 3 rfl (by kernel_rfl) (by kernel_rfl) (by kernel_rfl) (fun _ _ _ _ h => h) rfl ?_; apply Exists.intro; refine ⟨fun v1 hv1 => ?_, ?_⟩; (· (go_simp; rfl)); simp only [Act.put, List.setIfInBounds_toArray, List.set_cons_zero, List.set_cons_succ]
                  refine anyT_val (But.pre _) 4 rfl (by kernel_rfl) (by kernel_rfl) (by kernel_rfl) (fun _ _ _ _ h => h) rfl ⟨.slice ad8 (zs.length - 12) (cd - 12), fun v1 hv1 => by go_simp, ?_⟩
                  simp only [Act.put, List.setIfInBounds_toArray, List.set_cons_zero, List.set_cons_succ]
                  refine anyT_one 1 rfl (by kernel_rfl) rfl ?_
                  have kd := block_cell md
                  unfold Oper.wp
                  go_simp
                  refine ⟨But.refl _ _, ?_⟩
                  refine anyT_one 5 rfl (by kernel_rfl) rfl ?_
                  obtain ⟨i0, hi, hz0, hz1, hz2⟩ := info_parts info_u8
                  have hsd : w.heap.size + 1 + 1 ≤ Wd.heap.size := by have := (Array.getElem?_eq_some_iff.1 md).1; omega
                  obtain ⟨v3, W3, hrun3, hown3, hgr3⟩ := run_app (P := Tryd.prog) Wd 24 24 5 (w.heap.size + 1 + 1) i0 Tryd.underlying24 hi hz0 hz1 hz2 (.slice none 0 0) [] (World.ownsRow_nil _ _ _ _) w.heap.size _ (zs.drop 12) hs8 (by simp; omega) hsd
                  have hl3 : Later Wd W3 := (Below.refl _ Wd).grown hgr3 (Nat.le_refl _) (fun _ e => by cases e)
                  have hO3 := Ow.of_row hown3
                  rw [List.nil_append] at hO3
                  clear hown3
                  obtain ⟨a3, c3, rfl, hq3, hm3⟩ := hO3.slice
                  rw [List.length_drop] at hO3 hrun3
                  refine wp_app (.tmp 75) (.tmp 78) 24 rfl _ _ rfl rfl _ W3 hrun3 ⟨But.of hl3, ?_⟩
                  simp only [Act.put, List.setIfInBounds_toArray, List.set_cons_zero, List.set_cons_succ]
                  refine anyT_val (But.pre _) 6 rfl (by kernel_rfl) (by kernel_rfl) (by kernel_rfl) (fun _ _ _ _ h => h) rfl ?_; apply Exists.intro; refine ⟨fun v1 hv1 => ?_, ?_⟩; (· (go_simp; rfl)); simp only [Act.put, List.setIfInBounds_toArray, List.set_cons_zero, List.set_cons_succ]
                  have m6 := (hl3.block mb (Array.getElem?_eq_some_iff.1 md).1).trans md
                  have k6 := block_cell m6
                  have f6 : ∀ j, W3.frozen? ⟨mb, j, none⟩ = false := block_frozen m6
                  clear kd
                  refine anyT_one 7 rfl (by kernel_rfl) rfl ?_
                  unfold Oper.wp
                  go_simp
                  refine ⟨(But.refl (fun b => b = mb) _).setCell (p := ⟨mb, 5, none⟩) rfl _, ?_⟩
                  refine anyT_done (by kernel_rfl) ?_
                  have m7 : (W3.setCell ⟨mb, 5, none⟩ (.slice a3 (zs.length - 12) c3)).heap[mb]? = some (.cells #[.int .u16 g6, .bool true, .bool false, .int .u32 (getAt4 zs 8), .int .u32 0, .slice a3 (zs.length - 12) c3] 36 (0, 0)) := heap_set1 m6 5 _
                  have b7 : But (fun b => b = mb) y3 (W3.setCell ⟨mb, 5, none⟩ (.slice a3 (zs.length - 12) c3)) := (But.of (E := fun b => b = mb) (Later.trans hd hl3)).setCell (p := ⟨mb, 5, none⟩) rfl _
                  have hO7 : Ow (w.heap.size + 1 + 1) (W3.setCell ⟨mb, 5, none⟩ (.slice a3 (zs.length - 12) c3)) (.slice a3 (zs.length - 12) c3) (zs.drop 12) := hO3.other m6 (by decide) ((But.refl (fun b => b = mb) _).setCell (p := ⟨mb, 5, none⟩) rfl _)
                  go_wp2_with fail
                  go_meet
                  case rel => exact ⟨rfl, b7, a3, c3, m7, hO7⟩
                case rest =>
                  obtain ⟨rfl, bc, a3, c3, mx, hOx⟩ := hcut
                  have rx := (bc.block (w.heap.size + 1) (Array.getElem?_eq_some_iff.1 ry3).1 (by omega)).trans ry3
                  have hwx := hy3.trans (bc.below hy3.size (fun k hk e => by omega))
                  have MX := block_cell mx
                  have RX := block_cell rx
                  have FX := block_frozen rx
                  go_wp2_with fail
                  generalize hV : (((((wc.setCell ⟨w.heap.size + 1, 0, none⟩ _).setCell ⟨w.heap.size + 1, 1, none⟩ _).setCell ⟨w.heap.size + 1, 2, none⟩ _).setCell ⟨w.heap.size + 1, 3, none⟩ _).setCell ⟨w.heap.size + 1, 4, none⟩ _).setCell ⟨w.heap.size + 1, 5, none⟩ _ = V8
                  have hV9 : V8 = putRow wc (w.heap.size + 1) 0 [Value.int .u16 g6, .bool true, .bool false, .int .u32 (getAt4 zs 8), .int .u32 0, .slice a3 (zs.length - 12) c3] := hV.symm
                  have hb8 : But (fun b => b = w.heap.size + 1) wc V8 := by rw [hV9]; exact putRow_but (E := fun b => b = w.heap.size + 1) (n := w.heap.size + 1) rfl _ _ _ _ (But.refl _ _)
                  have p8 := putRow_all [Value.int .u16 g6, .bool true, .bool false, .int .u32 (getAt4 zs 8), .int .u32 0, .slice a3 (zs.length - 12) c3] rx rfl
                  rw [← hV9] at p8
                  clear hV hV9
                  have P8 := block_cell p8
                  have hw8 : Below w.heap.size w V8 := (hwx).trans (hb8.below (hwx).size (fun k h e => by omega))
                  exact bodyPost_ret (v := .tuple #[.agg #[.int .u16 g6, .bool true, .bool false, .int .u32 (getAt4 zs 8), .int .u32 0, .slice a3 (zs.length - 12) c3], .int .i64 0]) (by simp [results, Tryd.results10, go_sem, P8]) rfl (⟨hw8, .inr ⟨HF.out, a3, c3, by rw [HN.out, HG6.out]; rfl, by rw [HN.out]; exact (hOx.other rx (by decide) hb8).mono (by omega)⟩⟩)
          · skip
            have e1 : hs = false := HHs.out.symm
            have e2 : ha = true := HHa.out.symm
            subst e1 e2
            have MC := block_cell mc
            go_wp2_with fail
            refine (rget16_at _ zs hB 4 (by omega) hl wc (hI.below hw2)).mono ?_
            rw [HG4.out]
            rintro e w3 ⟨rfl, q, hq⟩
            have l3 : Later wc w3 := by rw [hq]; exact below_draw (Later.refl _) q
            clear hq MC
            have m3 := (l3.block mb (Array.getElem?_eq_some_iff.1 mc).1).trans mc
            have r3 := (l3.block (w.heap.size + 1) (Array.getElem?_eq_some_iff.1 r2).1).trans r2
            have hw3 := hw2.trans (l3.mono hw2.size)
            have M3 := block_cell m3
            have hgd : Hid (ghd 2 = 12) := rfl
            by_cases c4 : (zs.length : Int) < 12 + L
            · have HF : Hid (pge proto zs = 3) := by show _ = _; unfold pge; rw [if_neg (by simp [C1.out]), if_neg c2, HN.out, if_neg (by decide), HL.out, hgd.out, if_pos (by omega)]
              have RR := block_cell r3
              have FF := block_frozen r3
              go_wp2_with fail
              generalize hV : (((((w3.setCell ⟨w.heap.size + 1, 0, none⟩ _).setCell ⟨w.heap.size + 1, 1, none⟩ _).setCell ⟨w.heap.size + 1, 2, none⟩ _).setCell ⟨w.heap.size + 1, 3, none⟩ _).setCell ⟨w.heap.size + 1, 4, none⟩ _).setCell ⟨w.heap.size + 1, 5, none⟩ _ = V8
              have hV9 : V8 = putRow w3 (w.heap.size + 1) 0 [Value.int .u16 0, .bool false, .bool false, .int .u32 0, .int .u32 0, .slice none 0 0] := hV.symm
              have hb8 : But (fun b => b = w.heap.size + 1) w3 V8 := by rw [hV9]; exact putRow_but (E := fun b => b = w.heap.size + 1) (n := w.heap.size + 1) rfl _ _ _ _ (But.refl _ _)
              have p8 := putRow_all [Value.int .u16 0, .bool false, .bool false, .int .u32 0, .int .u32 0, .slice none 0 0] r3 rfl
              rw [← hV9] at p8
              clear hV hV9
              have P8 := block_cell p8
              have hw8 : Below w.heap.size w V8 := (hw3).trans (hb8.below (hw3).size (fun k h e => by omega))
              exact bodyPost_ret (v := .tuple #[.agg zf.toArray, .int .i64 3]) (by simp [results, Tryd.results10, go_sem, P8]) rfl (⟨hw8, .inl ⟨by rw [HF.out]; decide, by rw [HF.out]⟩⟩)
            · by_cases c5 : 12 + L < (zs.length : Int)
              · have HF : Hid (pge proto zs = 4) := by show _ = _; unfold pge; rw [if_neg (by simp [C1.out]), if_neg c2, HN.out, if_neg (by decide), HL.out, hgd.out, if_neg (by omega), if_pos (by omega)]
                have RR := block_cell r3
                have FF := block_frozen r3
                go_wp2_with fail
                generalize hV : (((((w3.setCell ⟨w.heap.size + 1, 0, none⟩ _).setCell ⟨w.heap.size + 1, 1, none⟩ _).setCell ⟨w.heap.size + 1, 2, none⟩ _).setCell ⟨w.heap.size + 1, 3, none⟩ _).setCell ⟨w.heap.size + 1, 4, none⟩ _).setCell ⟨w.heap.size + 1, 5, none⟩ _ = V8
                have hV9 : V8 = putRow w3 (w.heap.size + 1) 0 [Value.int .u16 0, .bool false, .bool false, .int .u32 0, .int .u32 0, .slice none 0 0] := hV.symm
                have hb8 : But (fun b => b = w.heap.size + 1) w3 V8 := by rw [hV9]; exact putRow_but (E := fun b => b = w.heap.size + 1) (n := w.heap.size + 1) rfl _ _ _ _ (But.refl _ _)
                have p8 := putRow_all [Value.int .u16 0, .bool false, .bool false, .int .u32 0, .int .u32 0, .slice none 0 0] r3 rfl
                rw [← hV9] at p8
                clear hV hV9
                have P8 := block_cell p8
                have hw8 : Below w.heap.size w V8 := (hw3).trans (hb8.below (hw3).size (fun k h e => by omega))
                exact bodyPost_ret (v := .tuple #[.agg zf.toArray, .int .i64 4]) (by simp [results, Tryd.results10, go_sem, P8]) rfl (⟨hw8, .inl ⟨by rw [HF.out]; decide, by rw [HF.out]⟩⟩)
              · have HF : Hid (pge proto zs = 0) := by show _ = _; unfold pge; rw [if_neg (by simp [C1.out]), if_neg c2, HN.out, if_neg (by decide), HL.out, hgd.out, if_neg (by omega), if_neg (by omega)]
                have hH : 12 ≤ zs.length := by omega
                go_wp2_with fail
                refine (rget32_at _ zs hB 8 (by omega) hl w3 (hI.below hw3)).mono ?_
                rintro e x3 ⟨rfl, q, hq⟩
                have lx3 : Later w3 x3 := by rw [hq]; exact below_draw (Later.refl _) q
                clear hq
                have mx3 := (lx3.block mb (Array.getElem?_eq_some_iff.1 m3).1).trans m3
                have rx3 := (lx3.block (w.heap.size + 1) (Array.getElem?_eq_some_iff.1 r3).1).trans r3
                have hx3 := hw3.trans (lx3.mono hw3.size)
                have K3 := block_cell mx3
                have F3 := block_frozen mx3
                have my3 : (x3.setCell ⟨mb, 4, none⟩ (.int .u32 (getAt4 zs 8))).heap[mb]? = some (.cells #[.int .u16 g6, .bool false, .bool true, .int .u32 0, .int .u32 (getAt4 zs 8), .slice none 0 0] 36 (0, 0)) := heap_set1 mx3 4 _
                have by3 : But (fun b => b = mb) x3 (x3.setCell ⟨mb, 4, none⟩ (.int .u32 (getAt4 zs 8))) := (But.refl (fun b => b = mb) _).setCell (p := ⟨mb, 4, none⟩) rfl _
                have ry3 := (by3.block (w.heap.size + 1) (Array.getElem?_eq_some_iff.1 rx3).1 (by omega)).trans rx3
                have hy3 : Below w.heap.size w _ := hx3.trans (by3.below hx3.size (fun k hk e => by omega))
                have KY3 := block_cell my3
                go_upto_region 25 with fail
                clear K3 F3
                generalize x3.setCell ⟨mb, 4, none⟩ (.int .u32 (getAt4 zs 8)) = y3 at *
                go_cut [5] (fun p wx => p = .pointer (some ⟨mb, 0, none⟩) ∧ But (fun b => b = mb) y3 wx ∧ ∃ a3 c3, wx.heap[mb]? = some (.cells #[.int .u16 g6, .bool false, .bool true, .int .u32 0, .int .u32 (getAt4 zs 8), .slice a3 (zs.length - 12) c3] 36 (0, 0)) ∧ Ow (w.heap.size + 1 + 1) wx (.slice a3 (zs.length - 12) c3) (zs.drop 12))
                case first =>
                  refine anyT_begin (R := But (fun b => b = mb)) 8 rfl (by kernel_rfl) ?_
                  have hd : Later y3 y3.drew := Later.drew y3
                  have md := (hd.block mb (Array.getElem?_eq_some_iff.1 my3).1).trans my3
                  have hwd : Below w.heap.size w y3.drew := hy3.trans (hd.mono hy3.size)
                  generalize y3.drew = Wd at *
                  have hs8 : Rd w.heap.size Wd (.slice (if cd = 12 then some (⟨b, off, none⟩ : Addr) else some ⟨b, off + 12, none⟩) (zs.length - 12) (cd - 12)) (zs.drop 12) := (hI.below hwd).cutAt 12 (by omega)
                  generalize hE8 : (if cd = 12 then some (⟨b, off, none⟩ : Addr) else some ⟨b, off + 12, none⟩) = ad8 at *
                  have i8 : (12 : Int) ≤ zs.length := by omega
                  have i8c : (zs.length : Int) ≤ cd := by omega
                  have i8n : ¬ zs.length < 12 := by omega
                  refine anyT_val (But.pre _) 0 rfl (by kernel_rfl) (by kernel_rfl) (by kernel_rfl) (fun _ _ _ _ h => h) rfl ?_; apply Exists.intro; refine ⟨fun v1 hv1 => ?_, ?_⟩; (· (go_simp; rfl)); simp only [Act.put, List.setIfInBounds_toArray, List.set_cons_zero, List.set_cons_succ]
                  refine anyT_val (But.pre _) 2 rfl (by kernel_rfl) (by kernel_rfl) (by kernel_rfl) (fun _ _ _ _ h => h) rfl ?_; apply Exists.intro; refine ⟨fun v1 hv1 => ?_, ?_⟩; (· (go_simp; rfl)); simp only [Act.put, List.setIfInBounds_toArray, List.set_cons_zero, List.set_cons_succ]
                  refine anyT_val (But.pre _) 3 rfl (by kernel_rfl) (by kernel_rfl) (by kernel_rfl) (fun _ _ _ _ h => h) rfl ?_; apply Exists.intro; refine ⟨fun v1 hv1 => ?_, ?_⟩; (· (go_simp; rfl)); simp only [Act.put, List.setIfInBounds_toArray, List.set_cons_zero, List.set_cons_succ]
                  refine anyT_val (But.pre _) 4 rfl (by kernel_rfl) (by kernel_rfl) (by kernel_rfl) (fun _ _ _ _ h => h) rfl ⟨.slice ad8 (zs.length - 12) (cd - 12), fun v1 hv1 => by go_simp, ?_⟩
                  simp only [Act.put, List.setIfInBounds_toArray, List.set_cons_zero, List.set_cons_succ]
                  refine anyT_one 1 rfl (by kernel_rfl) rfl ?_
                  have kd := block_cell md
                  unfold Oper.wp
                  go_simp
                  refine ⟨But.refl _ _, ?_⟩
                  refine anyT_one 5 rfl (by kernel_rfl) rfl ?_
                  obtain ⟨i0, hi, hz0, hz1, hz2⟩ := info_parts info_u8
                  have hsd : w.heap.size + 1 + 1 ≤ Wd.heap.size := by have := (Array.getElem?_eq_some_iff.1 md).1; omega
                  obtain ⟨v3, W3, hrun3, hown3, hgr3⟩ := run_app (P := Tryd.prog) Wd 24 24 5 (w.heap.size + 1 + 1) i0 Tryd.underlying24 hi hz0 hz1 hz2 (.slice none 0 0) [] (World.ownsRow_nil _ _ _ _) w.heap.size _ (zs.drop 12) hs8 (by simp; omega) hsd
                  have hl3 : Later Wd W3 := (Below.refl _ Wd).grown hgr3 (Nat.le_refl _) (fun _ e => by cases e)
                  have hO3 := Ow.of_row hown3
                  rw [List.nil_append] at hO3
                  clear hown3
                  obtain ⟨a3, c3, rfl, hq3, hm3⟩ := hO3.slice
                  rw [List.length_drop] at hO3 hrun3
                  refine wp_app (.tmp 75) (.tmp 78) 24 rfl _ _ rfl rfl _ W3 hrun3 ⟨But.of hl3, ?_⟩
                  simp only [Act.put, List.setIfInBounds_toArray, List.set_cons_zero, List.set_cons_succ]
                  refine anyT_val (But.pre _) 6 rfl (by kernel_rfl) (by kernel_rfl) (by kernel_rfl) (fun _ _ _ _ h => h) rfl ?_; apply Exists.intro; refine ⟨fun v1 hv1 => ?_, ?_⟩; (· (go_simp; rfl)); simp only [Act.put, List.setIfInBounds_toArray, List.set_cons_zero, List.set_cons_succ]
                  have m6 := (hl3.block mb (Array.getElem?_eq_some_iff.1 md).1).trans md
                  have k6 := block_cell m6
                  have f6 : ∀ j, W3.frozen? ⟨mb, j, none⟩ = false := block_frozen m6
                  clear kd
                  refine anyT_one 7 rfl (by kernel_rfl) rfl ?_
                  unfold Oper.wp
                  go_simp
                  refine ⟨(But.refl (fun b => b = mb) _).setCell (p := ⟨mb, 5, none⟩) rfl _, ?_⟩
                  refine anyT_done (by kernel_rfl) ?_
                  have m7 : (W3.setCell ⟨mb, 5, none⟩ (.slice a3 (zs.length - 12) c3)).heap[mb]? = some (.cells #[.int .u16 g6, .bool false, .bool true, .int .u32 0, .int .u32 (getAt4 zs 8), .slice a3 (zs.length - 12) c3] 36 (0, 0)) := heap_set1 m6 5 _
                  have b7 : But (fun b => b = mb) y3 (W3.setCell ⟨mb, 5, none⟩ (.slice a3 (zs.length - 12) c3)) := (But.of (E := fun b => b = mb) (Later.trans hd hl3)).setCell (p := ⟨mb, 5, none⟩) rfl _
                  have hO7 : Ow (w.heap.size + 1 + 1) (W3.setCell ⟨mb, 5, none⟩ (.slice a3 (zs.length - 12) c3)) (.slice a3 (zs.length - 12) c3) (zs.drop 12) := hO3.other m6 (by decide) ((But.refl (fun b => b = mb) _).setCell (p := ⟨mb, 5, none⟩) rfl _)
                  go_wp2_with fail
                  go_meet
                  case rel => exact ⟨rfl, b7, a3, c3, m7, hO7⟩
                case rest =>
                  obtain ⟨rfl, bc, a3, c3, mx, hOx⟩ := hcut
                  have rx := (bc.block (w.heap.size + 1) (Array.getElem?_eq_some_iff.1 ry3).1 (by omega)).trans ry3
                  have hwx := hy3.trans (bc.below hy3.size (fun k hk e => by omega))
                  have MX := block_cell mx
                  have RX := block_cell rx
                  have FX := block_frozen rx
                  go_wp2_with fail
                  generalize hV : (((((wc.setCell ⟨w.heap.size + 1, 0, none⟩ _).setCell ⟨w.heap.size + 1, 1, none⟩ _).setCell ⟨w.heap.size + 1, 2, none⟩ _).setCell ⟨w.heap.size + 1, 3, none⟩ _).setCell ⟨w.heap.size + 1, 4, none⟩ _).setCell ⟨w.heap.size + 1, 5, none⟩ _ = V8
                  have hV9 : V8 = putRow wc (w.heap.size + 1) 0 [Value.int .u16 g6, .bool false, .bool true, .int .u32 0, .int .u32 (getAt4 zs 8), .slice a3 (zs.length - 12) c3] := hV.symm
                  have hb8 : But (fun b => b = w.heap.size + 1) wc V8 := by rw [hV9]; exact putRow_but (E := fun b => b = w.heap.size + 1) (n := w.heap.size + 1) rfl _ _ _ _ (But.refl _ _)
                  have p8 := putRow_all [Value.int .u16 g6, .bool false, .bool true, .int .u32 0, .int .u32 (getAt4 zs 8), .slice a3 (zs.length - 12) c3] rx rfl
                  rw [← hV9] at p8
                  clear hV hV9
                  have P8 := block_cell p8
                  have hw8 : Below w.heap.size w V8 := (hwx).trans (hb8.below (hwx).size (fun k h e => by omega))
                  exact bodyPost_ret (v := .tuple #[.agg #[.int .u16 g6, .bool false, .bool true, .int .u32 0, .int .u32 (getAt4 zs 8), .slice a3 (zs.length - 12) c3], .int .i64 0]) (by simp [results, Tryd.results10, go_sem, P8]) rfl (⟨hw8, .inr ⟨HF.out, a3, c3, by rw [HN.out, HG6.out]; rfl, by rw [HN.out]; exact (hOx.other rx (by decide) hb8).mono (by omega)⟩⟩)
          · skip
            have e1 : hs = true := HHs.out.symm
            have e2 : ha = true := HHa.out.symm
            subst e1 e2
            have MC := block_cell mc
            go_wp2_with fail
            refine (rget16_at _ zs hB 4 (by omega) hl wc (hI.below hw2)).mono ?_
            rw [HG4.out]
            rintro e w3 ⟨rfl, q, hq⟩
            have l3 : Later wc w3 := by rw [hq]; exact below_draw (Later.refl _) q
            clear hq MC
            have m3 := (l3.block mb (Array.getElem?_eq_some_iff.1 mc).1).trans mc
            have r3 := (l3.block (w.heap.size + 1) (Array.getElem?_eq_some_iff.1 r2).1).trans r2
            have hw3 := hw2.trans (l3.mono hw2.size)
            have M3 := block_cell m3
            have hgd : Hid (ghd 3 = 16) := rfl
            by_cases c4 : (zs.length : Int) < 16 + L
            · have HF : Hid (pge proto zs = 3) := by show _ = _; unfold pge; rw [if_neg (by simp [C1.out]), if_neg c2, HN.out, if_neg (by decide), HL.out, hgd.out, if_pos (by omega)]
              have RR := block_cell r3
              have FF := block_frozen r3
              go_wp2_with fail
              generalize hV : (((((w3.setCell ⟨w.heap.size + 1, 0, none⟩ _).setCell ⟨w.heap.size + 1, 1, none⟩ _).setCell ⟨w.heap.size + 1, 2, none⟩ _).setCell ⟨w.heap.size + 1, 3, none⟩ _).setCell ⟨w.heap.size + 1, 4, none⟩ _).setCell ⟨w.heap.size + 1, 5, none⟩ _ = V8
              have hV9 : V8 = putRow w3 (w.heap.size + 1) 0 [Value.int .u16 0, .bool false, .bool false, .int .u32 0, .int .u32 0, .slice none 0 0] := hV.symm
              have hb8 : But (fun b => b = w.heap.size + 1) w3 V8 := by rw [hV9]; exact putRow_but (E := fun b => b = w.heap.size + 1) (n := w.heap.size + 1) rfl _ _ _ _ (But.refl _ _)
              have p8 := putRow_all [Value.int .u16 0, .bool false, .bool false, .int .u32 0, .int .u32 0, .slice none 0 0] r3 rfl
              rw [← hV9] at p8
              clear hV hV9
              have P8 := block_cell p8
              have hw8 : Below w.heap.size w V8 := (hw3).trans (hb8.below (hw3).size (fun k h e => by omega))
              exact bodyPost_ret (v := .tuple #[.agg zf.toArray, .int .i64 3]) (by simp [results, Tryd.results10, go_sem, P8]) rfl (⟨hw8, .inl ⟨by rw [HF.out]; decide, by rw [HF.out]⟩⟩)
            · by_cases c5 : 16 + L < (zs.length : Int)
              · have HF : Hid (pge proto zs = 4) := by show _ = _; unfold pge; rw [if_neg (by simp [C1.out]), if_neg c2, HN.out, if_neg (by decide), HL.out, hgd.out, if_neg (by omega), if_pos (by omega)]
                have RR := block_cell r3
                have FF := block_frozen r3
                go_wp2_with fail
                generalize hV : (((((w3.setCell ⟨w.heap.size + 1, 0, none⟩ _).setCell ⟨w.heap.size + 1, 1, none⟩ _).setCell ⟨w.heap.size + 1, 2, none⟩ _).setCell ⟨w.heap.size + 1, 3, none⟩ _).setCell ⟨w.heap.size + 1, 4, none⟩ _).setCell ⟨w.heap.size + 1, 5, none⟩ _ = V8
                have hV9 : V8 = putRow w3 (w.heap.size + 1) 0 [Value.int .u16 0, .bool false, .bool false, .int .u32 0, .int .u32 0, .slice none 0 0] := hV.symm
                have hb8 : But (fun b => b = w.heap.size + 1) w3 V8 := by rw [hV9]; exact putRow_but (E := fun b => b = w.heap.size + 1) (n := w.heap.size + 1) rfl _ _ _ _ (But.refl _ _)
                have p8 := putRow_all [Value.int .u16 0, .bool false, .bool false, .int .u32 0, .int .u32 0, .slice none 0 0] r3 rfl
                rw [← hV9] at p8
                clear hV hV9
                have P8 := block_cell p8
                have hw8 : Below w.heap.size w V8 := (hw3).trans (hb8.below (hw3).size (fun k h e => by omega))
                exact bodyPost_ret (v := .tuple #[.agg zf.toArray, .int .i64 4]) (by simp [results, Tryd.results10, go_sem, P8]) rfl (⟨hw8, .inl ⟨by rw [HF.out]; decide, by rw [HF.out]⟩⟩)
              · have HF : Hid (pge proto zs = 0) := by show _ = _; unfold pge; rw [if_neg (by simp [C1.out]), if_neg c2, HN.out, if_neg (by decide), HL.out, hgd.out, if_neg (by omega), if_neg (by omega)]
                have hH : 16 ≤ zs.length := by omega
                go_wp2_with fail
                refine (rget32_at _ zs hB 8 (by omega) hl w3 (hI.below hw3)).mono ?_
                rintro e x3 ⟨rfl, q, hq⟩
                have lx3 : Later w3 x3 := by rw [hq]; exact below_draw (Later.refl _) q
                clear hq
                have mx3 := (lx3.block mb (Array.getElem?_eq_some_iff.1 m3).1).trans m3
                have rx3 := (lx3.block (w.heap.size + 1) (Array.getElem?_eq_some_iff.1 r3).1).trans r3
                have hx3 := hw3.trans (lx3.mono hw3.size)
                have K3 := block_cell mx3
                have F3 := block_frozen mx3
                have my3 : (x3.setCell ⟨mb, 3, none⟩ (.int .u32 (getAt4 zs 8))).heap[mb]? = some (.cells #[.int .u16 g6, .bool true, .bool true, .int .u32 (getAt4 zs 8), .int .u32 0, .slice none 0 0] 36 (0, 0)) := heap_set1 mx3 3 _
                have by3 : But (fun b => b = mb) x3 (x3.setCell ⟨mb, 3, none⟩ (.int .u32 (getAt4 zs 8))) := (But.refl (fun b => b = mb) _).setCell (p := ⟨mb, 3, none⟩) rfl _
                have ry3 := (by3.block (w.heap.size + 1) (Array.getElem?_eq_some_iff.1 rx3).1 (by omega)).trans rx3
                have hy3 : Below w.heap.size w _ := hx3.trans (by3.below hx3.size (fun k hk e => by omega))
                have KY3 := block_cell my3
                go_wp2_with fail
                clear K3 F3
                generalize x3.setCell ⟨mb, 3, none⟩ (.int .u32 (getAt4 zs 8)) = y3 at *
                refine (rget32_at _ zs hB 12 (by omega) hl y3 (hI.below hy3)).mono ?_
                rintro e x4 ⟨rfl, q, hq⟩
                have lx4 : Later y3 x4 := by rw [hq]; exact below_draw (Later.refl _) q
                clear hq
                have mx4 := (lx4.block mb (Array.getElem?_eq_some_iff.1 my3).1).trans my3
                have rx4 := (lx4.block (w.heap.size + 1) (Array.getElem?_eq_some_iff.1 ry3).1).trans ry3
                have hx4 := hy3.trans (lx4.mono hy3.size)
                have K4 := block_cell mx4
                have F4 := block_frozen mx4
                have my4 : (x4.setCell ⟨mb, 4, none⟩ (.int .u32 (getAt4 zs 12))).heap[mb]? = some (.cells #[.int .u16 g6, .bool true, .bool true, .int .u32 (getAt4 zs 8), .int .u32 (getAt4 zs 12), .slice none 0 0] 36 (0, 0)) := heap_set1 mx4 4 _
                have by4 : But (fun b => b = mb) x4 (x4.setCell ⟨mb, 4, none⟩ (.int .u32 (getAt4 zs 12))) := (But.refl (fun b => b = mb) _).setCell (p := ⟨mb, 4, none⟩) rfl _
                have ry4 := (by4.block (w.heap.size + 1) (Array.getElem?_eq_some_iff.1 rx4).1 (by omega)).trans rx4
                have hy4 : Below w.heap.size w _ := hx4.trans (by4.below hx4.size (fun k hk e => by omega))
                have KY4 := block_cell my4
                go_upto_region 25 with fail
                clear K4 F4
                generalize x4.setCell ⟨mb, 4, none⟩ (.int .u32 (getAt4 zs 12)) = y4 at *
                go_cut [5] (fun p wx => p = .pointer (some ⟨mb, 0, none⟩) ∧ But (fun b => b = mb) y4 wx ∧ ∃ a3 c3, wx.heap[mb]? = some (.cells #[.int .u16 g6, .bool true, .bool true, .int .u32 (getAt4 zs 8), .int .u32 (getAt4 zs 12), .slice a3 (zs.length - 16) c3] 36 (0, 0)) ∧ Ow (w.heap.size + 1 + 1) wx (.slice a3 (zs.length - 16) c3) (zs.drop 16))
                case first =>
                  refine anyT_begin (R := But (fun b => b = mb)) 8 rfl (by kernel_rfl) ?_
                  have hd : Later y4 y4.drew := Later.drew y4
                  have md := (hd.block mb (Array.getElem?_eq_some_iff.1 my4).1).trans my4
                  have hwd : Below w.heap.size w y4.drew := hy4.trans (hd.mono hy4.size)
                  generalize y4.drew = Wd at *
                  have hs8 : Rd w.heap.size Wd (.slice (if cd = 16 then some (⟨b, off, none⟩ : Addr) else some ⟨b, off + 16, none⟩) (zs.length - 16) (cd - 16)) (zs.drop 16) := (hI.below hwd).cutAt 16 (by omega)
                  generalize hE8 : (if cd = 16 then some (⟨b, off, none⟩ : Addr) else some ⟨b, off + 16, none⟩) = ad8 at *
                  have i8 : (16 : Int) ≤ zs.length := by omega
                  have i8c : (zs.length : Int) ≤ cd := by omega
                  have i8n : ¬ zs.length < 16 := by omega
                  refine anyT_val (But.pre _) 0 rfl (by kernel_rfl) (by kernel_rfl) (by kernel_rfl) (fun _ _ _ _ h => h) rfl ?_; apply Exists.intro; refine ⟨fun v1 hv1 => ?_, ?_⟩; (· (go_simp; rfl)); simp only [Act.put, List.setIfInBounds_toArray, List.set_cons_zero, List.set_cons_succ]
                  refine anyT_val (But.pre _) 2 rfl (by kernel_rfl) (by kernel_rfl) (by kernel_rfl) (fun _ _ _ _ h => h) rfl ?_; apply Exists.intro; refine ⟨fun v1 hv1 => ?_, ?_⟩; (· (go_simp; rfl)); simp only [Act.put, List.setIfInBounds_toArray, List.set_cons_zero, List.set_cons_succ]
                  refine anyT_val (But.pre _) 3 rfl (by kernel_rfl) (by kernel_rfl) (by kernel_rfl) (fun _ _ _ _ h => h) rfl ?_; apply Exists.intro; refine ⟨fun v1 hv1 => ?_, ?_⟩; (· (go_simp; rfl)); simp only [Act.put, List.setIfInBounds_toArray, List.set_cons_zero, List.set_cons_succ]
                  refine anyT_val (But.pre _) 4 rfl (by kernel_rfl) (by kernel_rfl) (by kernel_rfl) (fun _ _ _ _ h => h) rfl ⟨.slice ad8 (zs.length - 16) (cd - 16), fun v1 hv1 => by go_simp, ?_⟩
                  simp only [Act.put, List.setIfInBounds_toArray, List.set_cons_zero, List.set_cons_succ]
                  refine anyT_one 1 rfl (by kernel_rfl) rfl ?_
                  have kd := block_cell md
                  unfold Oper.wp
                  go_simp
                  refine ⟨But.refl _ _, ?_⟩
                  refine anyT_one 5 rfl (by kernel_rfl) rfl ?_
                  obtain ⟨i0, hi, hz0, hz1, hz2⟩ := info_parts info_u8
                  have hsd : w.heap.size + 1 + 1 ≤ Wd.heap.size := by have := (Array.getElem?_eq_some_iff.1 md).1; omega
                  obtain ⟨v3, W3, hrun3, hown3, hgr3⟩ := run_app (P := Tryd.prog) Wd 24 24 5 (w.heap.size + 1 + 1) i0 Tryd.underlying24 hi hz0 hz1 hz2 (.slice none 0 0) [] (World.ownsRow_nil _ _ _ _) w.heap.size _ (zs.drop 16) hs8 (by simp; omega) hsd
                  have hl3 : Later Wd W3 := (Below.refl _ Wd).grown hgr3 (Nat.le_refl _) (fun _ e => by cases e)
                  have hO3 := Ow.of_row hown3
                  rw [List.nil_append] at hO3
                  clear hown3
                  obtain ⟨a3, c3, rfl, hq3, hm3⟩ := hO3.slice
                  rw [List.length_drop] at hO3 hrun3
                  refine wp_app (.tmp 75) (.tmp 78) 24 rfl _ _ rfl rfl _ W3 hrun3 ⟨But.of hl3, ?_⟩
                  simp only [Act.put, List.setIfInBounds_toArray, List.set_cons_zero, List.set_cons_succ]
                  refine anyT_val (But.pre _) 6 rfl (by kernel_rfl) (by kernel_rfl) (by kernel_rfl) (fun _ _ _ _ h => h) rfl ?_; apply Exists.intro; refine ⟨fun v1 hv1 => ?_, ?_⟩; (· (go_simp; rfl)); simp only [Act.put, List.setIfInBounds_toArray, List.set_cons_zero, List.set_cons_succ]
                  have m6 := (hl3.block mb (Array.getElem?_eq_some_iff.1 md).1).trans md
                  have k6 := block_cell m6
                  have f6 : ∀ j, W3.frozen? ⟨mb, j, none⟩ = false := block_frozen m6
                  clear kd
                  refine anyT_one 7 rfl (by kernel_rfl) rfl ?_
                  unfold Oper.wp
                  go_simp
                  refine ⟨(But.refl (fun b => b = mb) _).setCell (p := ⟨mb, 5, none⟩) rfl _, ?_⟩
                  refine anyT_done (by kernel_rfl) ?_
                  have m7 : (W3.setCell ⟨mb, 5, none⟩ (.slice a3 (zs.length - 16) c3)).heap[mb]? = some (.cells #[.int .u16 g6, .bool true, .bool true, .int .u32 (getAt4 zs 8), .int .u32 (getAt4 zs 12), .slice a3 (zs.length - 16) c3] 36 (0, 0)) := heap_set1 m6 5 _
                  have b7 : But (fun b => b = mb) y4 (W3.setCell ⟨mb, 5, none⟩ (.slice a3 (zs.length - 16) c3)) := (But.of (E := fun b => b = mb) (Later.trans hd hl3)).setCell (p := ⟨mb, 5, none⟩) rfl _
                  have hO7 : Ow (w.heap.size + 1 + 1) (W3.setCell ⟨mb, 5, none⟩ (.slice a3 (zs.length - 16) c3)) (.slice a3 (zs.length - 16) c3) (zs.drop 16) := hO3.other m6 (by decide) ((But.refl (fun b => b = mb) _).setCell (p := ⟨mb, 5, none⟩) rfl _)
                  go_wp2_with fail
                  go_meet
                  case rel => exact ⟨rfl, b7, a3, c3, m7, hO7⟩
                case rest =>
                  obtain ⟨rfl, bc, a3, c3, mx, hOx⟩ := hcut
                  have rx := (bc.block (w.heap.size + 1) (Array.getElem?_eq_some_iff.1 ry4).1 (by omega)).trans ry4
                  have hwx := hy4.trans (bc.below hy4.size (fun k hk e => by omega))
                  have MX := block_cell mx
                  have RX := block_cell rx
                  have FX := block_frozen rx
                  go_wp2_with fail
                  generalize hV : (((((wc.setCell ⟨w.heap.size + 1, 0, none⟩ _).setCell ⟨w.heap.size + 1, 1, none⟩ _).setCell ⟨w.heap.size + 1, 2, none⟩ _).setCell ⟨w.heap.size + 1, 3, none⟩ _).setCell ⟨w.heap.size + 1, 4, none⟩ _).setCell ⟨w.heap.size + 1, 5, none⟩ _ = V8
                  have hV9 : V8 = putRow wc (w.heap.size + 1) 0 [Value.int .u16 g6, .bool true, .bool true, .int .u32 (getAt4 zs 8), .int .u32 (getAt4 zs 12), .slice a3 (zs.length - 16) c3] := hV.symm
                  have hb8 : But (fun b => b = w.heap.size + 1) wc V8 := by rw [hV9]; exact putRow_but (E := fun b => b = w.heap.size + 1) (n := w.heap.size + 1) rfl _ _ _ _ (But.refl _ _)
                  have p8 := putRow_all [Value.int .u16 g6, .bool true, .bool true, .int .u32 (getAt4 zs 8), .int .u32 (getAt4 zs 12), .slice a3 (zs.length - 16) c3] rx rfl
                  rw [← hV9] at p8
                  clear hV hV9
                  have P8 := block_cell p8
                  have hw8 : Below w.heap.size w V8 := (hwx).trans (hb8.below (hwx).size (fun k h e => by omega))
                  exact bodyPost_ret (v := .tuple #[.agg #[.int .u16 g6, .bool true, .bool true, .int .u32 (getAt4 zs 8), .int .u32 (getAt4 zs 12), .slice a3 (zs.length - 16) c3], .int .i64 0]) (by simp [results, Tryd.results10, go_sem, P8]) rfl (⟨hw8, .inr ⟨HF.out, a3, c3, by rw [HN.out, HG6.out]; rfl, by rw [HN.out]; exact (hOx.other rx (by decide) hb8).mono (by omega)⟩⟩)
  · have t1 : (proto != 47) = true := by simp [c1]
    have HF : Hid (pge proto zs = 12) := by show _ = _; unfold pge; rw [if_pos (by simp [c1])]
    go_enter Tryd.func10, Tryd.ntmps10
    go_wp2_with fail
    exact bodyPost_ret (v := .tuple #[.agg zf.toArray, .int .i64 12]) (by simp [results, Tryd.results10, go_sem]) rfl ⟨hb0, .inl ⟨by rw [HF.out]; decide, by rw [HF.out]⟩⟩
end Go.Proofs.YtejkonnbpjocoabDoor
