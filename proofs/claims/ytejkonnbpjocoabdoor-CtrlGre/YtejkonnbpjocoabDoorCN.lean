/- The document's ParseIcmp. -/
import Derived.Test.YtejkonnbpjocoabDoorRt
import Derived.Test.YtejkonnbpjocoabDoorWA
import Derived.Test.YtejkonnbpjocoabDoorCK
namespace Go.Proofs.YtejkonnbpjocoabDoor
open Go.RowKit Go.Shelf
set_option maxRecDepth 100000
set_option linter.unusedVariables false
set_option linter.unusedSimpArgs false

/-- Bytes of one's own stay where another block turns that holds no bytes. -/
theorem Ow.other {base mb : Nat} {W W' : World} {v : Value} {zs : List Int} {cur : Array Value} {t : TypeId} (h : Ow base W v zs) (hm : W.heap[mb]? = some (.cells cur t (0, 0))) (ht : t ≠ 5) (hb : But (fun b => b = mb) W W') : Ow base W' v zs := by
  rcases h with h | ⟨g, cap, c, h1, h2, h3, h4, h5, h6, h7⟩
  · exact .inl h
  · refine .inr ⟨g, cap, c, h1, h2, h3, h4, h5, (hb.block g (Array.getElem?_eq_some_iff.1 h6).1 (fun e => ?_)).trans h6, h7⟩
    subst e
    rw [hm] at h6
    simp at h6
    exact ht h6.2

set_option maxHeartbeats 8000000 in
theorem rparseIcmp_any (tos id ttl proto src dst : Int) (keep : Bool) (so sd : Value) (zs : List Int) (w : World) (hB : Mt.By zs) (hI : Rd w.heap.size w sd zs) (hl : zs.length ≤ 1099511627776) :
    Calls Tryd.prog 6 #[.agg #[.int .u8 tos, .int .u16 id, .bool keep, .int .u8 ttl, .int .u8 proto, .int .u32 src, .int .u32 dst, so, sd]] w fun e w' => Below w.heap.size w w' ∧ ((pie proto zs ≠ 0 ∧ e = .returned (.tuple #[.agg zm.toArray, .int .i64 (pie proto zs)])) ∨
      (pie proto zs = 0 ∧ ∃ ad cd, e = .returned (.tuple #[.agg #[.int .u8 (zs[0]?.getD 0), .int .u8 (zs[1]?.getD 0), .int .u32 (wat4 zs 4), .slice ad (zs.length - 8) cd], .int .i64 0]) ∧ Ow w.heap.size w' (.slice ad (zs.length - 8) cd) (zs.drop 8))) := by
  obtain ⟨ad, cd, rfl, hl1, hm1⟩ := hI.slice
  have hb0 : Below w.heap.size w ((w.alloc (.cells #[.int .u8 tos, .int .u16 id, .bool keep, .int .u8 ttl, .int .u8 proto, .int .u32 src, .int .u32 dst, so, .slice ad zs.length cd] 26)).alloc (.cells zm.toArray 28)) := ((Below.refl _ _).alloc (Nat.le_refl _) _).alloc (by simp) _
  have r0 : ((w.alloc (.cells #[.int .u8 tos, .int .u16 id, .bool keep, .int .u8 ttl, .int .u8 proto, .int .u32 src, .int .u32 dst, so, .slice ad zs.length cd] 26)).alloc (.cells zm.toArray 28)).heap[w.heap.size + 1]? = some (.cells zm.toArray 28 (0, 0)) := by have := heap_alloc_new (w.alloc (.cells #[.int .u8 tos, .int .u16 id, .bool keep, .int .u8 ttl, .int .u8 proto, .int .u32 src, .int .u32 dst, so, .slice ad zs.length cd] 26)) (.cells zm.toArray 28); simpa using this
  have hs0 : ((w.alloc (.cells #[.int .u8 tos, .int .u16 id, .bool keep, .int .u8 ttl, .int .u8 proto, .int .u32 src, .int .u32 dst, so, .slice ad zs.length cd] 26)).alloc (.cells zm.toArray 28)).heap.size = w.heap.size + 1 + 1 := by simp
  have R0 := hide r0
  have HS := hide hs0
  clear r0 hs0
  by_cases c1 : proto = 1
  · have t1 : (proto != 1) = false := by simp [c1]
    have C1 := hide c1
    clear c1
    by_cases c2 : zs.length < 8
    · have t2 : (zs.length : Int) < 8 := by omega
      have HF : Hid (pie proto zs = 3) := by show _ = _; unfold pie; rw [if_neg (by simp [C1.out]), if_pos c2]
      go_enter Tryd.func6, Tryd.ntmps6
      go_wp2_with fail
      exact bodyPost_ret (v := .tuple #[.agg zm.toArray, .int .i64 3]) (by simp [results, Tryd.results6, go_sem]) rfl ⟨hb0, .inl ⟨by rw [HF.out]; decide, by rw [HF.out]⟩⟩
    · have t2 : ¬ (zs.length : Int) < 8 := by omega
      by_cases c3 : Mt.cks zs = 0
      · have HF : Hid (pie proto zs = 0) := by show _ = _; unfold pie; rw [if_neg (by simp [C1.out]), if_neg c2, if_neg (by simp [c3])]
        have t3 : (Mt.cks zs == 0) = true := by simp [c3]
        have C3 := hide c3
        clear c3
        go_enter Tryd.func6, Tryd.ntmps6
        go_wp2_with fail
        generalize (w.alloc (.cells #[.int .u8 tos, .int .u16 id, .bool keep, .int .u8 ttl, .int .u8 proto, .int .u32 src, .int .u32 dst, so, .slice ad zs.length cd] 26)).alloc (.cells zm.toArray 28) = W0 at *
        refine (rgood_any _ zs hB hl W0 ((hI.below hb0).mono hb0.size)).mono ?_
        rintro e w1 ⟨rfl, hb1⟩
        rw [t3]
        have r1 := (hb1.block (w.heap.size + 1) (by have := HS.out; omega)).trans R0.out
        have hw1 : Below w.heap.size w w1 := hb0.trans (hb1.mono hb0.size)
        have hs1 : w.heap.size + 1 + 1 ≤ w1.heap.size := by have := hb1.size; have := HS.out; omega
        go_upto_region 8 with fail
        obtain ⟨b, off, cap, e0, hlc, hmc, hbb, hcs⟩ := hI.cells (by omega)
        have hcl := e0
        simp at hcl
        obtain ⟨rfl, rfl⟩ := hcl
        clear e0
        have d0 := hcs 0 (by omega)
        have d1 := hcs 1 (by omega)
        have hwd : Below w.heap.size w w1.drew := hw1.trans ((Later.drew w1).mono hw1.size)
        have HG4 : Hid (getAt4 zs 4 = wat4 zs 4) := by show _ = _; unfold getAt4; rw [if_pos (by omega)]; rfl
        generalize gx0 : zs[0]?.getD 0 = x0 at *
        generalize gx1 : zs[1]?.getD 0 = x1 at *
        have GX0 := hide gx0
        have GX1 := hide gx1
        clear gx0 gx1
        go_cut [5] (fun p wx => ∃ mb, p = .pointer (some ⟨mb, 0, none⟩) ∧ w1.heap.size ≤ mb ∧ Later w1 wx ∧ wx.heap[mb]? = some (.cells #[.int .u8 x0, .int .u8 x1, .int .u32 (wat4 zs 4), .slice none 0 0] 28 (0, 0)))
        case first =>
          refine anyT_begin (R := But (fun b => w1.heap.size ≤ b)) 11 rfl (by kernel_rfl) ?_
          have hd : Later w1 w1.drew := Later.drew w1
          generalize w1.drew = Wd at *
          have hbel : ∀ v1, But (fun b => w1.heap.size ≤ b) Wd v1 → Below w.heap.size w v1 := fun v1 h => hwd.trans (h.below hwd.size (fun k hk e => by omega))
          have q0 : ∀ v1, But (fun b => w1.heap.size ≤ b) Wd v1 → v1.cell? ⟨b, off, none⟩ = some (.int .u8 x0) := fun v1 h => ((hbel v1 h).cell (p := ⟨b, off, none⟩) hbb).trans d0
          have q1 : ∀ v1, But (fun b => w1.heap.size ≤ b) Wd v1 → v1.cell? ⟨b, off + 1, none⟩ = some (.int .u8 x1) := fun v1 h => ((hbel v1 h).cell (p := ⟨b, off + 1, none⟩) hbb).trans d1
          have hr : ∀ v1, But (fun b => w1.heap.size ≤ b) Wd v1 → Rd w.heap.size v1 (.slice (some ⟨b, off, none⟩) zs.length cd) zs := fun v1 h => hI.below (hbel v1 h)
          have i0 : 0 < zs.length := by omega
          have i1 : (1 : Int) < zs.length := by omega
          clear d0 d1
          refine anyT_val (But.pre _) 0 rfl (by kernel_rfl) (by kernel_rfl) (by kernel_rfl) (fun _ _ _ _ h => h) rfl ?_; apply Exists.intro; refine ⟨fun v1 hv1 => ?_, ?_⟩; (· (go_simp; rfl)); simp only [Act.put, List.setIfInBounds_toArray, List.set_cons_zero, List.set_cons_succ]
          refine anyT_val (But.pre _) 1 rfl (by kernel_rfl) (by kernel_rfl) (by kernel_rfl) (fun _ _ _ _ h => h) rfl ?_; apply Exists.intro; refine ⟨fun v1 hv1 => ?_, ?_⟩; (· (go_simp; rfl)); simp only [Act.put, List.setIfInBounds_toArray, List.set_cons_zero, List.set_cons_succ]
          refine anyT_val (But.pre _) 2 rfl (by kernel_rfl) (by kernel_rfl) (by kernel_rfl) (fun _ _ _ _ h => h) rfl ?_; apply Exists.intro; refine ⟨fun v1 hv1 => ?_, ?_⟩; (· (go_simp; rfl)); simp only [Act.put, List.setIfInBounds_toArray, List.set_cons_zero, List.set_cons_succ]
          refine anyT_val (But.pre _) 3 rfl (by kernel_rfl) (by kernel_rfl) (by kernel_rfl) (fun _ _ _ _ h => h) rfl ?_; apply Exists.intro; refine ⟨fun v1 hv1 => ?_, ?_⟩; (· (go_simp; rfl)); simp only [Act.put, List.setIfInBounds_toArray, List.set_cons_zero, List.set_cons_succ]
          refine anyT_val (But.pre _) 4 rfl (by kernel_rfl) (by kernel_rfl) (by kernel_rfl) (fun _ _ _ _ h => h) rfl ?_; apply Exists.intro; refine ⟨fun v1 hv1 => ?_, ?_⟩; (· (go_simp; rfl)); simp only [Act.put, List.setIfInBounds_toArray, List.set_cons_zero, List.set_cons_succ]
          refine anyT_val (But.pre _) 5 rfl (by kernel_rfl) (by kernel_rfl) (by kernel_rfl) (fun _ _ _ _ h => h) rfl ?_; apply Exists.intro; refine ⟨fun v1 hv1 => ?_, ?_⟩; (· (go_simp; rfl)); simp only [Act.put, List.setIfInBounds_toArray, List.set_cons_zero, List.set_cons_succ]
          refine anyT_val (But.pre _) 6 rfl (by kernel_rfl) (by kernel_rfl) (by kernel_rfl) (fun _ _ _ _ h => h) rfl ?_; apply Exists.intro; refine ⟨fun v1 hv1 => ?_, ?_⟩; (· (go_simp; rfl)); simp only [Act.put, List.setIfInBounds_toArray, List.set_cons_zero, List.set_cons_succ]
          refine anyT_two 7 9 rfl rfl (by kernel_rfl) rfl rfl ?_ ?_
          · refine wp_enter 16 #[.slice (some ⟨b, off, none⟩) zs.length cd, .int .i64 4] (by go_simp) ?_
            refine (rget32_at _ zs hB 4 (by omega) (by omega) Wd (hr _ (But.refl _ _))).mono ?_
            rw [HG4.out]
            rintro e W2 ⟨rfl, q, hq⟩
            have lW2 : Later Wd W2 := by rw [hq]; exact below_draw (Later.refl _) q
            clear hq
            refine ⟨But.of lW2, ?_⟩
            simp only [Act.put, List.setIfInBounds_toArray, List.set_cons_zero, List.set_cons_succ]
            refine anyT_val (But.pre _) 8 rfl (by kernel_rfl) (by kernel_rfl) (by kernel_rfl) (fun _ _ _ _ h => h) rfl ?_; apply Exists.intro; refine ⟨fun v1 hv1 => ?_, ?_⟩; (· (go_simp; rfl)); simp only [Act.put, List.setIfInBounds_toArray, List.set_cons_zero, List.set_cons_succ]
            refine anyT_one 9 rfl (by kernel_rfl) rfl ?_
            unfold Oper.wp
            go_simp
            have zW3 : (W2.alloc (.cells #[.int .u8 0, .int .u8 0, .int .u32 0, .slice none 0 0] 28)).heap[W2.heap.size]? = some (.cells #[.int .u8 0, .int .u8 0, .int .u32 0, .slice none 0 0] 28) := heap_alloc_new W2 _
            have lW3 : Later W2 (W2.alloc (.cells #[.int .u8 0, .int .u8 0, .int .u32 0, .slice none 0 0] 28)) := (Below.refl _ _).alloc (Nat.le_refl _) _
            refine ⟨But.of lW3, ?_⟩
            generalize W2.alloc (.cells #[.int .u8 0, .int .u8 0, .int .u32 0, .slice none 0 0] 28) = W3 at *
            have zc := zW3
            have hml : w1.heap.size ≤ W2.heap.size := Nat.le_trans hd.size lW2.size
            have lall := Later.trans hd (Later.trans lW2 lW3)
            refine anyT_one 10 rfl (by kernel_rfl) rfl ?_
            have k4 := block_cell zc
            have f4 : ∀ j, W3.frozen? ⟨W2.heap.size, j, none⟩ = false := block_frozen zc
            unfold Oper.wp
            go_simp
            generalize hV7 : (((W3.setCell ⟨W2.heap.size, 0, none⟩ _).setCell ⟨W2.heap.size, 1, none⟩ _).setCell ⟨W2.heap.size, 2, none⟩ _).setCell ⟨W2.heap.size, 3, none⟩ _ = V7
            have hV8 : V7 = putRow W3 W2.heap.size 0 [.int .u8 x0, .int .u8 x1, .int .u32 (wat4 zs 4), .slice none 0 0] := hV7.symm
            have hb7 : But (fun b => b = W2.heap.size) W3 V7 := by rw [hV8]; exact putRow_rb _ _
            have p7 := putRow_all [Value.int .u8 x0, .int .u8 x1, .int .u32 (wat4 zs 4), .slice none 0 0] zc rfl
            rw [← hV8] at p7
            clear hV7 hV8 k4 f4
            refine ⟨⟨hb7.os, hb7.tape, hb7.output, hb7.size, fun i hi he => hb7.block i hi (fun e => he (by omega))⟩, ?_⟩
            refine anyT_done (by kernel_rfl) ?_
            have lz : Later w1 V7 := Below.trans (B := w1.heap.size) lall (hb7.below lall.size (fun k hk e => by omega))
            go_wp2_with fail
            go_meet
            case rel => exact ⟨W2.heap.size, rfl, hml, lz, p7⟩
          · unfold Oper.wp
            go_simp
            have zW2 : (Wd.alloc (.cells #[.int .u8 0, .int .u8 0, .int .u32 0, .slice none 0 0] 28)).heap[Wd.heap.size]? = some (.cells #[.int .u8 0, .int .u8 0, .int .u32 0, .slice none 0 0] 28) := heap_alloc_new Wd _
            have lW2 : Later Wd (Wd.alloc (.cells #[.int .u8 0, .int .u8 0, .int .u32 0, .slice none 0 0] 28)) := (Below.refl _ _).alloc (Nat.le_refl _) _
            refine ⟨But.of lW2, ?_⟩
            generalize Wd.alloc (.cells #[.int .u8 0, .int .u8 0, .int .u32 0, .slice none 0 0] 28) = W2 at *
            refine anyT_one 7 rfl (by kernel_rfl) rfl ?_
            refine wp_enter 16 #[.slice (some ⟨b, off, none⟩) zs.length cd, .int .i64 4] (by go_simp) ?_
            refine (rget32_at _ zs hB 4 (by omega) (by omega) W2 (hr _ (But.of lW2))).mono ?_
            rw [HG4.out]
            rintro e W3 ⟨rfl, q, hq⟩
            have lW3 : Later W2 W3 := by rw [hq]; exact below_draw (Later.refl _) q
            clear hq
            refine ⟨But.of lW3, ?_⟩
            simp only [Act.put, List.setIfInBounds_toArray, List.set_cons_zero, List.set_cons_succ]
            refine anyT_val (But.pre _) 8 rfl (by kernel_rfl) (by kernel_rfl) (by kernel_rfl) (fun _ _ _ _ h => h) rfl ?_; apply Exists.intro; refine ⟨fun v1 hv1 => ?_, ?_⟩; (· (go_simp; rfl)); simp only [Act.put, List.setIfInBounds_toArray, List.set_cons_zero, List.set_cons_succ]
            have zc := (lW3.block Wd.heap.size (Array.getElem?_eq_some_iff.1 zW2).1).trans zW2
            have hml : w1.heap.size ≤ Wd.heap.size := hd.size
            have lall := Later.trans hd (Later.trans lW2 lW3)
            refine anyT_one 10 rfl (by kernel_rfl) rfl ?_
            have k4 := block_cell zc
            have f4 : ∀ j, W3.frozen? ⟨Wd.heap.size, j, none⟩ = false := block_frozen zc
            unfold Oper.wp
            go_simp
            generalize hV7 : (((W3.setCell ⟨Wd.heap.size, 0, none⟩ _).setCell ⟨Wd.heap.size, 1, none⟩ _).setCell ⟨Wd.heap.size, 2, none⟩ _).setCell ⟨Wd.heap.size, 3, none⟩ _ = V7
            have hV8 : V7 = putRow W3 Wd.heap.size 0 [.int .u8 x0, .int .u8 x1, .int .u32 (wat4 zs 4), .slice none 0 0] := hV7.symm
            have hb7 : But (fun b => b = Wd.heap.size) W3 V7 := by rw [hV8]; exact putRow_rb _ _
            have p7 := putRow_all [Value.int .u8 x0, .int .u8 x1, .int .u32 (wat4 zs 4), .slice none 0 0] zc rfl
            rw [← hV8] at p7
            clear hV7 hV8 k4 f4
            refine ⟨⟨hb7.os, hb7.tape, hb7.output, hb7.size, fun i hi he => hb7.block i hi (fun e => he (by omega))⟩, ?_⟩
            refine anyT_done (by kernel_rfl) ?_
            have lz : Later w1 V7 := Below.trans (B := w1.heap.size) lall (hb7.below lall.size (fun k hk e => by omega))
            go_wp2_with fail
            go_meet
            case rel => exact ⟨Wd.heap.size, rfl, hml, lz, p7⟩
        case rest =>
          obtain ⟨mb, rfl, hml, lc, mc⟩ := hcut
          have r2 := (lc.block (w.heap.size + 1) (by omega)).trans r1
          have hw2 := hw1.trans (lc.mono hw1.size)
          clear d0 d1 hwd
          go_upto_region 9 with fail
          go_cut [5] (fun p wx => p = .pointer (some ⟨mb, 0, none⟩) ∧ But (fun b => b = mb) wc wx ∧ ∃ a3 c3, wx.heap[mb]? = some (.cells #[.int .u8 x0, .int .u8 x1, .int .u32 (wat4 zs 4), .slice a3 (zs.length - 8) c3] 28 (0, 0)) ∧ Ow (w.heap.size + 1 + 1) wx (.slice a3 (zs.length - 8) c3) (zs.drop 8))
          case first =>
            refine anyT_begin (R := But (fun b => b = mb)) 7 rfl (by kernel_rfl) ?_
            have hd : Later wc wc.drew := Later.drew wc
            have md := (hd.block mb (Array.getElem?_eq_some_iff.1 mc).1).trans mc
            have hwd : Below w.heap.size w wc.drew := hw2.trans (hd.mono hw2.size)
            generalize wc.drew = Wd at *
            have hr : Rd w.heap.size Wd (.slice (some ⟨b, off, none⟩) zs.length cd) zs := hI.below hwd
            have hs8 : Rd w.heap.size Wd (.slice (if cd = 8 then some (⟨b, off, none⟩ : Addr) else some ⟨b, off + 8, none⟩) (zs.length - 8) (cd - 8)) (zs.drop 8) := hr.cutAt 8 (by omega)
            generalize hE8 : (if cd = 8 then some (⟨b, off, none⟩ : Addr) else some ⟨b, off + 8, none⟩) = ad8 at *
            have i8 : (8 : Int) ≤ zs.length := by omega
            have i8c : (zs.length : Int) ≤ cd := by omega
            have i8n : ¬ zs.length < 8 := by omega
            refine anyT_val (But.pre _) 0 rfl (by kernel_rfl) (by kernel_rfl) (by kernel_rfl) (fun _ _ _ _ h => h) rfl ?_; apply Exists.intro; refine ⟨fun v1 hv1 => ?_, ?_⟩; (· (go_simp; rfl)); simp only [Act.put, List.setIfInBounds_toArray, List.set_cons_zero, List.set_cons_succ]
            refine anyT_val (But.pre _) 2 rfl (by kernel_rfl) (by kernel_rfl) (by kernel_rfl) (fun _ _ _ _ h => h) rfl ?_; apply Exists.intro; refine ⟨fun v1 hv1 => ?_, ?_⟩; (· (go_simp; rfl)); simp only [Act.put, List.setIfInBounds_toArray, List.set_cons_zero, List.set_cons_succ]
            refine anyT_val (But.pre _) 3 rfl (by kernel_rfl) (by kernel_rfl) (by kernel_rfl) (fun _ _ _ _ h => h) rfl ⟨.slice ad8 (zs.length - 8) (cd - 8), fun v1 hv1 => by go_simp, ?_⟩
            simp only [Act.put, List.setIfInBounds_toArray, List.set_cons_zero, List.set_cons_succ]
            refine anyT_one 1 rfl (by kernel_rfl) rfl ?_
            have kd := block_cell md
            unfold Oper.wp
            go_simp
            refine ⟨But.refl _ _, ?_⟩
            refine anyT_one 4 rfl (by kernel_rfl) rfl ?_
            obtain ⟨i0, hi, hz0, hz1, hz2⟩ := info_parts info_u8
            have hsd : w.heap.size + 1 + 1 ≤ Wd.heap.size := by have := lc.size; have := hd.size; omega
            obtain ⟨v3, W3, hrun3, hown3, hgr3⟩ := run_app (P := Tryd.prog) Wd 24 24 5 (w.heap.size + 1 + 1) i0 Tryd.underlying24 hi hz0 hz1 hz2 (.slice none 0 0) [] (World.ownsRow_nil _ _ _ _) w.heap.size _ (zs.drop 8) hs8 (by simp; omega) hsd
            have hl3 : Later Wd W3 := (Below.refl _ Wd).grown hgr3 (Nat.le_refl _) (fun _ e => by cases e)
            have hO3 := Ow.of_row hown3
            rw [List.nil_append] at hO3
            clear hown3
            obtain ⟨a3, c3, rfl, hq3, hm3⟩ := hO3.slice
            rw [List.length_drop] at hO3 hrun3
            refine wp_app (.tmp 33) (.tmp 35) 24 rfl _ _ rfl rfl _ W3 hrun3 ⟨But.of hl3, ?_⟩
            simp only [Act.put, List.setIfInBounds_toArray, List.set_cons_zero, List.set_cons_succ]
            refine anyT_val (But.pre _) 5 rfl (by kernel_rfl) (by kernel_rfl) (by kernel_rfl) (fun _ _ _ _ h => h) rfl ?_; apply Exists.intro; refine ⟨fun v1 hv1 => ?_, ?_⟩; (· (go_simp; rfl)); simp only [Act.put, List.setIfInBounds_toArray, List.set_cons_zero, List.set_cons_succ]
            have m3 := (hl3.block mb (Array.getElem?_eq_some_iff.1 md).1).trans md
            have k3 := block_cell m3
            have f3 : ∀ j, W3.frozen? ⟨mb, j, none⟩ = false := block_frozen m3
            clear kd
            refine anyT_one 6 rfl (by kernel_rfl) rfl ?_
            unfold Oper.wp
            go_simp
            refine ⟨(But.refl (fun b => b = mb) _).setCell (p := ⟨mb, 3, none⟩) rfl _, ?_⟩
            refine anyT_done (by kernel_rfl) ?_
            have m4 : (W3.setCell ⟨mb, 3, none⟩ (.slice a3 (zs.length - 8) c3)).heap[mb]? = some (.cells #[.int .u8 x0, .int .u8 x1, .int .u32 (wat4 zs 4), .slice a3 (zs.length - 8) c3] 28 (0, 0)) := heap_set1 m3 3 _
            have b4 : But (fun b => b = mb) wc (W3.setCell ⟨mb, 3, none⟩ (.slice a3 (zs.length - 8) c3)) := (But.of (E := fun b => b = mb) (Later.trans hd hl3)).setCell (p := ⟨mb, 3, none⟩) rfl _
            have hO4 : Ow (w.heap.size + 1 + 1) (W3.setCell ⟨mb, 3, none⟩ (.slice a3 (zs.length - 8) c3)) (.slice a3 (zs.length - 8) c3) (zs.drop 8) := hO3.other m3 (by decide) ((But.refl (fun b => b = mb) _).setCell (p := ⟨mb, 3, none⟩) rfl _)
            go_wp2_with fail
            go_meet
            case rel => exact ⟨rfl, b4, a3, c3, m4, hO4⟩
          case rest =>
            obtain ⟨rfl, bc, a3, c3, mx, hOx⟩ := hcut
            have rx := (bc.block (w.heap.size + 1) (by have := lc.size; omega) (by omega)).trans r2
            have hwx := hw2.trans (bc.below hw2.size (fun k hk e => by omega))
            have MX := block_cell mx
            have RX := block_cell rx
            have FX := block_frozen rx
            go_wp2_with fail
            generalize hV : (((wc.setCell ⟨w.heap.size + 1, 0, none⟩ _).setCell ⟨w.heap.size + 1, 1, none⟩ _).setCell ⟨w.heap.size + 1, 2, none⟩ _).setCell ⟨w.heap.size + 1, 3, none⟩ _ = V8
            have hV9 : V8 = putRow wc (w.heap.size + 1) 0 [Value.int .u8 x0, .int .u8 x1, .int .u32 (wat4 zs 4), .slice a3 (zs.length - 8) c3] := hV.symm
            have hb8 : But (fun b => b = w.heap.size + 1) wc V8 := by rw [hV9]; exact putRow_but (E := fun b => b = w.heap.size + 1) (n := w.heap.size + 1) rfl _ _ _ _ (But.refl _ _)
            have p8 := putRow_all [Value.int .u8 x0, .int .u8 x1, .int .u32 (wat4 zs 4), .slice a3 (zs.length - 8) c3] rx rfl
            rw [← hV9] at p8
            clear hV hV9
            have P8 := block_cell p8
            have hw8 : Below w.heap.size w V8 := (hwx).trans (hb8.below (hwx).size (fun k h e => by omega))
            exact bodyPost_ret (v := .tuple #[.agg #[.int .u8 x0, .int .u8 x1, .int .u32 (wat4 zs 4), .slice a3 (zs.length - 8) c3], .int .i64 0]) (by simp [results, Tryd.results6, go_sem, P8]) rfl (⟨hw8, .inr ⟨HF.out, a3, c3, by rw [GX0.out, GX1.out], (hOx.other rx (by decide) hb8).mono (by omega)⟩⟩)
      · have HF : Hid (pie proto zs = 5) := by show _ = _; unfold pie; rw [if_neg (by simp [C1.out]), if_neg c2, if_pos c3]
        have t3 : (Mt.cks zs == 0) = false := by simp [c3]
        clear c3
        go_enter Tryd.func6, Tryd.ntmps6
        go_wp2_with fail
        generalize (w.alloc (.cells #[.int .u8 tos, .int .u16 id, .bool keep, .int .u8 ttl, .int .u8 proto, .int .u32 src, .int .u32 dst, so, .slice ad zs.length cd] 26)).alloc (.cells zm.toArray 28) = W0 at *
        refine (rgood_any _ zs hB hl W0 ((hI.below hb0).mono hb0.size)).mono ?_
        rintro e w1 ⟨rfl, hb1⟩
        rw [t3]
        have r1 := (hb1.block (w.heap.size + 1) (by have := HS.out; omega)).trans R0.out
        have hw1 : Below w.heap.size w w1 := hb0.trans (hb1.mono hb0.size)
        have RR := block_cell r1
        have FF := block_frozen r1
        go_wp2_with fail
        generalize hV : (((w1.setCell ⟨w.heap.size + 1, 0, none⟩ _).setCell ⟨w.heap.size + 1, 1, none⟩ _).setCell ⟨w.heap.size + 1, 2, none⟩ _).setCell ⟨w.heap.size + 1, 3, none⟩ _ = V8
        have hV9 : V8 = putRow w1 (w.heap.size + 1) 0 [Value.int .u8 0, .int .u8 0, .int .u32 0, .slice none 0 0] := hV.symm
        have hb8 : But (fun b => b = w.heap.size + 1) w1 V8 := by rw [hV9]; exact putRow_but (E := fun b => b = w.heap.size + 1) (n := w.heap.size + 1) rfl _ _ _ _ (But.refl _ _)
        have p8 := putRow_all [Value.int .u8 0, .int .u8 0, .int .u32 0, .slice none 0 0] r1 rfl
        rw [← hV9] at p8
        clear hV hV9
        have P8 := block_cell p8
        have hw8 : Below w.heap.size w V8 := (hw1).trans (hb8.below (hw1).size (fun k h e => by omega))
        exact bodyPost_ret (v := .tuple #[.agg zm.toArray, .int .i64 5]) (by simp [results, Tryd.results6, go_sem, P8]) rfl (⟨hw8, .inl ⟨by rw [HF.out]; decide, by rw [HF.out]⟩⟩)

  · have t1 : (proto != 1) = true := by simp [c1]
    have HF : Hid (pie proto zs = 12) := by show _ = _; unfold pie; rw [if_pos (by simp [c1])]
    go_enter Tryd.func6, Tryd.ntmps6
    go_wp2_with fail
    exact bodyPost_ret (v := .tuple #[.agg zm.toArray, .int .i64 12]) (by simp [results, Tryd.results6, go_sem]) rfl ⟨hb0, .inl ⟨by rw [HF.out]; decide, by rw [HF.out]⟩⟩
end Go.Proofs.YtejkonnbpjocoabDoor
