/- Several texts in one. -/
import Derived.Test.YtghpakfjpdifaaaGreatDoorRt
import Derived.Test.YtghpakfjpdifaaaGreatDoorX7
import Derived.Test.YtghpakfjpdifaaaGreatDoorX8
import Derived.Test.YtghpakfjpdifaaaGreatDoorW4
/- The document's ParseIcmp. -/
namespace Go.Proofs.YtghpakfjpdifaaaGreatDoor
open Go.RowKit Go.Shelf
set_option maxRecDepth 100000
set_option linter.unusedVariables false
set_option linter.unusedSimpArgs false

/-- Bytes of one's own stay where another block turns that holds no bytes. -/
theorem Ow.other {base mb : Nat} {W W' : World} {v : Value} {zs : List Int} {cur : Array Value} {t : TypeId} (h : Ow base W v zs) (hm : W.heap[mb]? = some (.cells cur t (0, 0))) (ht : t ≠ 5) (hb : But (fun b => b = mb) W W') : Ow base W' v zs := by
 rcases h with h | ⟨g, cap, c, h1, h2, h3, h4, h5, h6, h7⟩
 ·exact .inl h
 ·refine .inr ⟨g, cap, c, h1, h2, h3, h4, h5, (hb.block g (bl9 h6) (fun e => ?_)).trans h6, h7⟩
  subst e
  rw [hm] at h6
  simp at h6
  exact ht h6.2

set_option maxHeartbeats 8000000 in
theorem rparseIcmp_any (tos id ttl proto src dst : Int) (keep : Bool) (so sd : Value) (zs : List Int) (w : World) (hB : Mt.By zs) (hI : Rd w.heap.size w sd zs) (hl : zs.length ≤ 1099511627776) :
  Calls Tryz.prog 12 #[.agg #[.int .u8 tos, .int .u16 id, .bool keep, .int .u8 ttl, .int .u8 proto, .int .u32 src, .int .u32 dst, so, sd]] w fun e w' => Below w.heap.size w w' ∧ ((pie proto zs ≠ 0 ∧ e = .returned (.tuple #[.agg zm.toArray, .int .i64 (pie proto zs)])) ∨
   (pie proto zs = 0 ∧ ∃ ad cd, e = .returned (.tuple #[.agg #[.int .u8 (zs[0]?.getD 0), .int .u8 (zs[1]?.getD 0), .int .u32 (wat4 zs 4), .slice ad (zs.length - 8) cd], .int .i64 0]) ∧ Ow w.heap.size w' (.slice ad (zs.length - 8) cd) (zs.drop 8))) := by
 obtain ⟨ad, cd, rfl, hl1, hm1⟩ := hI.slice
 have hb0 : Below w.heap.size w ((w.alloc (.cells #[.int .u8 tos, .int .u16 id, .bool keep, .int .u8 ttl, .int .u8 proto, .int .u32 src, .int .u32 dst, so, .slice ad zs.length cd] 26)).alloc (.cells zm.toArray 42)) := ((Below.refl _ _).alloc (Nat.le_refl _) _).alloc (by simp) _
 have r0 : ((w.alloc (.cells #[.int .u8 tos, .int .u16 id, .bool keep, .int .u8 ttl, .int .u8 proto, .int .u32 src, .int .u32 dst, so, .slice ad zs.length cd] 26)).alloc (.cells zm.toArray 42)).heap[w.heap.size + 1]? = some (.cells zm.toArray 42 (0, 0)) := by have := heap_alloc_new (w.alloc (.cells #[.int .u8 tos, .int .u16 id, .bool keep, .int .u8 ttl, .int .u8 proto, .int .u32 src, .int .u32 dst, so, .slice ad zs.length cd] 26)) (.cells zm.toArray 42); simpa using this
 have hs0 : ((w.alloc (.cells #[.int .u8 tos, .int .u16 id, .bool keep, .int .u8 ttl, .int .u8 proto, .int .u32 src, .int .u32 dst, so, .slice ad zs.length cd] 26)).alloc (.cells zm.toArray 42)).heap.size = w.heap.size + 1 + 1 := by simp
 have R0 := hide r0
 have HS := hide hs0
 clear r0 hs0
 by_cases c1 : proto = 1
 ·have t1 : (proto != 1) = false := by simp [c1]
  have C1 := hide c1
  clear c1
  by_cases c2 : zs.length < 8
  ·have t2 : (zs.length : Int) < 8 := by omega
   have HF : Hid (pie proto zs = 3) := by show _ = _; unfold pie; rw [if_neg (by simp [C1.out]), if_pos c2]
   go_enter Tryz.func12, Tryz.ntmps12
   go_wp2_with fail
   exact bodyPost_ret (v := .tuple #[.agg zm.toArray, .int .i64 3]) (by simp [results, Tryz.results12, go_sem]) rfl ⟨hb0, .inl ⟨by rw [HF.out]; decide, by rw [HF.out]⟩⟩
  ·have t2 : ¬ (zs.length : Int) < 8 := by omega
   by_cases c3 : Mt.cks zs = 0
   ·have HF : Hid (pie proto zs = 0) := by show _ = _; unfold pie; rw [if_neg (by simp [C1.out]), if_neg c2, if_neg (by simp [c3])]
    have t3 : (Mt.cks zs == 0) = true := by simp [c3]
    have C3 := hide c3
    clear c3
    go_enter Tryz.func12, Tryz.ntmps12
    go_wp2_with fail
    generalize (w.alloc (.cells #[.int .u8 tos, .int .u16 id, .bool keep, .int .u8 ttl, .int .u8 proto, .int .u32 src, .int .u32 dst, so, .slice ad zs.length cd] 26)).alloc (.cells zm.toArray 42) = W0 at *
    refine (rgood_any _ zs hB hl W0 ((hI.below hb0).mono hb0.size)).mono ?_
    rintro e w1 ⟨rfl, hb1⟩
    rw [t3]
    have r1 := (hb1.block (w.heap.size + 1) (by have := HS.out; omega)).trans R0.out
    have hw1 : Below w.heap.size w w1 := hb0.trans (hb1.mono hb0.size)
    have hs1 : w.heap.size + 1 + 1 ≤ w1.heap.size := by have := hb1.size; have := HS.out; omega
    go_upto_region 8 with fail
    obtain ⟨b, off, cap, e0, hlc, hmc, hbb, hcs⟩ := hI.cells (by omega)
    have hcl := e0
    simp at hcl
    obtain ⟨rfl, rfl⟩ := hcl
    clear e0
    have d0 := hcs 0 (by omega)
    have d1 := hcs 1 (by omega)
    have hwd : Below w.heap.size w w1.drew := hw1.trans ((Later.drew w1).mono hw1.size)
    have HG4 : Hid (getAt4 zs 4 = wat4 zs 4) := by show _ = _; unfold getAt4; rw [if_pos (by omega)]; rfl
    generalize gx0 : zs[0]?.getD 0 = x0 at *
    generalize gx1 : zs[1]?.getD 0 = x1 at *
    have GX0 := hide gx0
    have GX1 := hide gx1
    clear gx0 gx1
    go_cut [5] (fun p wx => ∃ mb, p = .pointer (some ⟨mb, 0, none⟩) ∧ w1.heap.size ≤ mb ∧ Later w1 wx ∧ wx.heap[mb]? = some (.cells #[.int .u8 x0, .int .u8 x1, .int .u32 (wat4 zs 4), .slice none 0 0] 42 (0, 0)))
    case first =>
     refine anyT_begin (R := But (fun b => w1.heap.size ≤ b)) 11 rfl (by kernel_rfl) ?_
     have hd : Later w1 w1.drew := Later.drew w1
     generalize w1.drew = Wd at *
     have hbel : ∀ v1, But (fun b => w1.heap.size ≤ b) Wd v1 → Below w.heap.size w v1 := fun v1 h => hwd.trans (h.below hwd.size (fun k hk e => by omega))
     have q0 : ∀ v1, But (fun b => w1.heap.size ≤ b) Wd v1 → v1.cell? ⟨b, off, none⟩ = some (.int .u8 x0) := fun v1 h => ((hbel v1 h).cell (p := ⟨b, off, none⟩) hbb).trans d0
     have q1 : ∀ v1, But (fun b => w1.heap.size ≤ b) Wd v1 → v1.cell? ⟨b, off + 1, none⟩ = some (.int .u8 x1) := fun v1 h => ((hbel v1 h).cell (p := ⟨b, off + 1, none⟩) hbb).trans d1
     have hr : ∀ v1, But (fun b => w1.heap.size ≤ b) Wd v1 → Rd w.heap.size v1 (.slice (some ⟨b, off, none⟩) zs.length cd) zs := fun v1 h => hI.below (hbel v1 h)
     have i0 : 0 < zs.length := by omega
     have i1 : (1 : Int) < zs.length := by omega
     clear d0 d1
     refine tV (But.pre _) 0 rfl rfl ?_; apply Exists.intro; refine ⟨fun v1 hv1 => ?_, ?_⟩; (· (go_simp; rfl)); simp only [Act.put, sA, sB, sC]
     refine tV (But.pre _) 1 rfl rfl ?_; apply Exists.intro; refine ⟨fun v1 hv1 => ?_, ?_⟩; (· (go_simp; rfl)); simp only [Act.put, sA, sB, sC]
     refine tV (But.pre _) 2 rfl rfl ?_; apply Exists.intro; refine ⟨fun v1 hv1 => ?_, ?_⟩; (· (go_simp; rfl)); simp only [Act.put, sA, sB, sC]
     refine tV (But.pre _) 3 rfl rfl ?_; apply Exists.intro; refine ⟨fun v1 hv1 => ?_, ?_⟩; (· (go_simp; rfl)); simp only [Act.put, sA, sB, sC]
     refine tV (But.pre _) 4 rfl rfl ?_; apply Exists.intro; refine ⟨fun v1 hv1 => ?_, ?_⟩; (· (go_simp; rfl)); simp only [Act.put, sA, sB, sC]
     refine tV (But.pre _) 5 rfl rfl ?_; apply Exists.intro; refine ⟨fun v1 hv1 => ?_, ?_⟩; (· (go_simp; rfl)); simp only [Act.put, sA, sB, sC]
     refine tV (But.pre _) 6 rfl rfl ?_; apply Exists.intro; refine ⟨fun v1 hv1 => ?_, ?_⟩; (· (go_simp; rfl)); simp only [Act.put, sA, sB, sC]
     refine anyT_two 7 9 rfl rfl (by kernel_rfl) rfl rfl ?_ ?_
     ·refine wp_enter 36 #[.slice (some ⟨b, off, none⟩) zs.length cd, .int .i64 4] (by go_simp) ?_
      refine (rget32_at _ zs hB 4 (by omega) (by omega) Wd (hr _ (But.refl _ _))).mono ?_
      rw [HG4.out]
      rintro e W2 ⟨rfl, q, hq⟩
      have lW2 : Later Wd W2 := by rw [hq]; exact below_draw (Later.refl _) q
      clear hq
      refine ⟨But.of lW2, ?_⟩
      simp only [Act.put, sA, sB, sC]
      refine tV (But.pre _) 8 rfl rfl ?_; apply Exists.intro; refine ⟨fun v1 hv1 => ?_, ?_⟩; (· (go_simp; rfl)); simp only [Act.put, sA, sB, sC]
      refine anyT_one 9 rfl (by kernel_rfl) rfl ?_
      unfold Oper.wp
      go_simp
      have zW3 : (W2.alloc (.cells #[.int .u8 0, .int .u8 0, .int .u32 0, .slice none 0 0] 42)).heap[W2.heap.size]? = some (.cells #[.int .u8 0, .int .u8 0, .int .u32 0, .slice none 0 0] 42) := heap_alloc_new W2 _
      have lW3 : Later W2 (W2.alloc (.cells #[.int .u8 0, .int .u8 0, .int .u32 0, .slice none 0 0] 42)) := (Below.refl _ _).alloc (Nat.le_refl _) _
      refine ⟨But.of lW3, ?_⟩
      generalize W2.alloc (.cells #[.int .u8 0, .int .u8 0, .int .u32 0, .slice none 0 0] 42) = W3 at *
      have zc := zW3
      have hml : w1.heap.size ≤ W2.heap.size := Nat.le_trans hd.size lW2.size
      have lall := Later.trans hd (Later.trans lW2 lW3)
      refine anyT_one 10 rfl (by kernel_rfl) rfl ?_
      have k4 := block_cell zc
      have f4 : ∀ j, W3.frozen? ⟨W2.heap.size, j, none⟩ = false := block_frozen zc
      unfold Oper.wp
      go_simp
      generalize hV7 : (((W3.setCell ⟨W2.heap.size, 0, none⟩ _).setCell ⟨W2.heap.size, 1, none⟩ _).setCell ⟨W2.heap.size, 2, none⟩ _).setCell ⟨W2.heap.size, 3, none⟩ _ = V7
      have hV8 : V7 = putRow W3 W2.heap.size 0 [.int .u8 x0, .int .u8 x1, .int .u32 (wat4 zs 4), .slice none 0 0] := hV7.symm
      have hb7 : But (fun b => b = W2.heap.size) W3 V7 := by rw [hV8]; exact putRow_rb _ _
      have p7 := putRow_all [Value.int .u8 x0, .int .u8 x1, .int .u32 (wat4 zs 4), .slice none 0 0] zc rfl
      rw [← hV8] at p7
      clear hV7 hV8 k4 f4
      refine ⟨⟨hb7.os, hb7.tape, hb7.output, hb7.size, fun i hi he => hb7.block i hi (fun e => he (by omega))⟩, ?_⟩
      refine anyT_done (by kernel_rfl) ?_
      have lz : Later w1 V7 := Below.trans (B := w1.heap.size) lall (hb7.below lall.size (fun k hk e => by omega))
      go_wp2_with fail
      go_meet
      case rel => exact ⟨W2.heap.size, rfl, hml, lz, p7⟩
     ·unfold Oper.wp
      go_simp
      have zW2 : (Wd.alloc (.cells #[.int .u8 0, .int .u8 0, .int .u32 0, .slice none 0 0] 42)).heap[Wd.heap.size]? = some (.cells #[.int .u8 0, .int .u8 0, .int .u32 0, .slice none 0 0] 42) := heap_alloc_new Wd _
      have lW2 : Later Wd (Wd.alloc (.cells #[.int .u8 0, .int .u8 0, .int .u32 0, .slice none 0 0] 42)) := (Below.refl _ _).alloc (Nat.le_refl _) _
      refine ⟨But.of lW2, ?_⟩
      generalize Wd.alloc (.cells #[.int .u8 0, .int .u8 0, .int .u32 0, .slice none 0 0] 42) = W2 at *
      refine anyT_one 7 rfl (by kernel_rfl) rfl ?_
      refine wp_enter 36 #[.slice (some ⟨b, off, none⟩) zs.length cd, .int .i64 4] (by go_simp) ?_
      refine (rget32_at _ zs hB 4 (by omega) (by omega) W2 (hr _ (But.of lW2))).mono ?_
      rw [HG4.out]
      rintro e W3 ⟨rfl, q, hq⟩
      have lW3 : Later W2 W3 := by rw [hq]; exact below_draw (Later.refl _) q
      clear hq
      refine ⟨But.of lW3, ?_⟩
      simp only [Act.put, sA, sB, sC]
      refine tV (But.pre _) 8 rfl rfl ?_; apply Exists.intro; refine ⟨fun v1 hv1 => ?_, ?_⟩; (· (go_simp; rfl)); simp only [Act.put, sA, sB, sC]
      have zc := (lW3.block Wd.heap.size (bl9 zW2)).trans zW2
      have hml : w1.heap.size ≤ Wd.heap.size := hd.size
      have lall := Later.trans hd (Later.trans lW2 lW3)
      refine anyT_one 10 rfl (by kernel_rfl) rfl ?_
      have k4 := block_cell zc
      have f4 : ∀ j, W3.frozen? ⟨Wd.heap.size, j, none⟩ = false := block_frozen zc
      unfold Oper.wp
      go_simp
      generalize hV7 : (((W3.setCell ⟨Wd.heap.size, 0, none⟩ _).setCell ⟨Wd.heap.size, 1, none⟩ _).setCell ⟨Wd.heap.size, 2, none⟩ _).setCell ⟨Wd.heap.size, 3, none⟩ _ = V7
      have hV8 : V7 = putRow W3 Wd.heap.size 0 [.int .u8 x0, .int .u8 x1, .int .u32 (wat4 zs 4), .slice none 0 0] := hV7.symm
      have hb7 : But (fun b => b = Wd.heap.size) W3 V7 := by rw [hV8]; exact putRow_rb _ _
      have p7 := putRow_all [Value.int .u8 x0, .int .u8 x1, .int .u32 (wat4 zs 4), .slice none 0 0] zc rfl
      rw [← hV8] at p7
      clear hV7 hV8 k4 f4
      refine ⟨⟨hb7.os, hb7.tape, hb7.output, hb7.size, fun i hi he => hb7.block i hi (fun e => he (by omega))⟩, ?_⟩
      refine anyT_done (by kernel_rfl) ?_
      have lz : Later w1 V7 := Below.trans (B := w1.heap.size) lall (hb7.below lall.size (fun k hk e => by omega))
      go_wp2_with fail
      go_meet
      case rel => exact ⟨Wd.heap.size, rfl, hml, lz, p7⟩
    case rest =>
     obtain ⟨mb, rfl, hml, lc, mc⟩ := hcut
     have r2 := (lc.block (w.heap.size + 1) (by omega)).trans r1
     have hw2 := hw1.trans (lc.mono hw1.size)
     clear d0 d1 hwd
     go_upto_region 9 with fail
     go_cut [5] (fun p wx => p = .pointer (some ⟨mb, 0, none⟩) ∧ But (fun b => b = mb) wc wx ∧ ∃ a3 c3, wx.heap[mb]? = some (.cells #[.int .u8 x0, .int .u8 x1, .int .u32 (wat4 zs 4), .slice a3 (zs.length - 8) c3] 42 (0, 0)) ∧ Ow (w.heap.size + 1 + 1) wx (.slice a3 (zs.length - 8) c3) (zs.drop 8))
     case first =>
      refine anyT_begin (R := But (fun b => b = mb)) 7 rfl (by kernel_rfl) ?_
      have hd : Later wc wc.drew := Later.drew wc
      have md := (hd.block mb (bl9 mc)).trans mc
      have hwd : Below w.heap.size w wc.drew := hw2.trans (hd.mono hw2.size)
      generalize wc.drew = Wd at *
      have hr : Rd w.heap.size Wd (.slice (some ⟨b, off, none⟩) zs.length cd) zs := hI.below hwd
      have hs8 : Rd w.heap.size Wd (.slice (if cd = 8 then some (⟨b, off, none⟩ : Addr) else some ⟨b, off + 8, none⟩) (zs.length - 8) (cd - 8)) (zs.drop 8) := hr.cutAt 8 (by omega)
      generalize hE8 : (if cd = 8 then some (⟨b, off, none⟩ : Addr) else some ⟨b, off + 8, none⟩) = ad8 at *
      have i8 : (8 : Int) ≤ zs.length := by omega
      have i8c : (zs.length : Int) ≤ cd := by omega
      have i8n : ¬ zs.length < 8 := by omega
      refine tV (But.pre _) 0 rfl rfl ?_; apply Exists.intro; refine ⟨fun v1 hv1 => ?_, ?_⟩; (· (go_simp; rfl)); simp only [Act.put, sA, sB, sC]
      refine tV (But.pre _) 2 rfl rfl ?_; apply Exists.intro; refine ⟨fun v1 hv1 => ?_, ?_⟩; (· (go_simp; rfl)); simp only [Act.put, sA, sB, sC]
      refine tV (But.pre _) 3 rfl rfl ⟨.slice ad8 (zs.length - 8) (cd - 8), fun v1 hv1 => by go_simp, ?_⟩
      simp only [Act.put, sA, sB, sC]
      refine anyT_one 1 rfl (by kernel_rfl) rfl ?_
      have kd := block_cell md
      unfold Oper.wp
      go_simp
      refine ⟨But.refl _ _, ?_⟩
      refine anyT_one 4 rfl (by kernel_rfl) rfl ?_
      obtain ⟨i0, hi, hz0, hz1, hz2⟩ := info_parts info_u8
      have hsd : w.heap.size + 1 + 1 ≤ Wd.heap.size := by have := lc.size; have := hd.size; omega
      obtain ⟨v3, W3, hrun3, hown3, hgr3⟩ := run_app (P := Tryz.prog) Wd 24 24 5 (w.heap.size + 1 + 1) i0 Tryz.underlying24 hi hz0 hz1 hz2 (.slice none 0 0) [] (World.ownsRow_nil _ _ _ _) w.heap.size _ (zs.drop 8) hs8 (by simp; omega) hsd
      have hl3 : Later Wd W3 := (Below.refl _ Wd).grown hgr3 (Nat.le_refl _) (fun _ e => by cases e)
      have hO3 := Ow.of_row hown3
      rw [List.nil_append] at hO3
      clear hown3
      obtain ⟨a3, c3, rfl, hq3, hm3⟩ := hO3.slice
      rw [List.length_drop] at hO3 hrun3
      refine wp_app (.tmp 33) (.tmp 35) 24 rfl _ _ rfl rfl _ W3 hrun3 ⟨But.of hl3, ?_⟩
      simp only [Act.put, sA, sB, sC]
      refine tV (But.pre _) 5 rfl rfl ?_; apply Exists.intro; refine ⟨fun v1 hv1 => ?_, ?_⟩; (· (go_simp; rfl)); simp only [Act.put, sA, sB, sC]
      have m3 := (hl3.block mb (bl9 md)).trans md
      have k3 := block_cell m3
      have f3 : ∀ j, W3.frozen? ⟨mb, j, none⟩ = false := block_frozen m3
      clear kd
      refine anyT_one 6 rfl (by kernel_rfl) rfl ?_
      unfold Oper.wp
      go_simp
      refine ⟨(But.refl (fun b => b = mb) _).setCell (p := ⟨mb, 3, none⟩) rfl _, ?_⟩
      refine anyT_done (by kernel_rfl) ?_
      have m4 : (W3.setCell ⟨mb, 3, none⟩ (.slice a3 (zs.length - 8) c3)).heap[mb]? = some (.cells #[.int .u8 x0, .int .u8 x1, .int .u32 (wat4 zs 4), .slice a3 (zs.length - 8) c3] 42 (0, 0)) := heap_set1 m3 3 _
      have b4 : But (fun b => b = mb) wc (W3.setCell ⟨mb, 3, none⟩ (.slice a3 (zs.length - 8) c3)) := (But.of (E := fun b => b = mb) (Later.trans hd hl3)).setCell (p := ⟨mb, 3, none⟩) rfl _
      have hO4 : Ow (w.heap.size + 1 + 1) (W3.setCell ⟨mb, 3, none⟩ (.slice a3 (zs.length - 8) c3)) (.slice a3 (zs.length - 8) c3) (zs.drop 8) := hO3.other m3 (by decide) ((But.refl (fun b => b = mb) _).setCell (p := ⟨mb, 3, none⟩) rfl _)
      go_wp2_with fail
      go_meet
      case rel => exact ⟨rfl, b4, a3, c3, m4, hO4⟩
     case rest =>
      obtain ⟨rfl, bc, a3, c3, mx, hOx⟩ := hcut
      have rx := (bc.block (w.heap.size + 1) (by have := lc.size; omega) (by omega)).trans r2
      have hwx := hw2.trans (bc.below hw2.size (fun k hk e => by omega))
      have MX := block_cell mx
      have RX := block_cell rx
      have FX := block_frozen rx
      go_wp2_with fail
      generalize hV : (((wc.setCell ⟨w.heap.size + 1, 0, none⟩ _).setCell ⟨w.heap.size + 1, 1, none⟩ _).setCell ⟨w.heap.size + 1, 2, none⟩ _).setCell ⟨w.heap.size + 1, 3, none⟩ _ = V8
      have hV9 : V8 = putRow wc (w.heap.size + 1) 0 [Value.int .u8 x0, .int .u8 x1, .int .u32 (wat4 zs 4), .slice a3 (zs.length - 8) c3] := hV.symm
      have hb8 : But (fun b => b = w.heap.size + 1) wc V8 := by rw [hV9]; exact putRow_but (E := fun b => b = w.heap.size + 1) (n := w.heap.size + 1) rfl _ _ _ _ (But.refl _ _)
      have p8 := putRow_all [Value.int .u8 x0, .int .u8 x1, .int .u32 (wat4 zs 4), .slice a3 (zs.length - 8) c3] rx rfl
      rw [← hV9] at p8
      clear hV hV9
      have P8 := block_cell p8
      have hw8 : Below w.heap.size w V8 := (hwx).trans (hb8.below (hwx).size (fun k h e => by omega))
      exact bodyPost_ret (v := .tuple #[.agg #[.int .u8 x0, .int .u8 x1, .int .u32 (wat4 zs 4), .slice a3 (zs.length - 8) c3], .int .i64 0]) (by simp [results, Tryz.results12, go_sem, P8]) rfl (⟨hw8, .inr ⟨HF.out, a3, c3, by rw [GX0.out, GX1.out], (hOx.other rx (by decide) hb8).mono (by omega)⟩⟩)
   ·have HF : Hid (pie proto zs = 5) := by show _ = _; unfold pie; rw [if_neg (by simp [C1.out]), if_neg c2, if_pos c3]
    have t3 : (Mt.cks zs == 0) = false := by simp [c3]
    clear c3
    go_enter Tryz.func12, Tryz.ntmps12
    go_wp2_with fail
    generalize (w.alloc (.cells #[.int .u8 tos, .int .u16 id, .bool keep, .int .u8 ttl, .int .u8 proto, .int .u32 src, .int .u32 dst, so, .slice ad zs.length cd] 26)).alloc (.cells zm.toArray 42) = W0 at *
    refine (rgood_any _ zs hB hl W0 ((hI.below hb0).mono hb0.size)).mono ?_
    rintro e w1 ⟨rfl, hb1⟩
    rw [t3]
    have r1 := (hb1.block (w.heap.size + 1) (by have := HS.out; omega)).trans R0.out
    have hw1 : Below w.heap.size w w1 := hb0.trans (hb1.mono hb0.size)
    have RR := block_cell r1
    have FF := block_frozen r1
    go_wp2_with fail
    generalize hV : (((w1.setCell ⟨w.heap.size + 1, 0, none⟩ _).setCell ⟨w.heap.size + 1, 1, none⟩ _).setCell ⟨w.heap.size + 1, 2, none⟩ _).setCell ⟨w.heap.size + 1, 3, none⟩ _ = V8
    have hV9 : V8 = putRow w1 (w.heap.size + 1) 0 [Value.int .u8 0, .int .u8 0, .int .u32 0, .slice none 0 0] := hV.symm
    have hb8 : But (fun b => b = w.heap.size + 1) w1 V8 := by rw [hV9]; exact putRow_but (E := fun b => b = w.heap.size + 1) (n := w.heap.size + 1) rfl _ _ _ _ (But.refl _ _)
    have p8 := putRow_all [Value.int .u8 0, .int .u8 0, .int .u32 0, .slice none 0 0] r1 rfl
    rw [← hV9] at p8
    clear hV hV9
    have P8 := block_cell p8
    have hw8 : Below w.heap.size w V8 := (hw1).trans (hb8.below (hw1).size (fun k h e => by omega))
    exact bodyPost_ret (v := .tuple #[.agg zm.toArray, .int .i64 5]) (by simp [results, Tryz.results12, go_sem, P8]) rfl (⟨hw8, .inl ⟨by rw [HF.out]; decide, by rw [HF.out]⟩⟩)

 ·have t1 : (proto != 1) = true := by simp [c1]
  have HF : Hid (pie proto zs = 12) := by show _ = _; unfold pie; rw [if_pos (by simp [c1])]
  go_enter Tryz.func12, Tryz.ntmps12
  go_wp2_with fail
  exact bodyPost_ret (v := .tuple #[.agg zm.toArray, .int .i64 12]) (by simp [results, Tryz.results12, go_sem]) rfl ⟨hb0, .inl ⟨by rw [HF.out]; decide, by rw [HF.out]⟩⟩
end Go.Proofs.YtghpakfjpdifaaaGreatDoor

/- The document's ParseGre: the beginning. -/
namespace Go.Proofs.YtghpakfjpdifaaaGreatDoor
open Go.RowKit Go.Shelf
set_option maxRecDepth 100000
set_option linter.unusedVariables false
set_option linter.unusedSimpArgs false

set_option maxHeartbeats 8000000 in
theorem rbegin_any (sv : Value) (zs : List Int) (h4 : 4 ≤ zs.length) (w : World) (hI : Rd w.heap.size w sv zs) :
  Calls Tryz.prog 63 #[sv] w fun e w' => e = .returned (.bool (bgk (bgz zs))) ∧ Below w.heap.size w w' := by
 obtain ⟨b, off, cap, rfl, hlc, hmc, hbb, hcs⟩ := hI.cells (by omega)
 unfold bgz
 have d0 : w.cell? ⟨b, off, none⟩ = some (.int .u8 (zs[0]?.getD 0)) := hcs 0 (by omega)
 have d1 := hcs 1 (by omega)
 have d2 := hcs 2 (by omega)
 have d3 := hcs 3 (by omega)
 clear hcs hI
 generalize zs[0]?.getD 0 = x0 at *
 generalize zs[1]?.getD 0 = x1 at *
 generalize zs[2]?.getD 0 = x2 at *
 generalize zs[3]?.getD 0 = x3 at *
 generalize zs.length = n at *
 have i4 : 4 ≤ (n : Int) := by omega
 have i4' : ¬ (n : Int) < 4 := by omega
 have i0 : 0 < n := by omega
 have i1 : (1 : Int) < n := by omega
 have i2 : (2 : Int) < n := by omega
 have i3 : (3 : Int) < n := by omega
 cases ap : (x0 == 32)
 ·cases aq : (x0 == 48)
  ·skip
   have HV : Hid (bgk (bgo x0 x1 x2 x3) = false) := by show _ = _; simp [bgo, bgk, pick4, *]
   go_enter Tryz.func63, Tryz.ntmps63
   go_wp2
   go_ret
   exact ⟨by rw [HV.out]; rfl, Below.refl _ _⟩
  ·skip
   cases bp : (x1 == 1)
   ·cases bq : (x1 == 129)
    ·skip
     have HV : Hid (bgk (bgo x0 x1 x2 x3) = false) := by show _ = _; simp [bgo, bgk, pick4, *]
     go_enter Tryz.func63, Tryz.ntmps63
     go_wp2
     go_ret
     exact ⟨by rw [HV.out]; rfl, Below.refl _ _⟩
    ·skip
     cases cp : (x2 == 136)
     ·skip
      have HV : Hid (bgk (bgo x0 x1 x2 x3) = false) := by show _ = _; simp [bgo, bgk, pick4, *]
      go_enter Tryz.func63, Tryz.ntmps63
      go_wp2
      go_ret
      exact ⟨by rw [HV.out]; rfl, Below.refl _ _⟩
     ·cases dp : (x3 == 11)
      ·skip
       have HV : Hid (bgk (bgo x0 x1 x2 x3) = false) := by show _ = _; simp [bgo, bgk, pick4, *]
       go_enter Tryz.func63, Tryz.ntmps63
       go_wp2
       go_ret
       exact ⟨by rw [HV.out]; rfl, Below.refl _ _⟩
      ·skip
       have HV : Hid (bgk (bgo x0 x1 x2 x3) = true) := by show _ = _; simp [bgo, bgk, pick4, *]
       go_enter Tryz.func63, Tryz.ntmps63
       go_wp2
       go_ret
       exact ⟨by rw [HV.out]; rfl, Below.refl _ _⟩
   ·have bq : (x1 == 129) = false := by have := beq_iff_eq.1 bp; subst this; rfl
    cases cp : (x2 == 136)
    ·skip
     have HV : Hid (bgk (bgo x0 x1 x2 x3) = false) := by show _ = _; simp [bgo, bgk, pick4, *]
     go_enter Tryz.func63, Tryz.ntmps63
     go_wp2
     go_ret
     exact ⟨by rw [HV.out]; rfl, Below.refl _ _⟩
    ·cases dp : (x3 == 11)
     ·skip
      have HV : Hid (bgk (bgo x0 x1 x2 x3) = false) := by show _ = _; simp [bgo, bgk, pick4, *]
      go_enter Tryz.func63, Tryz.ntmps63
      go_wp2
      go_ret
      exact ⟨by rw [HV.out]; rfl, Below.refl _ _⟩
     ·skip
      have HV : Hid (bgk (bgo x0 x1 x2 x3) = true) := by show _ = _; simp [bgo, bgk, pick4, *]
      go_enter Tryz.func63, Tryz.ntmps63
      go_wp2
      go_ret
      exact ⟨by rw [HV.out]; rfl, Below.refl _ _⟩
 ·have aq : (x0 == 48) = false := by have := beq_iff_eq.1 ap; subst this; rfl
  cases bp : (x1 == 1)
  ·cases bq : (x1 == 129)
   ·skip
    have HV : Hid (bgk (bgo x0 x1 x2 x3) = false) := by show _ = _; simp [bgo, bgk, pick4, *]
    go_enter Tryz.func63, Tryz.ntmps63
    go_wp2
    go_ret
    exact ⟨by rw [HV.out]; rfl, Below.refl _ _⟩
   ·skip
    cases cp : (x2 == 136)
    ·skip
     have HV : Hid (bgk (bgo x0 x1 x2 x3) = false) := by show _ = _; simp [bgo, bgk, pick4, *]
     go_enter Tryz.func63, Tryz.ntmps63
     go_wp2
     go_ret
     exact ⟨by rw [HV.out]; rfl, Below.refl _ _⟩
    ·cases dp : (x3 == 11)
     ·skip
      have HV : Hid (bgk (bgo x0 x1 x2 x3) = false) := by show _ = _; simp [bgo, bgk, pick4, *]
      go_enter Tryz.func63, Tryz.ntmps63
      go_wp2
      go_ret
      exact ⟨by rw [HV.out]; rfl, Below.refl _ _⟩
     ·skip
      have HV : Hid (bgk (bgo x0 x1 x2 x3) = true) := by show _ = _; simp [bgo, bgk, pick4, *]
      go_enter Tryz.func63, Tryz.ntmps63
      go_wp2
      go_ret
      exact ⟨by rw [HV.out]; rfl, Below.refl _ _⟩
  ·have bq : (x1 == 129) = false := by have := beq_iff_eq.1 bp; subst this; rfl
   cases cp : (x2 == 136)
   ·skip
    have HV : Hid (bgk (bgo x0 x1 x2 x3) = false) := by show _ = _; simp [bgo, bgk, pick4, *]
    go_enter Tryz.func63, Tryz.ntmps63
    go_wp2
    go_ret
    exact ⟨by rw [HV.out]; rfl, Below.refl _ _⟩
   ·cases dp : (x3 == 11)
    ·skip
     have HV : Hid (bgk (bgo x0 x1 x2 x3) = false) := by show _ = _; simp [bgo, bgk, pick4, *]
     go_enter Tryz.func63, Tryz.ntmps63
     go_wp2
     go_ret
     exact ⟨by rw [HV.out]; rfl, Below.refl _ _⟩
    ·skip
     have HV : Hid (bgk (bgo x0 x1 x2 x3) = true) := by show _ = _; simp [bgo, bgk, pick4, *]
     go_enter Tryz.func63, Tryz.ntmps63
     go_wp2
     go_ret
     exact ⟨by rw [HV.out]; rfl, Below.refl _ _⟩
end Go.Proofs.YtghpakfjpdifaaaGreatDoor

/- The document's ParseGre. -/
namespace Go.Proofs.YtghpakfjpdifaaaGreatDoor
open Go.RowKit Go.Shelf
set_option maxRecDepth 100000
set_option linter.unusedVariables false
set_option linter.unusedSimpArgs false

theorem bgo_parts (a b c d : Int) (h : bgo a b c d ≠ 4) : (a == 48) = ghs (bgo a b c d) ∧ (b == 129) = gha (bgo a b c d) := by
 unfold bgo at *
 cases a1 : (a == 32) <;> cases a2 : (a == 48) <;> cases b1 : (b == 1) <;> cases b2 : (b == 129) <;> cases c1 : (c == 136) <;> cases d1 : (d == 11) <;> simp [a1, a2, b1, b2, c1, d1, pick4, ghs, gha] at h ⊢
 all_goals first
  | (have e1 := beq_iff_eq.1 a1; have e2 := beq_iff_eq.1 a2; omega)
  | (have e1 := beq_iff_eq.1 b1; have e2 := beq_iff_eq.1 b2; omega)

set_option maxHeartbeats 8000000 in
theorem rparseGre_any (tos id ttl proto src dst : Int) (keep : Bool) (so sd : Value) (zs : List Int) (w : World) (hB : Mt.By zs) (hI : Rd w.heap.size w sd zs) (hl : zs.length ≤ 140737488355328) :
  Calls Tryz.prog 31 #[.agg #[.int .u8 tos, .int .u16 id, .bool keep, .int .u8 ttl, .int .u8 proto, .int .u32 src, .int .u32 dst, so, sd]] w fun e w' => Below w.heap.size w w' ∧ ((pge proto zs ≠ 0 ∧ e = .returned (.tuple #[.agg zf.toArray, .int .i64 (pge proto zs)])) ∨
   (pge proto zs = 0 ∧ ∃ ad cd, e = .returned (.tuple #[.agg #[.int .u16 (getAt2 zs 6), .bool (ghs (bgz zs)), .bool (gha (bgz zs)), .int .u32 (gsq (bgz zs) zs), .int .u32 (gak (bgz zs) zs), .slice ad (zs.length - ghd (bgz zs)) cd], .int .i64 0]) ∧ Ow w.heap.size w' (.slice ad (zs.length - ghd (bgz zs)) cd) (zs.drop (ghd (bgz zs))))) := by
 obtain ⟨ad, cd, rfl, hl1, hm1⟩ := hI.slice
 have hb0 : Below w.heap.size w ((w.alloc (.cells #[.int .u8 tos, .int .u16 id, .bool keep, .int .u8 ttl, .int .u8 proto, .int .u32 src, .int .u32 dst, so, .slice ad zs.length cd] 26)).alloc (.cells zf.toArray 68)) := ((Below.refl _ _).alloc (Nat.le_refl _) _).alloc (by simp) _
 have r0 : ((w.alloc (.cells #[.int .u8 tos, .int .u16 id, .bool keep, .int .u8 ttl, .int .u8 proto, .int .u32 src, .int .u32 dst, so, .slice ad zs.length cd] 26)).alloc (.cells zf.toArray 68)).heap[w.heap.size + 1]? = some (.cells zf.toArray 68 (0, 0)) := by have := heap_alloc_new (w.alloc (.cells #[.int .u8 tos, .int .u16 id, .bool keep, .int .u8 ttl, .int .u8 proto, .int .u32 src, .int .u32 dst, so, .slice ad zs.length cd] 26)) (.cells zf.toArray 68); simpa using this
 have hs0 : ((w.alloc (.cells #[.int .u8 tos, .int .u16 id, .bool keep, .int .u8 ttl, .int .u8 proto, .int .u32 src, .int .u32 dst, so, .slice ad zs.length cd] 26)).alloc (.cells zf.toArray 68)).heap.size = w.heap.size + 1 + 1 := by simp
 have R0 := hide r0
 have HS := hide hs0
 clear r0 hs0
 by_cases c1 : proto = 47
 ·have t1 : (proto != 47) = false := by simp [c1]
  have C1 := hide c1
  clear c1
  by_cases c2 : zs.length < 8
  ·have t2 : (zs.length : Int) < 8 := by omega
   have HF : Hid (pge proto zs = 3) := by show _ = _; unfold pge; rw [if_neg (by simp [C1.out]), if_pos c2]
   go_enter Tryz.func31, Tryz.ntmps31
   go_wp2_with fail
   exact bodyPost_ret (v := .tuple #[.agg zf.toArray, .int .i64 3]) (by simp [results, Tryz.results31, go_sem]) rfl ⟨hb0, .inl ⟨by rw [HF.out]; decide, by rw [HF.out]⟩⟩
  ·have t2 : ¬ (zs.length : Int) < 8 := by omega
   go_enter Tryz.func31, Tryz.ntmps31
   go_wp2_with fail
   generalize (w.alloc (.cells #[.int .u8 tos, .int .u16 id, .bool keep, .int .u8 ttl, .int .u8 proto, .int .u32 src, .int .u32 dst, so, .slice ad zs.length cd] 26)).alloc (.cells zf.toArray 68) = W0 at *
   refine (rbegin_any _ zs (by omega) W0 ((hI.below hb0).mono hb0.size)).mono ?_
   rintro e w1 ⟨rfl, hb1⟩
   have r1 := (hb1.block (w.heap.size + 1) (by have := HS.out; omega)).trans R0.out
   have hw1 : Below w.heap.size w w1 := hb0.trans (hb1.mono hb0.size)
   have hs1 : w.heap.size + 1 + 1 ≤ w1.heap.size := by have := hb1.size; have := HS.out; omega
   by_cases c3 : bgz zs = 4
   ·have HF : Hid (pge proto zs = 4) := by show _ = _; unfold pge; rw [if_neg (by simp [C1.out]), if_neg c2, if_pos c3]
    rw [show bgk (bgz zs) = false from by rw [c3]; rfl]
    clear c3
    have RR := block_cell r1
    have FF := block_frozen r1
    go_wp2_with fail
    generalize hV : (((((w1.setCell ⟨w.heap.size + 1, 0, none⟩ _).setCell ⟨w.heap.size + 1, 1, none⟩ _).setCell ⟨w.heap.size + 1, 2, none⟩ _).setCell ⟨w.heap.size + 1, 3, none⟩ _).setCell ⟨w.heap.size + 1, 4, none⟩ _).setCell ⟨w.heap.size + 1, 5, none⟩ _ = V8
    have hV9 : V8 = putRow w1 (w.heap.size + 1) 0 [Value.int .u16 0, .bool false, .bool false, .int .u32 0, .int .u32 0, .slice none 0 0] := hV.symm
    have hb8 : But (fun b => b = w.heap.size + 1) w1 V8 := by rw [hV9]; exact putRow_but (E := fun b => b = w.heap.size + 1) (n := w.heap.size + 1) rfl _ _ _ _ (But.refl _ _)
    have p8 := putRow_all [Value.int .u16 0, .bool false, .bool false, .int .u32 0, .int .u32 0, .slice none 0 0] r1 rfl
    rw [← hV9] at p8
    clear hV hV9
    have P8 := block_cell p8
    have hw8 : Below w.heap.size w V8 := (hw1).trans (hb8.below (hw1).size (fun k h e => by omega))
    exact bodyPost_ret (v := .tuple #[.agg zf.toArray, .int .i64 4]) (by simp [results, Tryz.results31, go_sem, P8]) rfl (⟨hw8, .inl ⟨by rw [HF.out]; decide, by rw [HF.out]⟩⟩)
   ·rw [show bgk (bgz zs) = true from by simp [bgk, c3]]
    obtain ⟨ths, tha⟩ := bgo_parts (zs[0]?.getD 0) (zs[1]?.getD 0) (zs[2]?.getD 0) (zs[3]?.getD 0) c3
    change _ = ghs (bgz zs) at ths
    change _ = gha (bgz zs) at tha
    have hn3 : bgz zs ≤ 3 := by have := bgo_le (zs[0]?.getD 0) (zs[1]?.getD 0) (zs[2]?.getD 0) (zs[3]?.getD 0); have : bgz zs ≤ 4 := this; omega
    obtain ⟨b, off, cap, e0, hlc, hmc, hbb, hcs⟩ := hI.cells (by omega)
    have hcl := e0
    simp at hcl
    obtain ⟨rfl, rfl⟩ := hcl
    clear e0
    have d0 := hcs 0 (by omega)
    have d1 := hcs 1 (by omega)
    have hwd : Below w.heap.size w w1.drew := hw1.trans ((Later.drew w1).mono hw1.size)
    obtain ⟨N, HN⟩ : ∃ N, Hid (bgz zs = N) := ⟨_, rfl⟩
    rw [HN.out] at ths tha hn3
    obtain ⟨hs, HHs⟩ : ∃ hs, Hid (ghs N = hs) := ⟨_, rfl⟩
    obtain ⟨ha, HHa⟩ : ∃ ha, Hid (gha N = ha) := ⟨_, rfl⟩
    rw [HHs.out] at ths
    rw [HHa.out] at tha
    generalize zs[0]?.getD 0 = x0 at *
    generalize zs[1]?.getD 0 = x1 at *
    clear c3
    go_upto_region 8 with fail
    go_cut [5] (fun p wx => ∃ mb, p = .pointer (some ⟨mb, 0, none⟩) ∧ w1.heap.size ≤ mb ∧ Later w1 wx ∧ wx.heap[mb]? = some (.cells #[.int .u16 (getAt2 zs 6), .bool hs, .bool ha, .int .u32 0, .int .u32 0, .slice none 0 0] 68 (0, 0)))
    case first =>
     refine anyT_begin (R := But (fun b => w1.heap.size ≤ b)) 13 rfl (by kernel_rfl) ?_
     have hd : Later w1 w1.drew := Later.drew w1
     generalize w1.drew = Wd at *
     have hbel : ∀ v1, But (fun b => w1.heap.size ≤ b) Wd v1 → Below w.heap.size w v1 := fun v1 h => hwd.trans (h.below hwd.size (fun k hk e => by omega))
     have q0 : ∀ v1, But (fun b => w1.heap.size ≤ b) Wd v1 → v1.cell? ⟨b, off, none⟩ = some (.int .u8 x0) := fun v1 h => ((hbel v1 h).cell (p := ⟨b, off, none⟩) hbb).trans d0
     have q1 : ∀ v1, But (fun b => w1.heap.size ≤ b) Wd v1 → v1.cell? ⟨b, off + 1, none⟩ = some (.int .u8 x1) := fun v1 h => ((hbel v1 h).cell (p := ⟨b, off + 1, none⟩) hbb).trans d1
     have hr : ∀ v1, But (fun b => w1.heap.size ≤ b) Wd v1 → Rd w.heap.size v1 (.slice (some ⟨b, off, none⟩) zs.length cd) zs := fun v1 h => hI.below (hbel v1 h)
     have i0 : 0 < zs.length := by omega
     have i1 : (1 : Int) < zs.length := by omega
     clear d0 d1
     refine tV (But.pre _) 0 rfl rfl ?_; apply Exists.intro; refine ⟨fun v1 hv1 => ?_, ?_⟩; (· (go_simp; rfl)); simp only [Act.put, sA, sB, sC]
     refine tV (But.pre _) 2 rfl rfl ?_; apply Exists.intro; refine ⟨fun v1 hv1 => ?_, ?_⟩; (· (go_simp; rfl)); simp only [Act.put, sA, sB, sC]
     refine tV (But.pre _) 3 rfl rfl ?_; apply Exists.intro; refine ⟨fun v1 hv1 => ?_, ?_⟩; (· (go_simp; rfl)); simp only [Act.put, sA, sB, sC]
     refine tV (But.pre _) 4 rfl rfl ?_; apply Exists.intro; refine ⟨fun v1 hv1 => ?_, ?_⟩; (· (go_simp; rfl)); simp only [Act.put, sA, sB, sC]
     refine tV (But.pre _) 5 rfl rfl ?_; apply Exists.intro; refine ⟨fun v1 hv1 => ?_, ?_⟩; (· (go_simp; rfl)); simp only [Act.put, sA, sB, sC]
     refine tV (But.pre _) 6 rfl rfl ?_; apply Exists.intro; refine ⟨fun v1 hv1 => ?_, ?_⟩; (· (go_simp; rfl)); simp only [Act.put, sA, sB, sC]
     refine tV (But.pre _) 7 rfl rfl ?_; apply Exists.intro; refine ⟨fun v1 hv1 => ?_, ?_⟩; (· (go_simp; rfl)); simp only [Act.put, sA, sB, sC]
     refine tV (But.pre _) 8 rfl rfl ?_; apply Exists.intro; refine ⟨fun v1 hv1 => ?_, ?_⟩; (· (go_simp; rfl)); simp only [Act.put, sA, sB, sC]
     refine tV (But.pre _) 9 rfl rfl ?_; apply Exists.intro; refine ⟨fun v1 hv1 => ?_, ?_⟩; (· (go_simp; rfl)); simp only [Act.put, sA, sB, sC]
     refine anyT_two 1 11 rfl rfl (by kernel_rfl) rfl rfl ?_ ?_
     ·refine wp_enter 62 #[.slice (some ⟨b, off, none⟩) zs.length cd, .int .i64 6] (by go_simp) ?_
      refine (rget16_at _ zs hB 6 (by omega) (by omega) Wd (hr _ (But.refl _ _))).mono ?_
      rintro e W2 ⟨rfl, q, hq⟩
      have lW2 : Later Wd W2 := by rw [hq]; exact below_draw (Later.refl _) q
      clear hq
      refine ⟨But.of lW2, ?_⟩
      simp only [Act.put, sA, sB, sC]
      refine tV (But.pre _) 10 rfl rfl ?_; apply Exists.intro; refine ⟨fun v1 hv1 => ?_, ?_⟩; (· (go_simp; rfl)); simp only [Act.put, sA, sB, sC]
      refine anyT_one 11 rfl (by kernel_rfl) rfl ?_
      unfold Oper.wp
      go_simp
      have zW3 : (W2.alloc (.cells #[.int .u16 0, .bool false, .bool false, .int .u32 0, .int .u32 0, .slice none 0 0] 68)).heap[W2.heap.size]? = some (.cells #[.int .u16 0, .bool false, .bool false, .int .u32 0, .int .u32 0, .slice none 0 0] 68) := heap_alloc_new W2 _
      have lW3 : Later W2 (W2.alloc (.cells #[.int .u16 0, .bool false, .bool false, .int .u32 0, .int .u32 0, .slice none 0 0] 68)) := (Below.refl _ _).alloc (Nat.le_refl _) _
      refine ⟨But.of lW3, ?_⟩
      generalize W2.alloc (.cells #[.int .u16 0, .bool false, .bool false, .int .u32 0, .int .u32 0, .slice none 0 0] 68) = W3 at *
      have zc := zW3
      have hml : w1.heap.size ≤ W2.heap.size := Nat.le_trans hd.size lW2.size
      have lall := Later.trans hd (Later.trans lW2 lW3)
      refine anyT_one 12 rfl (by kernel_rfl) rfl ?_
      have k4 := block_cell zc
      have f4 : ∀ j, W3.frozen? ⟨W2.heap.size, j, none⟩ = false := block_frozen zc
      unfold Oper.wp
      go_simp
      generalize hV7 : (((((W3.setCell ⟨W2.heap.size, 0, none⟩ _).setCell ⟨W2.heap.size, 1, none⟩ _).setCell ⟨W2.heap.size, 2, none⟩ _).setCell ⟨W2.heap.size, 3, none⟩ _).setCell ⟨W2.heap.size, 4, none⟩ _).setCell ⟨W2.heap.size, 5, none⟩ _ = V7
      have hV8 : V7 = putRow W3 W2.heap.size 0 [.int .u16 (getAt2 zs 6), .bool hs, .bool ha, .int .u32 0, .int .u32 0, .slice none 0 0] := hV7.symm
      have hb7 : But (fun b => b = W2.heap.size) W3 V7 := by rw [hV8]; exact putRow_rb _ _
      have p7 := putRow_all [Value.int .u16 (getAt2 zs 6), .bool hs, .bool ha, .int .u32 0, .int .u32 0, .slice none 0 0] zc rfl
      rw [← hV8] at p7
      clear hV7 hV8 k4 f4
      refine ⟨⟨hb7.os, hb7.tape, hb7.output, hb7.size, fun i hi he => hb7.block i hi (fun e => he (by omega))⟩, ?_⟩
      refine anyT_done (by kernel_rfl) ?_
      have lz : Later w1 V7 := Below.trans (B := w1.heap.size) lall (hb7.below lall.size (fun k hk e => by omega))
      go_wp2_with fail
      go_meet
      case rel => exact ⟨W2.heap.size, rfl, hml, lz, p7⟩
     ·unfold Oper.wp
      go_simp
      have zW2 : (Wd.alloc (.cells #[.int .u16 0, .bool false, .bool false, .int .u32 0, .int .u32 0, .slice none 0 0] 68)).heap[Wd.heap.size]? = some (.cells #[.int .u16 0, .bool false, .bool false, .int .u32 0, .int .u32 0, .slice none 0 0] 68) := heap_alloc_new Wd _
      have lW2 : Later Wd (Wd.alloc (.cells #[.int .u16 0, .bool false, .bool false, .int .u32 0, .int .u32 0, .slice none 0 0] 68)) := (Below.refl _ _).alloc (Nat.le_refl _) _
      refine ⟨But.of lW2, ?_⟩
      generalize Wd.alloc (.cells #[.int .u16 0, .bool false, .bool false, .int .u32 0, .int .u32 0, .slice none 0 0] 68) = W2 at *
      refine anyT_one 1 rfl (by kernel_rfl) rfl ?_
      refine wp_enter 62 #[.slice (some ⟨b, off, none⟩) zs.length cd, .int .i64 6] (by go_simp) ?_
      refine (rget16_at _ zs hB 6 (by omega) (by omega) W2 (hr _ (But.of lW2))).mono ?_
      rintro e W3 ⟨rfl, q, hq⟩
      have lW3 : Later W2 W3 := by rw [hq]; exact below_draw (Later.refl _) q
      clear hq
      refine ⟨But.of lW3, ?_⟩
      simp only [Act.put, sA, sB, sC]
      refine tV (But.pre _) 10 rfl rfl ?_; apply Exists.intro; refine ⟨fun v1 hv1 => ?_, ?_⟩; (· (go_simp; rfl)); simp only [Act.put, sA, sB, sC]
      have zc := (lW3.block Wd.heap.size (bl9 zW2)).trans zW2
      have hml : w1.heap.size ≤ Wd.heap.size := hd.size
      have lall := Later.trans hd (Later.trans lW2 lW3)
      refine anyT_one 12 rfl (by kernel_rfl) rfl ?_
      have k4 := block_cell zc
      have f4 : ∀ j, W3.frozen? ⟨Wd.heap.size, j, none⟩ = false := block_frozen zc
      unfold Oper.wp
      go_simp
      generalize hV7 : (((((W3.setCell ⟨Wd.heap.size, 0, none⟩ _).setCell ⟨Wd.heap.size, 1, none⟩ _).setCell ⟨Wd.heap.size, 2, none⟩ _).setCell ⟨Wd.heap.size, 3, none⟩ _).setCell ⟨Wd.heap.size, 4, none⟩ _).setCell ⟨Wd.heap.size, 5, none⟩ _ = V7
      have hV8 : V7 = putRow W3 Wd.heap.size 0 [.int .u16 (getAt2 zs 6), .bool hs, .bool ha, .int .u32 0, .int .u32 0, .slice none 0 0] := hV7.symm
      have hb7 : But (fun b => b = Wd.heap.size) W3 V7 := by rw [hV8]; exact putRow_rb _ _
      have p7 := putRow_all [Value.int .u16 (getAt2 zs 6), .bool hs, .bool ha, .int .u32 0, .int .u32 0, .slice none 0 0] zc rfl
      rw [← hV8] at p7
      clear hV7 hV8 k4 f4
      refine ⟨⟨hb7.os, hb7.tape, hb7.output, hb7.size, fun i hi he => hb7.block i hi (fun e => he (by omega))⟩, ?_⟩
      refine anyT_done (by kernel_rfl) ?_
      have lz : Later w1 V7 := Below.trans (B := w1.heap.size) lall (hb7.below lall.size (fun k hk e => by omega))
      go_wp2_with fail
      go_meet
      case rel => exact ⟨Wd.heap.size, rfl, hml, lz, p7⟩
    case rest =>
     obtain ⟨mb, rfl, hml, lc, mc⟩ := hcut
     have r2 := (lc.block (w.heap.size + 1) (by omega)).trans r1
     have hw2 := hw1.trans (lc.mono hw1.size)
     clear d0 d1 hwd ths tha
     have HG4 : Hid (getAt2 zs 4 = wat zs 4) := by show _ = _; unfold getAt2; rw [if_pos (by omega)]; rfl
     have hLb := wat_bd hB 4
     obtain ⟨g6, HG6⟩ : ∃ g6, Hid (getAt2 zs 6 = g6) := ⟨_, rfl⟩
     rw [HG6.out] at mc
     obtain ⟨L, HL⟩ : ∃ L, Hid (wat zs 4 = L) := ⟨_, rfl⟩
     rw [HL.out] at hLb
     have HG4 : Hid (getAt2 zs 4 = L) := HG4.out.trans HL.out
     have hN4 : N = 0 ∨ N = 1 ∨ N = 2 ∨ N = 3 := by omega
     clear hn3
     rcases hN4 with rfl | rfl | rfl | rfl
     ·skip
      have e1 : hs = false := HHs.out.symm
      have e2 : ha = false := HHa.out.symm
      subst e1 e2
      have MC := block_cell mc
      go_wp2_with fail
      refine (rget16_at _ zs hB 4 (by omega) hl wc (hI.below hw2)).mono ?_
      rw [HG4.out]
      rintro e w3 ⟨rfl, q, hq⟩
      have l3 : Later wc w3 := by rw [hq]; exact below_draw (Later.refl _) q
      clear hq MC
      have m3 := (l3.block mb (bl9 mc)).trans mc
      have r3 := (l3.block (w.heap.size + 1) (bl9 r2)).trans r2
      have hw3 := hw2.trans (l3.mono hw2.size)
      have M3 := block_cell m3
      have hgd : Hid (ghd 0 = 8) := rfl
      by_cases c4 : (zs.length : Int) < 8 + L
      ·have HF : Hid (pge proto zs = 3) := by show _ = _; unfold pge; rw [if_neg (by simp [C1.out]), if_neg c2, HN.out, if_neg (by decide), HL.out, hgd.out, if_pos (by omega)]
       have RR := block_cell r3
       have FF := block_frozen r3
       go_wp2_with fail
       generalize hV : (((((w3.setCell ⟨w.heap.size + 1, 0, none⟩ _).setCell ⟨w.heap.size + 1, 1, none⟩ _).setCell ⟨w.heap.size + 1, 2, none⟩ _).setCell ⟨w.heap.size + 1, 3, none⟩ _).setCell ⟨w.heap.size + 1, 4, none⟩ _).setCell ⟨w.heap.size + 1, 5, none⟩ _ = V8
       have hV9 : V8 = putRow w3 (w.heap.size + 1) 0 [Value.int .u16 0, .bool false, .bool false, .int .u32 0, .int .u32 0, .slice none 0 0] := hV.symm
       have hb8 : But (fun b => b = w.heap.size + 1) w3 V8 := by rw [hV9]; exact putRow_but (E := fun b => b = w.heap.size + 1) (n := w.heap.size + 1) rfl _ _ _ _ (But.refl _ _)
       have p8 := putRow_all [Value.int .u16 0, .bool false, .bool false, .int .u32 0, .int .u32 0, .slice none 0 0] r3 rfl
       rw [← hV9] at p8
       clear hV hV9
       have P8 := block_cell p8
       have hw8 : Below w.heap.size w V8 := (hw3).trans (hb8.below (hw3).size (fun k h e => by omega))
       exact bodyPost_ret (v := .tuple #[.agg zf.toArray, .int .i64 3]) (by simp [results, Tryz.results31, go_sem, P8]) rfl (⟨hw8, .inl ⟨by rw [HF.out]; decide, by rw [HF.out]⟩⟩)
      ·by_cases c5 : 8 + L < (zs.length : Int)
       ·have HF : Hid (pge proto zs = 4) := by show _ = _; unfold pge; rw [if_neg (by simp [C1.out]), if_neg c2, HN.out, if_neg (by decide), HL.out, hgd.out, if_neg (by omega), if_pos (by omega)]
        have RR := block_cell r3
        have FF := block_frozen r3
        go_wp2_with fail
        generalize hV : (((((w3.setCell ⟨w.heap.size + 1, 0, none⟩ _).setCell ⟨w.heap.size + 1, 1, none⟩ _).setCell ⟨w.heap.size + 1, 2, none⟩ _).setCell ⟨w.heap.size + 1, 3, none⟩ _).setCell ⟨w.heap.size + 1, 4, none⟩ _).setCell ⟨w.heap.size + 1, 5, none⟩ _ = V8
        have hV9 : V8 = putRow w3 (w.heap.size + 1) 0 [Value.int .u16 0, .bool false, .bool false, .int .u32 0, .int .u32 0, .slice none 0 0] := hV.symm
        have hb8 : But (fun b => b = w.heap.size + 1) w3 V8 := by rw [hV9]; exact putRow_but (E := fun b => b = w.heap.size + 1) (n := w.heap.size + 1) rfl _ _ _ _ (But.refl _ _)
        have p8 := putRow_all [Value.int .u16 0, .bool false, .bool false, .int .u32 0, .int .u32 0, .slice none 0 0] r3 rfl
        rw [← hV9] at p8
        clear hV hV9
        have P8 := block_cell p8
        have hw8 : Below w.heap.size w V8 := (hw3).trans (hb8.below (hw3).size (fun k h e => by omega))
        exact bodyPost_ret (v := .tuple #[.agg zf.toArray, .int .i64 4]) (by simp [results, Tryz.results31, go_sem, P8]) rfl (⟨hw8, .inl ⟨by rw [HF.out]; decide, by rw [HF.out]⟩⟩)
       ·have HF : Hid (pge proto zs = 0) := by show _ = _; unfold pge; rw [if_neg (by simp [C1.out]), if_neg c2, HN.out, if_neg (by decide), HL.out, hgd.out, if_neg (by omega), if_neg (by omega)]
        have hH : 8 ≤ zs.length := by omega
        go_upto_region 25 with fail
        go_cut [5] (fun p wx => p = .pointer (some ⟨mb, 0, none⟩) ∧ But (fun b => b = mb) w3 wx ∧ ∃ a3 c3, wx.heap[mb]? = some (.cells #[.int .u16 g6, .bool false, .bool false, .int .u32 0, .int .u32 0, .slice a3 (zs.length - 8) c3] 68 (0, 0)) ∧ Ow (w.heap.size + 1 + 1) wx (.slice a3 (zs.length - 8) c3) (zs.drop 8))
        case first =>
         refine anyT_begin (R := But (fun b => b = mb)) 8 rfl (by kernel_rfl) ?_
         have hd : Later w3 w3.drew := Later.drew w3
         have md := (hd.block mb (bl9 m3)).trans m3
         have hwd : Below w.heap.size w w3.drew := hw3.trans (hd.mono hw3.size)
         generalize w3.drew = Wd at *
         have hs8 : Rd w.heap.size Wd (.slice (if cd = 8 then some (⟨b, off, none⟩ : Addr) else some ⟨b, off + 8, none⟩) (zs.length - 8) (cd - 8)) (zs.drop 8) := (hI.below hwd).cutAt 8 (by omega)
         generalize hE8 : (if cd = 8 then some (⟨b, off, none⟩ : Addr) else some ⟨b, off + 8, none⟩) = ad8 at *
         have i8 : (8 : Int) ≤ zs.length := by omega
         have i8c : (zs.length : Int) ≤ cd := by omega
         have i8n : ¬ zs.length < 8 := by omega
         refine tV (But.pre _) 0 rfl rfl ?_; apply Exists.intro; refine ⟨fun v1 hv1 => ?_, ?_⟩; (· (go_simp; rfl)); simp only [Act.put, sA, sB, sC]
         refine tV (But.pre _) 2 rfl rfl ?_; apply Exists.intro; refine ⟨fun v1 hv1 => ?_, ?_⟩; (· (go_simp; rfl)); simp only [Act.put, sA, sB, sC]
         refine tV (But.pre _) 3 rfl rfl ?_; apply Exists.intro; refine ⟨fun v1 hv1 => ?_, ?_⟩; (· (go_simp; rfl)); simp only [Act.put, sA, sB, sC]
         refine tV (But.pre _) 4 rfl rfl ⟨.slice ad8 (zs.length - 8) (cd - 8), fun v1 hv1 => by go_simp, ?_⟩
         simp only [Act.put, sA, sB, sC]
         refine anyT_one 1 rfl (by kernel_rfl) rfl ?_
         have kd := block_cell md
         unfold Oper.wp
         go_simp
         refine ⟨But.refl _ _, ?_⟩
         refine anyT_one 5 rfl (by kernel_rfl) rfl ?_
         obtain ⟨i0, hi, hz0, hz1, hz2⟩ := info_parts info_u8
         have hsd : w.heap.size + 1 + 1 ≤ Wd.heap.size := by have := (bl9 md); omega
         obtain ⟨v3, W3, hrun3, hown3, hgr3⟩ := run_app (P := Tryz.prog) Wd 24 24 5 (w.heap.size + 1 + 1) i0 Tryz.underlying24 hi hz0 hz1 hz2 (.slice none 0 0) [] (World.ownsRow_nil _ _ _ _) w.heap.size _ (zs.drop 8) hs8 (by simp; omega) hsd
         have hl3 : Later Wd W3 := (Below.refl _ Wd).grown hgr3 (Nat.le_refl _) (fun _ e => by cases e)
         have hO3 := Ow.of_row hown3
         rw [List.nil_append] at hO3
         clear hown3
         obtain ⟨a3, c3, rfl, hq3, hm3⟩ := hO3.slice
         rw [List.length_drop] at hO3 hrun3
         refine wp_app (.tmp 75) (.tmp 78) 24 rfl _ _ rfl rfl _ W3 hrun3 ⟨But.of hl3, ?_⟩
         simp only [Act.put, sA, sB, sC]
         refine tV (But.pre _) 6 rfl rfl ?_; apply Exists.intro; refine ⟨fun v1 hv1 => ?_, ?_⟩; (· (go_simp; rfl)); simp only [Act.put, sA, sB, sC]
         have m6 := (hl3.block mb (bl9 md)).trans md
         have k6 := block_cell m6
         have f6 : ∀ j, W3.frozen? ⟨mb, j, none⟩ = false := block_frozen m6
         clear kd
         refine anyT_one 7 rfl (by kernel_rfl) rfl ?_
         unfold Oper.wp
         go_simp
         refine ⟨(But.refl (fun b => b = mb) _).setCell (p := ⟨mb, 5, none⟩) rfl _, ?_⟩
         refine anyT_done (by kernel_rfl) ?_
         have m7 : (W3.setCell ⟨mb, 5, none⟩ (.slice a3 (zs.length - 8) c3)).heap[mb]? = some (.cells #[.int .u16 g6, .bool false, .bool false, .int .u32 0, .int .u32 0, .slice a3 (zs.length - 8) c3] 68 (0, 0)) := heap_set1 m6 5 _
         have b7 : But (fun b => b = mb) w3 (W3.setCell ⟨mb, 5, none⟩ (.slice a3 (zs.length - 8) c3)) := (But.of (E := fun b => b = mb) (Later.trans hd hl3)).setCell (p := ⟨mb, 5, none⟩) rfl _
         have hO7 : Ow (w.heap.size + 1 + 1) (W3.setCell ⟨mb, 5, none⟩ (.slice a3 (zs.length - 8) c3)) (.slice a3 (zs.length - 8) c3) (zs.drop 8) := hO3.other m6 (by decide) ((But.refl (fun b => b = mb) _).setCell (p := ⟨mb, 5, none⟩) rfl _)
         go_wp2_with fail
         go_meet
         case rel => exact ⟨rfl, b7, a3, c3, m7, hO7⟩
        case rest =>
         obtain ⟨rfl, bc, a3, c3, mx, hOx⟩ := hcut
         have rx := (bc.block (w.heap.size + 1) (bl9 r3) (by omega)).trans r3
         have hwx := hw3.trans (bc.below hw3.size (fun k hk e => by omega))
         have MX := block_cell mx
         have RX := block_cell rx
         have FX := block_frozen rx
         go_wp2_with fail
         generalize hV : (((((wc.setCell ⟨w.heap.size + 1, 0, none⟩ _).setCell ⟨w.heap.size + 1, 1, none⟩ _).setCell ⟨w.heap.size + 1, 2, none⟩ _).setCell ⟨w.heap.size + 1, 3, none⟩ _).setCell ⟨w.heap.size + 1, 4, none⟩ _).setCell ⟨w.heap.size + 1, 5, none⟩ _ = V8
         have hV9 : V8 = putRow wc (w.heap.size + 1) 0 [Value.int .u16 g6, .bool false, .bool false, .int .u32 0, .int .u32 0, .slice a3 (zs.length - 8) c3] := hV.symm
         have hb8 : But (fun b => b = w.heap.size + 1) wc V8 := by rw [hV9]; exact putRow_but (E := fun b => b = w.heap.size + 1) (n := w.heap.size + 1) rfl _ _ _ _ (But.refl _ _)
         have p8 := putRow_all [Value.int .u16 g6, .bool false, .bool false, .int .u32 0, .int .u32 0, .slice a3 (zs.length - 8) c3] rx rfl
         rw [← hV9] at p8
         clear hV hV9
         have P8 := block_cell p8
         have hw8 : Below w.heap.size w V8 := (hwx).trans (hb8.below (hwx).size (fun k h e => by omega))
         exact bodyPost_ret (v := .tuple #[.agg #[.int .u16 g6, .bool false, .bool false, .int .u32 0, .int .u32 0, .slice a3 (zs.length - 8) c3], .int .i64 0]) (by simp [results, Tryz.results31, go_sem, P8]) rfl (⟨hw8, .inr ⟨HF.out, a3, c3, by rw [HN.out, HG6.out]; rfl, by rw [HN.out]; exact (hOx.other rx (by decide) hb8).mono (by omega)⟩⟩)
     ·skip
      have e1 : hs = true := HHs.out.symm
      have e2 : ha = false := HHa.out.symm
      subst e1 e2
      have MC := block_cell mc
      go_wp2_with fail
      refine (rget16_at _ zs hB 4 (by omega) hl wc (hI.below hw2)).mono ?_
      rw [HG4.out]
      rintro e w3 ⟨rfl, q, hq⟩
      have l3 : Later wc w3 := by rw [hq]; exact below_draw (Later.refl _) q
      clear hq MC
      have m3 := (l3.block mb (bl9 mc)).trans mc
      have r3 := (l3.block (w.heap.size + 1) (bl9 r2)).trans r2
      have hw3 := hw2.trans (l3.mono hw2.size)
      have M3 := block_cell m3
      have hgd : Hid (ghd 1 = 12) := rfl
      by_cases c4 : (zs.length : Int) < 12 + L
      ·have HF : Hid (pge proto zs = 3) := by show _ = _; unfold pge; rw [if_neg (by simp [C1.out]), if_neg c2, HN.out, if_neg (by decide), HL.out, hgd.out, if_pos (by omega)]
       have RR := block_cell r3
       have FF := block_frozen r3
       go_wp2_with fail
       generalize hV : (((((w3.setCell ⟨w.heap.size + 1, 0, none⟩ _).setCell ⟨w.heap.size + 1, 1, none⟩ _).setCell ⟨w.heap.size + 1, 2, none⟩ _).setCell ⟨w.heap.size + 1, 3, none⟩ _).setCell ⟨w.heap.size + 1, 4, none⟩ _).setCell ⟨w.heap.size + 1, 5, none⟩ _ = V8
       have hV9 : V8 = putRow w3 (w.heap.size + 1) 0 [Value.int .u16 0, .bool false, .bool false, .int .u32 0, .int .u32 0, .slice none 0 0] := hV.symm
       have hb8 : But (fun b => b = w.heap.size + 1) w3 V8 := by rw [hV9]; exact putRow_but (E := fun b => b = w.heap.size + 1) (n := w.heap.size + 1) rfl _ _ _ _ (But.refl _ _)
       have p8 := putRow_all [Value.int .u16 0, .bool false, .bool false, .int .u32 0, .int .u32 0, .slice none 0 0] r3 rfl
       rw [← hV9] at p8
       clear hV hV9
       have P8 := block_cell p8
       have hw8 : Below w.heap.size w V8 := (hw3).trans (hb8.below (hw3).size (fun k h e => by omega))
       exact bodyPost_ret (v := .tuple #[.agg zf.toArray, .int .i64 3]) (by simp [results, Tryz.results31, go_sem, P8]) rfl (⟨hw8, .inl ⟨by rw [HF.out]; decide, by rw [HF.out]⟩⟩)
      ·by_cases c5 : 12 + L < (zs.length : Int)
       ·have HF : Hid (pge proto zs = 4) := by show _ = _; unfold pge; rw [if_neg (by simp [C1.out]), if_neg c2, HN.out, if_neg (by decide), HL.out, hgd.out, if_neg (by omega), if_pos (by omega)]
        have RR := block_cell r3
        have FF := block_frozen r3
        go_wp2_with fail
        generalize hV : (((((w3.setCell ⟨w.heap.size + 1, 0, none⟩ _).setCell ⟨w.heap.size + 1, 1, none⟩ _).setCell ⟨w.heap.size + 1, 2, none⟩ _).setCell ⟨w.heap.size + 1, 3, none⟩ _).setCell ⟨w.heap.size + 1, 4, none⟩ _).setCell ⟨w.heap.size + 1, 5, none⟩ _ = V8
        have hV9 : V8 = putRow w3 (w.heap.size + 1) 0 [Value.int .u16 0, .bool false, .bool false, .int .u32 0, .int .u32 0, .slice none 0 0] := hV.symm
        have hb8 : But (fun b => b = w.heap.size + 1) w3 V8 := by rw [hV9]; exact putRow_but (E := fun b => b = w.heap.size + 1) (n := w.heap.size + 1) rfl _ _ _ _ (But.refl _ _)
        have p8 := putRow_all [Value.int .u16 0, .bool false, .bool false, .int .u32 0, .int .u32 0, .slice none 0 0] r3 rfl
        rw [← hV9] at p8
        clear hV hV9
        have P8 := block_cell p8
        have hw8 : Below w.heap.size w V8 := (hw3).trans (hb8.below (hw3).size (fun k h e => by omega))
        exact bodyPost_ret (v := .tuple #[.agg zf.toArray, .int .i64 4]) (by simp [results, Tryz.results31, go_sem, P8]) rfl (⟨hw8, .inl ⟨by rw [HF.out]; decide, by rw [HF.out]⟩⟩)
       ·have HF : Hid (pge proto zs = 0) := by show _ = _; unfold pge; rw [if_neg (by simp [C1.out]), if_neg c2, HN.out, if_neg (by decide), HL.out, hgd.out, if_neg (by omega), if_neg (by omega)]
        have hH : 12 ≤ zs.length := by omega
        go_wp2_with fail
        refine (rget32_at _ zs hB 8 (by omega) hl w3 (hI.below hw3)).mono ?_
        rintro e x3 ⟨rfl, q, hq⟩
        have lx3 : Later w3 x3 := by rw [hq]; exact below_draw (Later.refl _) q
        clear hq
        have mx3 := (lx3.block mb (bl9 m3)).trans m3
        have rx3 := (lx3.block (w.heap.size + 1) (bl9 r3)).trans r3
        have hx3 := hw3.trans (lx3.mono hw3.size)
        have K3 := block_cell mx3
        have F3 := block_frozen mx3
        have my3 : (x3.setCell ⟨mb, 3, none⟩ (.int .u32 (getAt4 zs 8))).heap[mb]? = some (.cells #[.int .u16 g6, .bool true, .bool false, .int .u32 (getAt4 zs 8), .int .u32 0, .slice none 0 0] 68 (0, 0)) := heap_set1 mx3 3 _
        have by3 : But (fun b => b = mb) x3 (x3.setCell ⟨mb, 3, none⟩ (.int .u32 (getAt4 zs 8))) := (But.refl (fun b => b = mb) _).setCell (p := ⟨mb, 3, none⟩) rfl _
        have ry3 := (by3.block (w.heap.size + 1) (bl9 rx3) (by omega)).trans rx3
        have hy3 : Below w.heap.size w _ := hx3.trans (by3.below hx3.size (fun k hk e => by omega))
        have KY3 := block_cell my3
        go_upto_region 25 with fail
        clear K3 F3
        generalize x3.setCell ⟨mb, 3, none⟩ (.int .u32 (getAt4 zs 8)) = y3 at *
        go_cut [5] (fun p wx => p = .pointer (some ⟨mb, 0, none⟩) ∧ But (fun b => b = mb) y3 wx ∧ ∃ a3 c3, wx.heap[mb]? = some (.cells #[.int .u16 g6, .bool true, .bool false, .int .u32 (getAt4 zs 8), .int .u32 0, .slice a3 (zs.length - 12) c3] 68 (0, 0)) ∧ Ow (w.heap.size + 1 + 1) wx (.slice a3 (zs.length - 12) c3) (zs.drop 12))
        case first =>
         refine anyT_begin (R := But (fun b => b = mb)) 8 rfl (by kernel_rfl) ?_
         have hd : Later y3 y3.drew := Later.drew y3
         have md := (hd.block mb (bl9 my3)).trans my3
         have hwd : Below w.heap.size w y3.drew := hy3.trans (hd.mono hy3.size)
         generalize y3.drew = Wd at *
         have hs8 : Rd w.heap.size Wd (.slice (if cd = 12 then some (⟨b, off, none⟩ : Addr) else some ⟨b, off + 12, none⟩) (zs.length - 12) (cd - 12)) (zs.drop 12) := (hI.below hwd).cutAt 12 (by omega)
         generalize hE8 : (if cd = 12 then some (⟨b, off, none⟩ : Addr) else some ⟨b, off + 12, none⟩) = ad8 at *
         have i8 : (12 : Int) ≤ zs.length := by omega
         have i8c : (zs.length : Int) ≤ cd := by omega
         have i8n : ¬ zs.length < 12 := by omega
         refine tV (But.pre _) 0 rfl rfl ?_; apply Exists.intro; refine ⟨fun v1 hv1 => ?_, ?_⟩; (· (go_simp; rfl)); simp only [Act.put, sA, sB, sC]
         refine tV (But.pre _) 2 rfl rfl ?_; apply Exists.intro; refine ⟨fun v1 hv1 => ?_, ?_⟩; (· (go_simp; rfl)); simp only [Act.put, sA, sB, sC]
         refine tV (But.pre _) 3 rfl rfl ?_; apply Exists.intro; refine ⟨fun v1 hv1 => ?_, ?_⟩; (· (go_simp; rfl)); simp only [Act.put, sA, sB, sC]
         refine tV (But.pre _) 4 rfl rfl ⟨.slice ad8 (zs.length - 12) (cd - 12), fun v1 hv1 => by go_simp, ?_⟩
         simp only [Act.put, sA, sB, sC]
         refine anyT_one 1 rfl (by kernel_rfl) rfl ?_
         have kd := block_cell md
         unfold Oper.wp
         go_simp
         refine ⟨But.refl _ _, ?_⟩
         refine anyT_one 5 rfl (by kernel_rfl) rfl ?_
         obtain ⟨i0, hi, hz0, hz1, hz2⟩ := info_parts info_u8
         have hsd : w.heap.size + 1 + 1 ≤ Wd.heap.size := by have := (bl9 md); omega
         obtain ⟨v3, W3, hrun3, hown3, hgr3⟩ := run_app (P := Tryz.prog) Wd 24 24 5 (w.heap.size + 1 + 1) i0 Tryz.underlying24 hi hz0 hz1 hz2 (.slice none 0 0) [] (World.ownsRow_nil _ _ _ _) w.heap.size _ (zs.drop 12) hs8 (by simp; omega) hsd
         have hl3 : Later Wd W3 := (Below.refl _ Wd).grown hgr3 (Nat.le_refl _) (fun _ e => by cases e)
         have hO3 := Ow.of_row hown3
         rw [List.nil_append] at hO3
         clear hown3
         obtain ⟨a3, c3, rfl, hq3, hm3⟩ := hO3.slice
         rw [List.length_drop] at hO3 hrun3
         refine wp_app (.tmp 75) (.tmp 78) 24 rfl _ _ rfl rfl _ W3 hrun3 ⟨But.of hl3, ?_⟩
         simp only [Act.put, sA, sB, sC]
         refine tV (But.pre _) 6 rfl rfl ?_; apply Exists.intro; refine ⟨fun v1 hv1 => ?_, ?_⟩; (· (go_simp; rfl)); simp only [Act.put, sA, sB, sC]
         have m6 := (hl3.block mb (bl9 md)).trans md
         have k6 := block_cell m6
         have f6 : ∀ j, W3.frozen? ⟨mb, j, none⟩ = false := block_frozen m6
         clear kd
         refine anyT_one 7 rfl (by kernel_rfl) rfl ?_
         unfold Oper.wp
         go_simp
         refine ⟨(But.refl (fun b => b = mb) _).setCell (p := ⟨mb, 5, none⟩) rfl _, ?_⟩
         refine anyT_done (by kernel_rfl) ?_
         have m7 : (W3.setCell ⟨mb, 5, none⟩ (.slice a3 (zs.length - 12) c3)).heap[mb]? = some (.cells #[.int .u16 g6, .bool true, .bool false, .int .u32 (getAt4 zs 8), .int .u32 0, .slice a3 (zs.length - 12) c3] 68 (0, 0)) := heap_set1 m6 5 _
         have b7 : But (fun b => b = mb) y3 (W3.setCell ⟨mb, 5, none⟩ (.slice a3 (zs.length - 12) c3)) := (But.of (E := fun b => b = mb) (Later.trans hd hl3)).setCell (p := ⟨mb, 5, none⟩) rfl _
         have hO7 : Ow (w.heap.size + 1 + 1) (W3.setCell ⟨mb, 5, none⟩ (.slice a3 (zs.length - 12) c3)) (.slice a3 (zs.length - 12) c3) (zs.drop 12) := hO3.other m6 (by decide) ((But.refl (fun b => b = mb) _).setCell (p := ⟨mb, 5, none⟩) rfl _)
         go_wp2_with fail
         go_meet
         case rel => exact ⟨rfl, b7, a3, c3, m7, hO7⟩
        case rest =>
         obtain ⟨rfl, bc, a3, c3, mx, hOx⟩ := hcut
         have rx := (bc.block (w.heap.size + 1) (bl9 ry3) (by omega)).trans ry3
         have hwx := hy3.trans (bc.below hy3.size (fun k hk e => by omega))
         have MX := block_cell mx
         have RX := block_cell rx
         have FX := block_frozen rx
         go_wp2_with fail
         generalize hV : (((((wc.setCell ⟨w.heap.size + 1, 0, none⟩ _).setCell ⟨w.heap.size + 1, 1, none⟩ _).setCell ⟨w.heap.size + 1, 2, none⟩ _).setCell ⟨w.heap.size + 1, 3, none⟩ _).setCell ⟨w.heap.size + 1, 4, none⟩ _).setCell ⟨w.heap.size + 1, 5, none⟩ _ = V8
         have hV9 : V8 = putRow wc (w.heap.size + 1) 0 [Value.int .u16 g6, .bool true, .bool false, .int .u32 (getAt4 zs 8), .int .u32 0, .slice a3 (zs.length - 12) c3] := hV.symm
         have hb8 : But (fun b => b = w.heap.size + 1) wc V8 := by rw [hV9]; exact putRow_but (E := fun b => b = w.heap.size + 1) (n := w.heap.size + 1) rfl _ _ _ _ (But.refl _ _)
         have p8 := putRow_all [Value.int .u16 g6, .bool true, .bool false, .int .u32 (getAt4 zs 8), .int .u32 0, .slice a3 (zs.length - 12) c3] rx rfl
         rw [← hV9] at p8
         clear hV hV9
         have P8 := block_cell p8
         have hw8 : Below w.heap.size w V8 := (hwx).trans (hb8.below (hwx).size (fun k h e => by omega))
         exact bodyPost_ret (v := .tuple #[.agg #[.int .u16 g6, .bool true, .bool false, .int .u32 (getAt4 zs 8), .int .u32 0, .slice a3 (zs.length - 12) c3], .int .i64 0]) (by simp [results, Tryz.results31, go_sem, P8]) rfl (⟨hw8, .inr ⟨HF.out, a3, c3, by rw [HN.out, HG6.out]; rfl, by rw [HN.out]; exact (hOx.other rx (by decide) hb8).mono (by omega)⟩⟩)
     ·skip
      have e1 : hs = false := HHs.out.symm
      have e2 : ha = true := HHa.out.symm
      subst e1 e2
      have MC := block_cell mc
      go_wp2_with fail
      refine (rget16_at _ zs hB 4 (by omega) hl wc (hI.below hw2)).mono ?_
      rw [HG4.out]
      rintro e w3 ⟨rfl, q, hq⟩
      have l3 : Later wc w3 := by rw [hq]; exact below_draw (Later.refl _) q
      clear hq MC
      have m3 := (l3.block mb (bl9 mc)).trans mc
      have r3 := (l3.block (w.heap.size + 1) (bl9 r2)).trans r2
      have hw3 := hw2.trans (l3.mono hw2.size)
      have M3 := block_cell m3
      have hgd : Hid (ghd 2 = 12) := rfl
      by_cases c4 : (zs.length : Int) < 12 + L
      ·have HF : Hid (pge proto zs = 3) := by show _ = _; unfold pge; rw [if_neg (by simp [C1.out]), if_neg c2, HN.out, if_neg (by decide), HL.out, hgd.out, if_pos (by omega)]
       have RR := block_cell r3
       have FF := block_frozen r3
       go_wp2_with fail
       generalize hV : (((((w3.setCell ⟨w.heap.size + 1, 0, none⟩ _).setCell ⟨w.heap.size + 1, 1, none⟩ _).setCell ⟨w.heap.size + 1, 2, none⟩ _).setCell ⟨w.heap.size + 1, 3, none⟩ _).setCell ⟨w.heap.size + 1, 4, none⟩ _).setCell ⟨w.heap.size + 1, 5, none⟩ _ = V8
       have hV9 : V8 = putRow w3 (w.heap.size + 1) 0 [Value.int .u16 0, .bool false, .bool false, .int .u32 0, .int .u32 0, .slice none 0 0] := hV.symm
       have hb8 : But (fun b => b = w.heap.size + 1) w3 V8 := by rw [hV9]; exact putRow_but (E := fun b => b = w.heap.size + 1) (n := w.heap.size + 1) rfl _ _ _ _ (But.refl _ _)
       have p8 := putRow_all [Value.int .u16 0, .bool false, .bool false, .int .u32 0, .int .u32 0, .slice none 0 0] r3 rfl
       rw [← hV9] at p8
       clear hV hV9
       have P8 := block_cell p8
       have hw8 : Below w.heap.size w V8 := (hw3).trans (hb8.below (hw3).size (fun k h e => by omega))
       exact bodyPost_ret (v := .tuple #[.agg zf.toArray, .int .i64 3]) (by simp [results, Tryz.results31, go_sem, P8]) rfl (⟨hw8, .inl ⟨by rw [HF.out]; decide, by rw [HF.out]⟩⟩)
      ·by_cases c5 : 12 + L < (zs.length : Int)
       ·have HF : Hid (pge proto zs = 4) := by show _ = _; unfold pge; rw [if_neg (by simp [C1.out]), if_neg c2, HN.out, if_neg (by decide), HL.out, hgd.out, if_neg (by omega), if_pos (by omega)]
        have RR := block_cell r3
        have FF := block_frozen r3
        go_wp2_with fail
        generalize hV : (((((w3.setCell ⟨w.heap.size + 1, 0, none⟩ _).setCell ⟨w.heap.size + 1, 1, none⟩ _).setCell ⟨w.heap.size + 1, 2, none⟩ _).setCell ⟨w.heap.size + 1, 3, none⟩ _).setCell ⟨w.heap.size + 1, 4, none⟩ _).setCell ⟨w.heap.size + 1, 5, none⟩ _ = V8
        have hV9 : V8 = putRow w3 (w.heap.size + 1) 0 [Value.int .u16 0, .bool false, .bool false, .int .u32 0, .int .u32 0, .slice none 0 0] := hV.symm
        have hb8 : But (fun b => b = w.heap.size + 1) w3 V8 := by rw [hV9]; exact putRow_but (E := fun b => b = w.heap.size + 1) (n := w.heap.size + 1) rfl _ _ _ _ (But.refl _ _)
        have p8 := putRow_all [Value.int .u16 0, .bool false, .bool false, .int .u32 0, .int .u32 0, .slice none 0 0] r3 rfl
        rw [← hV9] at p8
        clear hV hV9
        have P8 := block_cell p8
        have hw8 : Below w.heap.size w V8 := (hw3).trans (hb8.below (hw3).size (fun k h e => by omega))
        exact bodyPost_ret (v := .tuple #[.agg zf.toArray, .int .i64 4]) (by simp [results, Tryz.results31, go_sem, P8]) rfl (⟨hw8, .inl ⟨by rw [HF.out]; decide, by rw [HF.out]⟩⟩)
       ·have HF : Hid (pge proto zs = 0) := by show _ = _; unfold pge; rw [if_neg (by simp [C1.out]), if_neg c2, HN.out, if_neg (by decide), HL.out, hgd.out, if_neg (by omega), if_neg (by omega)]
        have hH : 12 ≤ zs.length := by omega
        go_wp2_with fail
        refine (rget32_at _ zs hB 8 (by omega) hl w3 (hI.below hw3)).mono ?_
        rintro e x3 ⟨rfl, q, hq⟩
        have lx3 : Later w3 x3 := by rw [hq]; exact below_draw (Later.refl _) q
        clear hq
        have mx3 := (lx3.block mb (bl9 m3)).trans m3
        have rx3 := (lx3.block (w.heap.size + 1) (bl9 r3)).trans r3
        have hx3 := hw3.trans (lx3.mono hw3.size)
        have K3 := block_cell mx3
        have F3 := block_frozen mx3
        have my3 : (x3.setCell ⟨mb, 4, none⟩ (.int .u32 (getAt4 zs 8))).heap[mb]? = some (.cells #[.int .u16 g6, .bool false, .bool true, .int .u32 0, .int .u32 (getAt4 zs 8), .slice none 0 0] 68 (0, 0)) := heap_set1 mx3 4 _
        have by3 : But (fun b => b = mb) x3 (x3.setCell ⟨mb, 4, none⟩ (.int .u32 (getAt4 zs 8))) := (But.refl (fun b => b = mb) _).setCell (p := ⟨mb, 4, none⟩) rfl _
        have ry3 := (by3.block (w.heap.size + 1) (bl9 rx3) (by omega)).trans rx3
        have hy3 : Below w.heap.size w _ := hx3.trans (by3.below hx3.size (fun k hk e => by omega))
        have KY3 := block_cell my3
        go_upto_region 25 with fail
        clear K3 F3
        generalize x3.setCell ⟨mb, 4, none⟩ (.int .u32 (getAt4 zs 8)) = y3 at *
        go_cut [5] (fun p wx => p = .pointer (some ⟨mb, 0, none⟩) ∧ But (fun b => b = mb) y3 wx ∧ ∃ a3 c3, wx.heap[mb]? = some (.cells #[.int .u16 g6, .bool false, .bool true, .int .u32 0, .int .u32 (getAt4 zs 8), .slice a3 (zs.length - 12) c3] 68 (0, 0)) ∧ Ow (w.heap.size + 1 + 1) wx (.slice a3 (zs.length - 12) c3) (zs.drop 12))
        case first =>
         refine anyT_begin (R := But (fun b => b = mb)) 8 rfl (by kernel_rfl) ?_
         have hd : Later y3 y3.drew := Later.drew y3
         have md := (hd.block mb (bl9 my3)).trans my3
         have hwd : Below w.heap.size w y3.drew := hy3.trans (hd.mono hy3.size)
         generalize y3.drew = Wd at *
         have hs8 : Rd w.heap.size Wd (.slice (if cd = 12 then some (⟨b, off, none⟩ : Addr) else some ⟨b, off + 12, none⟩) (zs.length - 12) (cd - 12)) (zs.drop 12) := (hI.below hwd).cutAt 12 (by omega)
         generalize hE8 : (if cd = 12 then some (⟨b, off, none⟩ : Addr) else some ⟨b, off + 12, none⟩) = ad8 at *
         have i8 : (12 : Int) ≤ zs.length := by omega
         have i8c : (zs.length : Int) ≤ cd := by omega
         have i8n : ¬ zs.length < 12 := by omega
         refine tV (But.pre _) 0 rfl rfl ?_; apply Exists.intro; refine ⟨fun v1 hv1 => ?_, ?_⟩; (· (go_simp; rfl)); simp only [Act.put, sA, sB, sC]
         refine tV (But.pre _) 2 rfl rfl ?_; apply Exists.intro; refine ⟨fun v1 hv1 => ?_, ?_⟩; (· (go_simp; rfl)); simp only [Act.put, sA, sB, sC]
         refine tV (But.pre _) 3 rfl rfl ?_; apply Exists.intro; refine ⟨fun v1 hv1 => ?_, ?_⟩; (· (go_simp; rfl)); simp only [Act.put, sA, sB, sC]
         refine tV (But.pre _) 4 rfl rfl ⟨.slice ad8 (zs.length - 12) (cd - 12), fun v1 hv1 => by go_simp, ?_⟩
         simp only [Act.put, sA, sB, sC]
         refine anyT_one 1 rfl (by kernel_rfl) rfl ?_
         have kd := block_cell md
         unfold Oper.wp
         go_simp
         refine ⟨But.refl _ _, ?_⟩
         refine anyT_one 5 rfl (by kernel_rfl) rfl ?_
         obtain ⟨i0, hi, hz0, hz1, hz2⟩ := info_parts info_u8
         have hsd : w.heap.size + 1 + 1 ≤ Wd.heap.size := by have := (bl9 md); omega
         obtain ⟨v3, W3, hrun3, hown3, hgr3⟩ := run_app (P := Tryz.prog) Wd 24 24 5 (w.heap.size + 1 + 1) i0 Tryz.underlying24 hi hz0 hz1 hz2 (.slice none 0 0) [] (World.ownsRow_nil _ _ _ _) w.heap.size _ (zs.drop 12) hs8 (by simp; omega) hsd
         have hl3 : Later Wd W3 := (Below.refl _ Wd).grown hgr3 (Nat.le_refl _) (fun _ e => by cases e)
         have hO3 := Ow.of_row hown3
         rw [List.nil_append] at hO3
         clear hown3
         obtain ⟨a3, c3, rfl, hq3, hm3⟩ := hO3.slice
         rw [List.length_drop] at hO3 hrun3
         refine wp_app (.tmp 75) (.tmp 78) 24 rfl _ _ rfl rfl _ W3 hrun3 ⟨But.of hl3, ?_⟩
         simp only [Act.put, sA, sB, sC]
         refine tV (But.pre _) 6 rfl rfl ?_; apply Exists.intro; refine ⟨fun v1 hv1 => ?_, ?_⟩; (· (go_simp; rfl)); simp only [Act.put, sA, sB, sC]
         have m6 := (hl3.block mb (bl9 md)).trans md
         have k6 := block_cell m6
         have f6 : ∀ j, W3.frozen? ⟨mb, j, none⟩ = false := block_frozen m6
         clear kd
         refine anyT_one 7 rfl (by kernel_rfl) rfl ?_
         unfold Oper.wp
         go_simp
         refine ⟨(But.refl (fun b => b = mb) _).setCell (p := ⟨mb, 5, none⟩) rfl _, ?_⟩
         refine anyT_done (by kernel_rfl) ?_
         have m7 : (W3.setCell ⟨mb, 5, none⟩ (.slice a3 (zs.length - 12) c3)).heap[mb]? = some (.cells #[.int .u16 g6, .bool false, .bool true, .int .u32 0, .int .u32 (getAt4 zs 8), .slice a3 (zs.length - 12) c3] 68 (0, 0)) := heap_set1 m6 5 _
         have b7 : But (fun b => b = mb) y3 (W3.setCell ⟨mb, 5, none⟩ (.slice a3 (zs.length - 12) c3)) := (But.of (E := fun b => b = mb) (Later.trans hd hl3)).setCell (p := ⟨mb, 5, none⟩) rfl _
         have hO7 : Ow (w.heap.size + 1 + 1) (W3.setCell ⟨mb, 5, none⟩ (.slice a3 (zs.length - 12) c3)) (.slice a3 (zs.length - 12) c3) (zs.drop 12) := hO3.other m6 (by decide) ((But.refl (fun b => b = mb) _).setCell (p := ⟨mb, 5, none⟩) rfl _)
         go_wp2_with fail
         go_meet
         case rel => exact ⟨rfl, b7, a3, c3, m7, hO7⟩
        case rest =>
         obtain ⟨rfl, bc, a3, c3, mx, hOx⟩ := hcut
         have rx := (bc.block (w.heap.size + 1) (bl9 ry3) (by omega)).trans ry3
         have hwx := hy3.trans (bc.below hy3.size (fun k hk e => by omega))
         have MX := block_cell mx
         have RX := block_cell rx
         have FX := block_frozen rx
         go_wp2_with fail
         generalize hV : (((((wc.setCell ⟨w.heap.size + 1, 0, none⟩ _).setCell ⟨w.heap.size + 1, 1, none⟩ _).setCell ⟨w.heap.size + 1, 2, none⟩ _).setCell ⟨w.heap.size + 1, 3, none⟩ _).setCell ⟨w.heap.size + 1, 4, none⟩ _).setCell ⟨w.heap.size + 1, 5, none⟩ _ = V8
         have hV9 : V8 = putRow wc (w.heap.size + 1) 0 [Value.int .u16 g6, .bool false, .bool true, .int .u32 0, .int .u32 (getAt4 zs 8), .slice a3 (zs.length - 12) c3] := hV.symm
         have hb8 : But (fun b => b = w.heap.size + 1) wc V8 := by rw [hV9]; exact putRow_but (E := fun b => b = w.heap.size + 1) (n := w.heap.size + 1) rfl _ _ _ _ (But.refl _ _)
         have p8 := putRow_all [Value.int .u16 g6, .bool false, .bool true, .int .u32 0, .int .u32 (getAt4 zs 8), .slice a3 (zs.length - 12) c3] rx rfl
         rw [← hV9] at p8
         clear hV hV9
         have P8 := block_cell p8
         have hw8 : Below w.heap.size w V8 := (hwx).trans (hb8.below (hwx).size (fun k h e => by omega))
         exact bodyPost_ret (v := .tuple #[.agg #[.int .u16 g6, .bool false, .bool true, .int .u32 0, .int .u32 (getAt4 zs 8), .slice a3 (zs.length - 12) c3], .int .i64 0]) (by simp [results, Tryz.results31, go_sem, P8]) rfl (⟨hw8, .inr ⟨HF.out, a3, c3, by rw [HN.out, HG6.out]; rfl, by rw [HN.out]; exact (hOx.other rx (by decide) hb8).mono (by omega)⟩⟩)
     ·skip
      have e1 : hs = true := HHs.out.symm
      have e2 : ha = true := HHa.out.symm
      subst e1 e2
      have MC := block_cell mc
      go_wp2_with fail
      refine (rget16_at _ zs hB 4 (by omega) hl wc (hI.below hw2)).mono ?_
      rw [HG4.out]
      rintro e w3 ⟨rfl, q, hq⟩
      have l3 : Later wc w3 := by rw [hq]; exact below_draw (Later.refl _) q
      clear hq MC
      have m3 := (l3.block mb (bl9 mc)).trans mc
      have r3 := (l3.block (w.heap.size + 1) (bl9 r2)).trans r2
      have hw3 := hw2.trans (l3.mono hw2.size)
      have M3 := block_cell m3
      have hgd : Hid (ghd 3 = 16) := rfl
      by_cases c4 : (zs.length : Int) < 16 + L
      ·have HF : Hid (pge proto zs = 3) := by show _ = _; unfold pge; rw [if_neg (by simp [C1.out]), if_neg c2, HN.out, if_neg (by decide), HL.out, hgd.out, if_pos (by omega)]
       have RR := block_cell r3
       have FF := block_frozen r3
       go_wp2_with fail
       generalize hV : (((((w3.setCell ⟨w.heap.size + 1, 0, none⟩ _).setCell ⟨w.heap.size + 1, 1, none⟩ _).setCell ⟨w.heap.size + 1, 2, none⟩ _).setCell ⟨w.heap.size + 1, 3, none⟩ _).setCell ⟨w.heap.size + 1, 4, none⟩ _).setCell ⟨w.heap.size + 1, 5, none⟩ _ = V8
       have hV9 : V8 = putRow w3 (w.heap.size + 1) 0 [Value.int .u16 0, .bool false, .bool false, .int .u32 0, .int .u32 0, .slice none 0 0] := hV.symm
       have hb8 : But (fun b => b = w.heap.size + 1) w3 V8 := by rw [hV9]; exact putRow_but (E := fun b => b = w.heap.size + 1) (n := w.heap.size + 1) rfl _ _ _ _ (But.refl _ _)
       have p8 := putRow_all [Value.int .u16 0, .bool false, .bool false, .int .u32 0, .int .u32 0, .slice none 0 0] r3 rfl
       rw [← hV9] at p8
       clear hV hV9
       have P8 := block_cell p8
       have hw8 : Below w.heap.size w V8 := (hw3).trans (hb8.below (hw3).size (fun k h e => by omega))
       exact bodyPost_ret (v := .tuple #[.agg zf.toArray, .int .i64 3]) (by simp [results, Tryz.results31, go_sem, P8]) rfl (⟨hw8, .inl ⟨by rw [HF.out]; decide, by rw [HF.out]⟩⟩)
      ·by_cases c5 : 16 + L < (zs.length : Int)
       ·have HF : Hid (pge proto zs = 4) := by show _ = _; unfold pge; rw [if_neg (by simp [C1.out]), if_neg c2, HN.out, if_neg (by decide), HL.out, hgd.out, if_neg (by omega), if_pos (by omega)]
        have RR := block_cell r3
        have FF := block_frozen r3
        go_wp2_with fail
        generalize hV : (((((w3.setCell ⟨w.heap.size + 1, 0, none⟩ _).setCell ⟨w.heap.size + 1, 1, none⟩ _).setCell ⟨w.heap.size + 1, 2, none⟩ _).setCell ⟨w.heap.size + 1, 3, none⟩ _).setCell ⟨w.heap.size + 1, 4, none⟩ _).setCell ⟨w.heap.size + 1, 5, none⟩ _ = V8
        have hV9 : V8 = putRow w3 (w.heap.size + 1) 0 [Value.int .u16 0, .bool false, .bool false, .int .u32 0, .int .u32 0, .slice none 0 0] := hV.symm
        have hb8 : But (fun b => b = w.heap.size + 1) w3 V8 := by rw [hV9]; exact putRow_but (E := fun b => b = w.heap.size + 1) (n := w.heap.size + 1) rfl _ _ _ _ (But.refl _ _)
        have p8 := putRow_all [Value.int .u16 0, .bool false, .bool false, .int .u32 0, .int .u32 0, .slice none 0 0] r3 rfl
        rw [← hV9] at p8
        clear hV hV9
        have P8 := block_cell p8
        have hw8 : Below w.heap.size w V8 := (hw3).trans (hb8.below (hw3).size (fun k h e => by omega))
        exact bodyPost_ret (v := .tuple #[.agg zf.toArray, .int .i64 4]) (by simp [results, Tryz.results31, go_sem, P8]) rfl (⟨hw8, .inl ⟨by rw [HF.out]; decide, by rw [HF.out]⟩⟩)
       ·have HF : Hid (pge proto zs = 0) := by show _ = _; unfold pge; rw [if_neg (by simp [C1.out]), if_neg c2, HN.out, if_neg (by decide), HL.out, hgd.out, if_neg (by omega), if_neg (by omega)]
        have hH : 16 ≤ zs.length := by omega
        go_wp2_with fail
        refine (rget32_at _ zs hB 8 (by omega) hl w3 (hI.below hw3)).mono ?_
        rintro e x3 ⟨rfl, q, hq⟩
        have lx3 : Later w3 x3 := by rw [hq]; exact below_draw (Later.refl _) q
        clear hq
        have mx3 := (lx3.block mb (bl9 m3)).trans m3
        have rx3 := (lx3.block (w.heap.size + 1) (bl9 r3)).trans r3
        have hx3 := hw3.trans (lx3.mono hw3.size)
        have K3 := block_cell mx3
        have F3 := block_frozen mx3
        have my3 : (x3.setCell ⟨mb, 3, none⟩ (.int .u32 (getAt4 zs 8))).heap[mb]? = some (.cells #[.int .u16 g6, .bool true, .bool true, .int .u32 (getAt4 zs 8), .int .u32 0, .slice none 0 0] 68 (0, 0)) := heap_set1 mx3 3 _
        have by3 : But (fun b => b = mb) x3 (x3.setCell ⟨mb, 3, none⟩ (.int .u32 (getAt4 zs 8))) := (But.refl (fun b => b = mb) _).setCell (p := ⟨mb, 3, none⟩) rfl _
        have ry3 := (by3.block (w.heap.size + 1) (bl9 rx3) (by omega)).trans rx3
        have hy3 : Below w.heap.size w _ := hx3.trans (by3.below hx3.size (fun k hk e => by omega))
        have KY3 := block_cell my3
        go_wp2_with fail
        clear K3 F3
        generalize x3.setCell ⟨mb, 3, none⟩ (.int .u32 (getAt4 zs 8)) = y3 at *
        refine (rget32_at _ zs hB 12 (by omega) hl y3 (hI.below hy3)).mono ?_
        rintro e x4 ⟨rfl, q, hq⟩
        have lx4 : Later y3 x4 := by rw [hq]; exact below_draw (Later.refl _) q
        clear hq
        have mx4 := (lx4.block mb (bl9 my3)).trans my3
        have rx4 := (lx4.block (w.heap.size + 1) (bl9 ry3)).trans ry3
        have hx4 := hy3.trans (lx4.mono hy3.size)
        have K4 := block_cell mx4
        have F4 := block_frozen mx4
        have my4 : (x4.setCell ⟨mb, 4, none⟩ (.int .u32 (getAt4 zs 12))).heap[mb]? = some (.cells #[.int .u16 g6, .bool true, .bool true, .int .u32 (getAt4 zs 8), .int .u32 (getAt4 zs 12), .slice none 0 0] 68 (0, 0)) := heap_set1 mx4 4 _
        have by4 : But (fun b => b = mb) x4 (x4.setCell ⟨mb, 4, none⟩ (.int .u32 (getAt4 zs 12))) := (But.refl (fun b => b = mb) _).setCell (p := ⟨mb, 4, none⟩) rfl _
        have ry4 := (by4.block (w.heap.size + 1) (bl9 rx4) (by omega)).trans rx4
        have hy4 : Below w.heap.size w _ := hx4.trans (by4.below hx4.size (fun k hk e => by omega))
        have KY4 := block_cell my4
        go_upto_region 25 with fail
        clear K4 F4
        generalize x4.setCell ⟨mb, 4, none⟩ (.int .u32 (getAt4 zs 12)) = y4 at *
        go_cut [5] (fun p wx => p = .pointer (some ⟨mb, 0, none⟩) ∧ But (fun b => b = mb) y4 wx ∧ ∃ a3 c3, wx.heap[mb]? = some (.cells #[.int .u16 g6, .bool true, .bool true, .int .u32 (getAt4 zs 8), .int .u32 (getAt4 zs 12), .slice a3 (zs.length - 16) c3] 68 (0, 0)) ∧ Ow (w.heap.size + 1 + 1) wx (.slice a3 (zs.length - 16) c3) (zs.drop 16))
        case first =>
         refine anyT_begin (R := But (fun b => b = mb)) 8 rfl (by kernel_rfl) ?_
         have hd : Later y4 y4.drew := Later.drew y4
         have md := (hd.block mb (bl9 my4)).trans my4
         have hwd : Below w.heap.size w y4.drew := hy4.trans (hd.mono hy4.size)
         generalize y4.drew = Wd at *
         have hs8 : Rd w.heap.size Wd (.slice (if cd = 16 then some (⟨b, off, none⟩ : Addr) else some ⟨b, off + 16, none⟩) (zs.length - 16) (cd - 16)) (zs.drop 16) := (hI.below hwd).cutAt 16 (by omega)
         generalize hE8 : (if cd = 16 then some (⟨b, off, none⟩ : Addr) else some ⟨b, off + 16, none⟩) = ad8 at *
         have i8 : (16 : Int) ≤ zs.length := by omega
         have i8c : (zs.length : Int) ≤ cd := by omega
         have i8n : ¬ zs.length < 16 := by omega
         refine tV (But.pre _) 0 rfl rfl ?_; apply Exists.intro; refine ⟨fun v1 hv1 => ?_, ?_⟩; (· (go_simp; rfl)); simp only [Act.put, sA, sB, sC]
         refine tV (But.pre _) 2 rfl rfl ?_; apply Exists.intro; refine ⟨fun v1 hv1 => ?_, ?_⟩; (· (go_simp; rfl)); simp only [Act.put, sA, sB, sC]
         refine tV (But.pre _) 3 rfl rfl ?_; apply Exists.intro; refine ⟨fun v1 hv1 => ?_, ?_⟩; (· (go_simp; rfl)); simp only [Act.put, sA, sB, sC]
         refine tV (But.pre _) 4 rfl rfl ⟨.slice ad8 (zs.length - 16) (cd - 16), fun v1 hv1 => by go_simp, ?_⟩
         simp only [Act.put, sA, sB, sC]
         refine anyT_one 1 rfl (by kernel_rfl) rfl ?_
         have kd := block_cell md
         unfold Oper.wp
         go_simp
         refine ⟨But.refl _ _, ?_⟩
         refine anyT_one 5 rfl (by kernel_rfl) rfl ?_
         obtain ⟨i0, hi, hz0, hz1, hz2⟩ := info_parts info_u8
         have hsd : w.heap.size + 1 + 1 ≤ Wd.heap.size := by have := (bl9 md); omega
         obtain ⟨v3, W3, hrun3, hown3, hgr3⟩ := run_app (P := Tryz.prog) Wd 24 24 5 (w.heap.size + 1 + 1) i0 Tryz.underlying24 hi hz0 hz1 hz2 (.slice none 0 0) [] (World.ownsRow_nil _ _ _ _) w.heap.size _ (zs.drop 16) hs8 (by simp; omega) hsd
         have hl3 : Later Wd W3 := (Below.refl _ Wd).grown hgr3 (Nat.le_refl _) (fun _ e => by cases e)
         have hO3 := Ow.of_row hown3
         rw [List.nil_append] at hO3
         clear hown3
         obtain ⟨a3, c3, rfl, hq3, hm3⟩ := hO3.slice
         rw [List.length_drop] at hO3 hrun3
         refine wp_app (.tmp 75) (.tmp 78) 24 rfl _ _ rfl rfl _ W3 hrun3 ⟨But.of hl3, ?_⟩
         simp only [Act.put, sA, sB, sC]
         refine tV (But.pre _) 6 rfl rfl ?_; apply Exists.intro; refine ⟨fun v1 hv1 => ?_, ?_⟩; (· (go_simp; rfl)); simp only [Act.put, sA, sB, sC]
         have m6 := (hl3.block mb (bl9 md)).trans md
         have k6 := block_cell m6
         have f6 : ∀ j, W3.frozen? ⟨mb, j, none⟩ = false := block_frozen m6
         clear kd
         refine anyT_one 7 rfl (by kernel_rfl) rfl ?_
         unfold Oper.wp
         go_simp
         refine ⟨(But.refl (fun b => b = mb) _).setCell (p := ⟨mb, 5, none⟩) rfl _, ?_⟩
         refine anyT_done (by kernel_rfl) ?_
         have m7 : (W3.setCell ⟨mb, 5, none⟩ (.slice a3 (zs.length - 16) c3)).heap[mb]? = some (.cells #[.int .u16 g6, .bool true, .bool true, .int .u32 (getAt4 zs 8), .int .u32 (getAt4 zs 12), .slice a3 (zs.length - 16) c3] 68 (0, 0)) := heap_set1 m6 5 _
         have b7 : But (fun b => b = mb) y4 (W3.setCell ⟨mb, 5, none⟩ (.slice a3 (zs.length - 16) c3)) := (But.of (E := fun b => b = mb) (Later.trans hd hl3)).setCell (p := ⟨mb, 5, none⟩) rfl _
         have hO7 : Ow (w.heap.size + 1 + 1) (W3.setCell ⟨mb, 5, none⟩ (.slice a3 (zs.length - 16) c3)) (.slice a3 (zs.length - 16) c3) (zs.drop 16) := hO3.other m6 (by decide) ((But.refl (fun b => b = mb) _).setCell (p := ⟨mb, 5, none⟩) rfl _)
         go_wp2_with fail
         go_meet
         case rel => exact ⟨rfl, b7, a3, c3, m7, hO7⟩
        case rest =>
         obtain ⟨rfl, bc, a3, c3, mx, hOx⟩ := hcut
         have rx := (bc.block (w.heap.size + 1) (bl9 ry4) (by omega)).trans ry4
         have hwx := hy4.trans (bc.below hy4.size (fun k hk e => by omega))
         have MX := block_cell mx
         have RX := block_cell rx
         have FX := block_frozen rx
         go_wp2_with fail
         generalize hV : (((((wc.setCell ⟨w.heap.size + 1, 0, none⟩ _).setCell ⟨w.heap.size + 1, 1, none⟩ _).setCell ⟨w.heap.size + 1, 2, none⟩ _).setCell ⟨w.heap.size + 1, 3, none⟩ _).setCell ⟨w.heap.size + 1, 4, none⟩ _).setCell ⟨w.heap.size + 1, 5, none⟩ _ = V8
         have hV9 : V8 = putRow wc (w.heap.size + 1) 0 [Value.int .u16 g6, .bool true, .bool true, .int .u32 (getAt4 zs 8), .int .u32 (getAt4 zs 12), .slice a3 (zs.length - 16) c3] := hV.symm
         have hb8 : But (fun b => b = w.heap.size + 1) wc V8 := by rw [hV9]; exact putRow_but (E := fun b => b = w.heap.size + 1) (n := w.heap.size + 1) rfl _ _ _ _ (But.refl _ _)
         have p8 := putRow_all [Value.int .u16 g6, .bool true, .bool true, .int .u32 (getAt4 zs 8), .int .u32 (getAt4 zs 12), .slice a3 (zs.length - 16) c3] rx rfl
         rw [← hV9] at p8
         clear hV hV9
         have P8 := block_cell p8
         have hw8 : Below w.heap.size w V8 := (hwx).trans (hb8.below (hwx).size (fun k h e => by omega))
         exact bodyPost_ret (v := .tuple #[.agg #[.int .u16 g6, .bool true, .bool true, .int .u32 (getAt4 zs 8), .int .u32 (getAt4 zs 12), .slice a3 (zs.length - 16) c3], .int .i64 0]) (by simp [results, Tryz.results31, go_sem, P8]) rfl (⟨hw8, .inr ⟨HF.out, a3, c3, by rw [HN.out, HG6.out]; rfl, by rw [HN.out]; exact (hOx.other rx (by decide) hb8).mono (by omega)⟩⟩)
 ·have t1 : (proto != 47) = true := by simp [c1]
  have HF : Hid (pge proto zs = 12) := by show _ = _; unfold pge; rw [if_pos (by simp [c1])]
  go_enter Tryz.func31, Tryz.ntmps31
  go_wp2_with fail
  exact bodyPost_ret (v := .tuple #[.agg zf.toArray, .int .i64 12]) (by simp [results, Tryz.results31, go_sem]) rfl ⟨hb0, .inl ⟨by rw [HF.out]; decide, by rw [HF.out]⟩⟩
end Go.Proofs.YtghpakfjpdifaaaGreatDoor

/- The document's kinds of messages; the walk of the law CtrlKinds. -/
namespace Go.Proofs.YtghpakfjpdifaaaGreatDoor
open Go.RowKit Go.Shelf
set_option maxRecDepth 100000
set_option linter.unusedVariables false
set_option linter.unusedSimpArgs false

set_option maxHeartbeats 1000000 in
theorem risEcho_any (ty cde rest : Int) (sm : Value) (w : World) :
  Calls Tryz.prog 30 #[.agg #[.int .u8 ty, .int .u8 cde, .int .u32 rest, sm]] w fun e w' => e = .returned (.bool ((ty == 8 || ty == 0) && cde == 0)) ∧ Below w.heap.size w w' := by
 have hbox : Below w.heap.size w (w.alloc (.cells #[.int .u8 ty, .int .u8 cde, .int .u32 rest, sm] 42)) := (Below.refl _ _).alloc (Nat.le_refl _) _
 cases h3 : (cde == 0)
 ·cases h1 : (ty == 8)
  ·cases h2 : (ty == 0)
   ·go_enter Tryz.func30, Tryz.ntmps30
    go_wp2
    go_ret
    exact ⟨by simp, hbox⟩
   ·go_enter Tryz.func30, Tryz.ntmps30
    go_wp2
    go_ret
    exact ⟨by simp, hbox⟩
  ·go_enter Tryz.func30, Tryz.ntmps30
   go_wp2
   go_ret
   exact ⟨by simp, hbox⟩
 ·cases h1 : (ty == 8)
  ·cases h2 : (ty == 0)
   ·go_enter Tryz.func30, Tryz.ntmps30
    go_wp2
    go_ret
    exact ⟨by simp, hbox⟩
   ·go_enter Tryz.func30, Tryz.ntmps30
    go_wp2
    go_ret
    exact ⟨by simp, hbox⟩
  ·go_enter Tryz.func30, Tryz.ntmps30
   go_wp2
   go_ret
   exact ⟨by simp, hbox⟩

end Go.Proofs.YtghpakfjpdifaaaGreatDoor

/- Layer 5: Of in one form; the document's Of. -/
namespace Go.Proofs.YtghpakfjpdifaaaGreatDoor
open Go.RowKit Go.Shelf
set_option maxRecDepth 100000
set_option linter.unusedVariables false
set_option linter.unusedSimpArgs false

def ofe (proto src dst : Int) (zd : List Int) : Int := if proto = 6 then pte 6 src dst zd else if proto = 17 then pue 17 src dst zd else if proto = 1 then oie zd else if proto = 47 then pge 47 zd else 12
def ofa (proto : Int) (zd : List Int) : Int := if proto = 6 then wat zd 0 else if proto = 17 then wat zd 0 else if proto = 1 then wat zd 4 else 0
def ofb (proto : Int) (zd : List Int) : Int := if proto = 6 then wat zd 2 else if proto = 17 then wat zd 2 else if proto = 1 then wat zd 4 else getAt2 zd 6

set_option maxHeartbeats 2000000 in
theorem of_any (tos id ttl proto src dst : Int) (keep : Bool) (so sd : Value) (zd : List Int) (w : World) (hT : Tb w) (hB : Mt.By zd) (hI : Rd w.heap.size w sd zd) (hl : 12 + zd.length ≤ 140737488355328) (hsr : 0 ≤ src ∧ src ≤ 4294967295) (hds : 0 ≤ dst ∧ dst ≤ 4294967295) :
  Calls Tryz.prog 70 #[.agg #[.int .u8 tos, .int .u16 id, .bool keep, .int .u8 ttl, .int .u8 proto, .int .u32 src, .int .u32 dst, so, sd]] w fun e w' => Below w.heap.size w w' ∧ e = .returned (.tuple #[otv (ofe proto src dst zd) proto src dst (ofa proto zd) (ofb proto zd), .int .i64 (ofe proto src dst zd)]) := by
 obtain ⟨ad, cd, rfl, _, _⟩ := hI.slice
 by_cases h6 : proto = 6
 ·subst h6
  exact of_gen 6 (wat zd 0) (wat zd 2) (pte 6 src dst zd) _ _ tos id ttl src dst keep so ad zd.length cd w (fun _ _ h => look_tcp h) cf_tcp (fun w' hb => ofTcp_any tos id ttl 6 src dst keep so _ zd w' hB ((hI.below hb).mono hb.size) hl hsr hds)
 by_cases h17 : proto = 17
 ·subst h17
  exact of_gen 17 (wat zd 0) (wat zd 2) (pue 17 src dst zd) _ _ tos id ttl src dst keep so ad zd.length cd w (fun _ _ h => look_udp h) cf_udp (fun w' hb => ofUdp_any tos id ttl 17 src dst keep so _ zd w' hB ((hI.below hb).mono hb.size) hl hsr hds)
 by_cases h1 : proto = 1
 ·subst h1
  exact of_gen 1 (wat zd 4) (wat zd 4) (oie zd) _ _ tos id ttl src dst keep so ad zd.length cd w (fun _ _ h => look_icmp h) cf_icmp (fun w' hb => ofIcmp_any tos id ttl src dst keep so _ zd w' hB ((hI.below hb).mono hb.size) (by omega))
 by_cases h47 : proto = 47
 ·subst h47
  exact of_gen 47 0 (getAt2 zd 6) (pge 47 zd) _ _ tos id ttl src dst keep so ad zd.length cd w (fun _ _ h => look_gre h) cf_gre (fun w' hb => ofGre_any tos id ttl 47 src dst keep so _ zd w' (hT.below hb hT.pos) hB ((hI.below hb).mono hb.size) hl hsr hds)
 have he : ofe proto src dst zd = 12 := by unfold ofe; rw [if_neg h6, if_neg h17, if_neg h1, if_neg h47]
 rw [he]
 exact of_other proto tos id ttl src dst keep so ad zd.length cd w ⟨h6, h17, h1, h47⟩

set_option maxHeartbeats 4000000 in
theorem rof_tcp (tos id ttl src dst : Int) (keep : Bool) (so sd : Value) (zd : List Int) (w : World) (hB : Mt.By zd) (hI : Rd w.heap.size w sd zd) (hl : 12 + zd.length ≤ 1099511627776) (hsr : 0 ≤ src ∧ src ≤ 4294967295) (hds : 0 ≤ dst ∧ dst ≤ 4294967295) :
  Calls Tryz.prog 9 #[.agg #[.int .u8 tos, .int .u16 id, .bool keep, .int .u8 ttl, .int .u8 6, .int .u32 src, .int .u32 dst, so, sd]] w fun e w' => Below w.heap.size w w' ∧ e = .returned (.tuple #[otv (ofe 6 src dst zd) 6 src dst (ofa 6 zd) (ofb 6 zd), .int .i64 (ofe 6 src dst zd)]) := by
 rw [show ofe 6 src dst zd = pte 6 src dst zd from rfl,show ofa 6 zd = wat zd 0 from rfl,show ofb 6 zd = wat zd 2 from rfl]
 obtain ⟨ad, cd, rfl, _, _⟩ := hI.slice
 have hb0 : Below w.heap.size w (((w.alloc (.cells #[.int .u8 tos, .int .u16 id, .bool keep, .int .u8 ttl, .int .u8 6, .int .u32 src, .int .u32 dst, so, .slice ad zd.length cd] 26)).alloc (.cells #[.int .u8 0, .int .u32 0, .int .u32 0, .int .u16 0, .int .u16 0] 29)).alloc (.cells #[.int .u8 6, .int .u32 src, .int .u32 dst, .int .u16 0, .int .u16 0] 29)) := ((((Below.refl _ _).alloc (Nat.le_refl _) _).alloc (by simp) _).alloc (by simp <;> omega) _)
 have r0 : (((w.alloc (.cells #[.int .u8 tos, .int .u16 id, .bool keep, .int .u8 ttl, .int .u8 6, .int .u32 src, .int .u32 dst, so, .slice ad zd.length cd] 26)).alloc (.cells #[.int .u8 0, .int .u32 0, .int .u32 0, .int .u16 0, .int .u16 0] 29)).alloc (.cells #[.int .u8 6, .int .u32 src, .int .u32 dst, .int .u16 0, .int .u16 0] 29)).heap[w.heap.size + 1]? = some (.cells #[.int .u8 0, .int .u32 0, .int .u32 0, .int .u16 0, .int .u16 0] 29) := by
  have := heap_alloc_new (w.alloc (.cells #[.int .u8 tos, .int .u16 id, .bool keep, .int .u8 ttl, .int .u8 6, .int .u32 src, .int .u32 dst, so, .slice ad zd.length cd] 26)) (.cells #[.int .u8 0, .int .u32 0, .int .u32 0, .int .u16 0, .int .u16 0] 29)
  rw [World.size_alloc] at this
  exact (Below.heap_alloc _ _ _ (by simp)).trans this
 have t0 : (((w.alloc (.cells #[.int .u8 tos, .int .u16 id, .bool keep, .int .u8 ttl, .int .u8 6, .int .u32 src, .int .u32 dst, so, .slice ad zd.length cd] 26)).alloc (.cells #[.int .u8 0, .int .u32 0, .int .u32 0, .int .u16 0, .int .u16 0] 29)).alloc (.cells #[.int .u8 6, .int .u32 src, .int .u32 dst, .int .u16 0, .int .u16 0] 29)).heap[w.heap.size + 1 + 1]? = some (.cells #[.int .u8 6, .int .u32 src, .int .u32 dst, .int .u16 0, .int .u16 0] 29) := by
  have := heap_alloc_new ((w.alloc (.cells #[.int .u8 tos, .int .u16 id, .bool keep, .int .u8 ttl, .int .u8 6, .int .u32 src, .int .u32 dst, so, .slice ad zd.length cd] 26)).alloc (.cells #[.int .u8 0, .int .u32 0, .int .u32 0, .int .u16 0, .int .u16 0] 29)) (.cells #[.int .u8 6, .int .u32 src, .int .u32 dst, .int .u16 0, .int .u16 0] 29)
  simpa only [World.size_alloc] using this
 have R0 := hide r0
 have T0 := hide t0
 clear r0 t0
 go_enter Tryz.func9, Tryz.ntmps9
 go_wp2_with fail
 generalize (((w.alloc (.cells #[.int .u8 tos, .int .u16 id, .bool keep, .int .u8 ttl, .int .u8 6, .int .u32 src, .int .u32 dst, so, .slice ad zd.length cd] 26)).alloc (.cells #[.int .u8 0, .int .u32 0, .int .u32 0, .int .u16 0, .int .u16 0] 29)).alloc (.cells #[.int .u8 6, .int .u32 src, .int .u32 dst, .int .u16 0, .int .u16 0] 29)) = w0 at *
 refine (rparseTcp_any tos id ttl 6 src dst keep _ _ zd w0 hB ((hI.below hb0).mono hb0.size) hl hsr hds).mono ?_
 rintro e w1 ⟨hb1, ⟨hf, rfl⟩ | ⟨hf, os, aO, cO, a1, c1, _, rfl, hO, _⟩⟩
 ·rw [show zsg.toArray = #[.int .u16 0, .int .u16 0, .int .u32 0, .int .u32 0, .int .u8 0, .int .u16 0, .int .u16 0, .slice none 0 0, .slice none 0 0] from rfl]
  generalize hpu : pte 6 src dst zd = f at *
  have HPU := hide hpu
  have HF := hide hf
  clear hf hpu
  have lq : Later w1 (w1.alloc (.cells #[.int .u16 0, .int .u16 0, .int .u32 0, .int .u32 0, .int .u8 0, .int .u16 0, .int .u16 0, .slice none 0 0, .slice none 0 0] 60)) := (Below.refl _ _).alloc (Nat.le_refl _) _
  have l1 := Later.trans hb1 lq
  have rX := later_keep l1 R0.out
  have hwX := hb0.trans (l1.mono hb0.size)
  have kX := block_cell rX
  have fX := block_frozen rX
  have hne : (f != 0) = true := by simp [HF.out]
  go_wp2_with fail
  generalize w1.alloc (.cells #[.int .u16 0, .int .u16 0, .int .u32 0, .int .u32 0, .int .u8 0, .int .u16 0, .int .u16 0, .slice none 0 0, .slice none 0 0] 60) = W at *
  generalize hV : ((((W.setCell ⟨w.heap.size + 1, 0, none⟩ _).setCell ⟨w.heap.size + 1, 1, none⟩ _).setCell ⟨w.heap.size + 1, 2, none⟩ _).setCell ⟨w.heap.size + 1, 3, none⟩ _).setCell ⟨w.heap.size + 1, 4, none⟩ _ = VV
  have hV8 : VV = putRow W (w.heap.size + 1) 0 [.int .u8 0, .int .u32 0, .int .u32 0, .int .u16 0, .int .u16 0] := hV.symm
  have hbV : But (fun b => b = w.heap.size + 1) W VV := by rw [hV8]; exact putRow_but (E := fun b => b = w.heap.size + 1) (n := w.heap.size + 1) rfl _ _ _ _ (But.refl _ _)
  have pV := putRow_all ([.int .u8 0, .int .u32 0, .int .u32 0, .int .u16 0, .int .u16 0] : List Value) rX rfl
  rw [← hV8] at pV
  clear hV hV8 kX fX
  have PV := block_cell pV
  have hwV : Below w.heap.size w VV := hwX.trans (hbV.below hwX.size (fun k hk e => by omega))
  exact bodyPost_ret (v := .tuple #[.agg #[.int .u8 0, .int .u32 0, .int .u32 0, .int .u16 0, .int .u16 0], .int .i64 f]) (by simp [results, Tryz.results9, go_sem, PV]) rfl ⟨hwV, by rw [HPU.out, otv_no HF.out]⟩
 ·have HF := hide hf
  clear hf
  have lq : Later w1 (w1.alloc (.cells #[.int .u16 (wat zd 0), .int .u16 (wat zd 2), .int .u32 (wat4 zd 4), .int .u32 (wat4 zd 8), .int .u8 (zd[13]?.getD 0), .int .u16 (wat zd 14), .int .u16 (wat zd 18), .slice aO os.length cO, .slice a1 (zd.length - (thd zd).toNat) c1] 60)) := (Below.refl _ _).alloc (Nat.le_refl _) _
  have l1 := Later.trans hb1 lq
  have sX := heap_alloc_new w1 (.cells #[.int .u16 (wat zd 0), .int .u16 (wat zd 2), .int .u32 (wat4 zd 4), .int .u32 (wat4 zd 8), .int .u8 (zd[13]?.getD 0), .int .u16 (wat zd 14), .int .u16 (wat zd 18), .slice aO os.length cO, .slice a1 (zd.length - (thd zd).toNat) c1] 60)
  have rX0 := later_keep l1 R0.out
  have tX0 := later_keep l1 T0.out
  have hw2 := hb0.trans (l1.mono hb0.size)
  have hlt : w.heap.size + 1 + 1 < w1.heap.size := Nat.lt_of_lt_of_le (bl9 T0.out) hb1.size
  go_upto_region 8 with fail
  generalize w1.alloc (.cells #[.int .u16 (wat zd 0), .int .u16 (wat zd 2), .int .u32 (wat4 zd 4), .int .u32 (wat4 zd 8), .int .u8 (zd[13]?.getD 0), .int .u16 (wat zd 14), .int .u16 (wat zd 18), .slice aO os.length cO, .slice a1 (zd.length - (thd zd).toNat) c1] 60) = W at *
  have hbz := hlt
  generalize w1.heap.size = g at *
  refine anyT_begin (R := But (fun b => b = w.heap.size + 1 + 1)) 8 rfl (by kernel_rfl) ?_
  have ld : Later W W.drew := Later.drew W
  have sd := later_keep ld sX
  have td := later_keep ld tX0
  generalize W.drew = Wd at *
  have ha : ∀ v1, But (fun b => b = w.heap.size + 1 + 1) Wd v1 → ∀ i, v1.cell? ⟨g, i, none⟩ = #[Value.int .u16 (wat zd 0), .int .u16 (wat zd 2), .int .u32 (wat4 zd 4), .int .u32 (wat4 zd 8), .int .u8 (zd[13]?.getD 0), .int .u16 (wat zd 14), .int .u16 (wat zd 18), .slice aO os.length cO, .slice a1 (zd.length - (thd zd).toNat) c1][i]? := fun v1 h => block_cell ((h.block g (bl9 sd) (by omega)).trans sd)
  refine tV (But.pre _) 0 rfl rfl ?_; apply Exists.intro; refine ⟨fun v1 hv1 => ?_, ?_⟩; (· (go_simp; rfl)); simp only [Act.put, sA, sB, sC]
  refine tV (But.pre _) 1 rfl rfl ?_; apply Exists.intro; refine ⟨fun v1 hv1 => ?_, ?_⟩; (· (go_simp; rfl)); simp only [Act.put, sA, sB, sC]
  refine tV (But.pre _) 2 rfl rfl ?_; apply Exists.intro; refine ⟨fun v1 hv1 => ?_, ?_⟩; (· (go_simp; rfl)); simp only [Act.put, sA, sB, sC]
  refine tV (But.pre _) 3 rfl rfl ?_; apply Exists.intro; refine ⟨fun v1 hv1 => ?_, ?_⟩; (· (go_simp; rfl)); simp only [Act.put, sA, sB, sC]
  clear ha
  refine tV (But.pre _) 4 rfl rfl ?_; apply Exists.intro; refine ⟨fun v1 hv1 => ?_, ?_⟩; (· (go_simp; rfl)); simp only [Act.put, sA, sB, sC]
  have kx := block_cell td
  have fx := block_frozen td
  refine anyT_one 5 rfl (by kernel_rfl) rfl ?_
  unfold Oper.wp
  go_simp
  generalize hV : Wd.setCell ⟨w.heap.size + 1 + 1, 3, none⟩ _ = V
  have pV := heap_set1 td 3 (.int .u16 (wat zd 0))
  rw [hV] at pV
  have hbV : But (fun b => b = w.heap.size + 1 + 1) Wd V := by rw [← hV]; exact (But.refl (fun b => b = w.heap.size + 1 + 1) _).setCell (p := ⟨w.heap.size + 1 + 1, 3, none⟩) rfl _
  refine ⟨hbV, ?_⟩
  clear hV kx fx
  simp only [List.setIfInBounds_toArray, List.set_cons_zero, List.set_cons_succ] at pV
  refine tV (But.pre _) 6 rfl rfl ?_; apply Exists.intro; refine ⟨fun v1 hv1 => ?_, ?_⟩; (· (go_simp; rfl)); simp only [Act.put, sA, sB, sC]
  have kx := block_cell pV
  have fx := block_frozen pV
  refine anyT_one 7 rfl (by kernel_rfl) rfl ?_
  unfold Oper.wp
  go_simp
  generalize hU : V.setCell ⟨w.heap.size + 1 + 1, 4, none⟩ _ = U
  have pU := heap_set1 pV 4 (.int .u16 (wat zd 2))
  rw [hU] at pU
  have hbU : But (fun b => b = w.heap.size + 1 + 1) V U := by rw [← hU]; exact (But.refl (fun b => b = w.heap.size + 1 + 1) _).setCell (p := ⟨w.heap.size + 1 + 1, 4, none⟩) rfl _
  refine ⟨hbU, ?_⟩
  clear hU kx fx
  simp only [List.setIfInBounds_toArray, List.set_cons_zero, List.set_cons_succ] at pU
  refine anyT_done (by kernel_rfl) ?_
  have hfin : But (fun b => b = w.heap.size + 1 + 1) W U := (But.of ld).trans (hbV.trans hbU)
  have hsY := (bl9 rX0)
  have rX := (hfin.block (w.heap.size + 1) hsY (by omega)).trans rX0
  have hwX := hw2.trans (hfin.below hw2.size (fun k hk e => by omega))
  have kt := block_cell pU
  have kX := block_cell rX
  have fX := block_frozen rX
  go_wp2_with fail
  generalize hV : ((((U.setCell ⟨w.heap.size + 1, 0, none⟩ _).setCell ⟨w.heap.size + 1, 1, none⟩ _).setCell ⟨w.heap.size + 1, 2, none⟩ _).setCell ⟨w.heap.size + 1, 3, none⟩ _).setCell ⟨w.heap.size + 1, 4, none⟩ _ = VV
  have hV8 : VV = putRow U (w.heap.size + 1) 0 [.int .u8 6, .int .u32 src, .int .u32 dst, .int .u16 (wat zd 0), .int .u16 (wat zd 2)] := hV.symm
  have hbV : But (fun b => b = w.heap.size + 1) U VV := by rw [hV8]; exact putRow_but (E := fun b => b = w.heap.size + 1) (n := w.heap.size + 1) rfl _ _ _ _ (But.refl _ _)
  have pV := putRow_all ([.int .u8 6, .int .u32 src, .int .u32 dst, .int .u16 (wat zd 0), .int .u16 (wat zd 2)] : List Value) rX rfl
  rw [← hV8] at pV
  clear hV hV8 kX fX
  have PV := block_cell pV
  have hwV : Below w.heap.size w VV := hwX.trans (hbV.below hwX.size (fun k hk e => by omega))
  exact bodyPost_ret (v := .tuple #[.agg #[.int .u8 6, .int .u32 src, .int .u32 dst, .int .u16 (wat zd 0), .int .u16 (wat zd 2)], .int .i64 0]) (by simp [results, Tryz.results9, go_sem, PV]) rfl ⟨hwV, by rw [HF.out]; rfl⟩

set_option maxHeartbeats 4000000 in
theorem rof_udp (tos id ttl src dst : Int) (keep : Bool) (so sd : Value) (zd : List Int) (w : World) (hB : Mt.By zd) (hI : Rd w.heap.size w sd zd) (hl : 12 + zd.length ≤ 1099511627776) (hsr : 0 ≤ src ∧ src ≤ 4294967295) (hds : 0 ≤ dst ∧ dst ≤ 4294967295) :
  Calls Tryz.prog 9 #[.agg #[.int .u8 tos, .int .u16 id, .bool keep, .int .u8 ttl, .int .u8 17, .int .u32 src, .int .u32 dst, so, sd]] w fun e w' => Below w.heap.size w w' ∧ e = .returned (.tuple #[otv (ofe 17 src dst zd) 17 src dst (ofa 17 zd) (ofb 17 zd), .int .i64 (ofe 17 src dst zd)]) := by
 rw [show ofe 17 src dst zd = pue 17 src dst zd from rfl,show ofa 17 zd = wat zd 0 from rfl,show ofb 17 zd = wat zd 2 from rfl]
 obtain ⟨ad, cd, rfl, _, _⟩ := hI.slice
 have hb0 : Below w.heap.size w (((w.alloc (.cells #[.int .u8 tos, .int .u16 id, .bool keep, .int .u8 ttl, .int .u8 17, .int .u32 src, .int .u32 dst, so, .slice ad zd.length cd] 26)).alloc (.cells #[.int .u8 0, .int .u32 0, .int .u32 0, .int .u16 0, .int .u16 0] 29)).alloc (.cells #[.int .u8 17, .int .u32 src, .int .u32 dst, .int .u16 0, .int .u16 0] 29)) := ((((Below.refl _ _).alloc (Nat.le_refl _) _).alloc (by simp) _).alloc (by simp <;> omega) _)
 have r0 : (((w.alloc (.cells #[.int .u8 tos, .int .u16 id, .bool keep, .int .u8 ttl, .int .u8 17, .int .u32 src, .int .u32 dst, so, .slice ad zd.length cd] 26)).alloc (.cells #[.int .u8 0, .int .u32 0, .int .u32 0, .int .u16 0, .int .u16 0] 29)).alloc (.cells #[.int .u8 17, .int .u32 src, .int .u32 dst, .int .u16 0, .int .u16 0] 29)).heap[w.heap.size + 1]? = some (.cells #[.int .u8 0, .int .u32 0, .int .u32 0, .int .u16 0, .int .u16 0] 29) := by
  have := heap_alloc_new (w.alloc (.cells #[.int .u8 tos, .int .u16 id, .bool keep, .int .u8 ttl, .int .u8 17, .int .u32 src, .int .u32 dst, so, .slice ad zd.length cd] 26)) (.cells #[.int .u8 0, .int .u32 0, .int .u32 0, .int .u16 0, .int .u16 0] 29)
  rw [World.size_alloc] at this
  exact (Below.heap_alloc _ _ _ (by simp)).trans this
 have t0 : (((w.alloc (.cells #[.int .u8 tos, .int .u16 id, .bool keep, .int .u8 ttl, .int .u8 17, .int .u32 src, .int .u32 dst, so, .slice ad zd.length cd] 26)).alloc (.cells #[.int .u8 0, .int .u32 0, .int .u32 0, .int .u16 0, .int .u16 0] 29)).alloc (.cells #[.int .u8 17, .int .u32 src, .int .u32 dst, .int .u16 0, .int .u16 0] 29)).heap[w.heap.size + 1 + 1]? = some (.cells #[.int .u8 17, .int .u32 src, .int .u32 dst, .int .u16 0, .int .u16 0] 29) := by
  have := heap_alloc_new ((w.alloc (.cells #[.int .u8 tos, .int .u16 id, .bool keep, .int .u8 ttl, .int .u8 17, .int .u32 src, .int .u32 dst, so, .slice ad zd.length cd] 26)).alloc (.cells #[.int .u8 0, .int .u32 0, .int .u32 0, .int .u16 0, .int .u16 0] 29)) (.cells #[.int .u8 17, .int .u32 src, .int .u32 dst, .int .u16 0, .int .u16 0] 29)
  simpa only [World.size_alloc] using this
 have R0 := hide r0
 have T0 := hide t0
 clear r0 t0
 go_enter Tryz.func9, Tryz.ntmps9
 go_wp2_with fail
 generalize (((w.alloc (.cells #[.int .u8 tos, .int .u16 id, .bool keep, .int .u8 ttl, .int .u8 17, .int .u32 src, .int .u32 dst, so, .slice ad zd.length cd] 26)).alloc (.cells #[.int .u8 0, .int .u32 0, .int .u32 0, .int .u16 0, .int .u16 0] 29)).alloc (.cells #[.int .u8 17, .int .u32 src, .int .u32 dst, .int .u16 0, .int .u16 0] 29)) = w0 at *
 refine (rparseUdp_any tos id ttl 17 src dst keep _ _ zd w0 hB ((hI.below hb0).mono hb0.size) (by omega) hsr hds).mono ?_
 rintro e w1 ⟨hb1, ⟨hf, rfl⟩ | ⟨hf, a1, c1, rfl, hO⟩⟩
 ·rw [show zud.toArray = #[.int .u16 0, .int .u16 0, .bool false, .slice none 0 0] from rfl]
  generalize hpu : pue 17 src dst zd = f at *
  have HPU := hide hpu
  have HF := hide hf
  clear hf hpu
  have lq : Later w1 (w1.alloc (.cells #[.int .u16 0, .int .u16 0, .bool false, .slice none 0 0] 57)) := (Below.refl _ _).alloc (Nat.le_refl _) _
  have l1 := Later.trans hb1 lq
  have rX := later_keep l1 R0.out
  have hwX := hb0.trans (l1.mono hb0.size)
  have kX := block_cell rX
  have fX := block_frozen rX
  have hne : (f != 0) = true := by simp [HF.out]
  go_wp2_with fail
  generalize w1.alloc (.cells #[.int .u16 0, .int .u16 0, .bool false, .slice none 0 0] 57) = W at *
  generalize hV : ((((W.setCell ⟨w.heap.size + 1, 0, none⟩ _).setCell ⟨w.heap.size + 1, 1, none⟩ _).setCell ⟨w.heap.size + 1, 2, none⟩ _).setCell ⟨w.heap.size + 1, 3, none⟩ _).setCell ⟨w.heap.size + 1, 4, none⟩ _ = VV
  have hV8 : VV = putRow W (w.heap.size + 1) 0 [.int .u8 0, .int .u32 0, .int .u32 0, .int .u16 0, .int .u16 0] := hV.symm
  have hbV : But (fun b => b = w.heap.size + 1) W VV := by rw [hV8]; exact putRow_but (E := fun b => b = w.heap.size + 1) (n := w.heap.size + 1) rfl _ _ _ _ (But.refl _ _)
  have pV := putRow_all ([.int .u8 0, .int .u32 0, .int .u32 0, .int .u16 0, .int .u16 0] : List Value) rX rfl
  rw [← hV8] at pV
  clear hV hV8 kX fX
  have PV := block_cell pV
  have hwV : Below w.heap.size w VV := hwX.trans (hbV.below hwX.size (fun k hk e => by omega))
  exact bodyPost_ret (v := .tuple #[.agg #[.int .u8 0, .int .u32 0, .int .u32 0, .int .u16 0, .int .u16 0], .int .i64 f]) (by simp [results, Tryz.results9, go_sem, PV]) rfl ⟨hwV, by rw [HPU.out, otv_no HF.out]⟩
 ·have HF := hide hf
  clear hf
  have lq : Later w1 (w1.alloc (.cells #[.int .u16 (wat zd 0), .int .u16 (wat zd 2), .bool (wat zd 6 == 0), .slice a1 (zd.length - 8) c1] 57)) := (Below.refl _ _).alloc (Nat.le_refl _) _
  have l1 := Later.trans hb1 lq
  have sX := heap_alloc_new w1 (.cells #[.int .u16 (wat zd 0), .int .u16 (wat zd 2), .bool (wat zd 6 == 0), .slice a1 (zd.length - 8) c1] 57)
  have rX0 := later_keep l1 R0.out
  have tX0 := later_keep l1 T0.out
  have hw2 := hb0.trans (l1.mono hb0.size)
  have hlt : w.heap.size + 1 + 1 < w1.heap.size := Nat.lt_of_lt_of_le (bl9 T0.out) hb1.size
  go_upto_region 13 with fail
  generalize w1.alloc (.cells #[.int .u16 (wat zd 0), .int .u16 (wat zd 2), .bool (wat zd 6 == 0), .slice a1 (zd.length - 8) c1] 57) = W at *
  have hbz := hlt
  generalize w1.heap.size = g at *
  refine anyT_begin (R := But (fun b => b = w.heap.size + 1 + 1)) 8 rfl (by kernel_rfl) ?_
  have ld : Later W W.drew := Later.drew W
  have sd := later_keep ld sX
  have td := later_keep ld tX0
  generalize W.drew = Wd at *
  have ha : ∀ v1, But (fun b => b = w.heap.size + 1 + 1) Wd v1 → ∀ i, v1.cell? ⟨g, i, none⟩ = #[Value.int .u16 (wat zd 0), .int .u16 (wat zd 2), .bool (wat zd 6 == 0), .slice a1 (zd.length - 8) c1][i]? := fun v1 h => block_cell ((h.block g (bl9 sd) (by omega)).trans sd)
  refine tV (But.pre _) 0 rfl rfl ?_; apply Exists.intro; refine ⟨fun v1 hv1 => ?_, ?_⟩; (· (go_simp; rfl)); simp only [Act.put, sA, sB, sC]
  refine tV (But.pre _) 1 rfl rfl ?_; apply Exists.intro; refine ⟨fun v1 hv1 => ?_, ?_⟩; (· (go_simp; rfl)); simp only [Act.put, sA, sB, sC]
  refine tV (But.pre _) 2 rfl rfl ?_; apply Exists.intro; refine ⟨fun v1 hv1 => ?_, ?_⟩; (· (go_simp; rfl)); simp only [Act.put, sA, sB, sC]
  refine tV (But.pre _) 3 rfl rfl ?_; apply Exists.intro; refine ⟨fun v1 hv1 => ?_, ?_⟩; (· (go_simp; rfl)); simp only [Act.put, sA, sB, sC]
  clear ha
  refine tV (But.pre _) 4 rfl rfl ?_; apply Exists.intro; refine ⟨fun v1 hv1 => ?_, ?_⟩; (· (go_simp; rfl)); simp only [Act.put, sA, sB, sC]
  have kx := block_cell td
  have fx := block_frozen td
  refine anyT_one 5 rfl (by kernel_rfl) rfl ?_
  unfold Oper.wp
  go_simp
  generalize hV : Wd.setCell ⟨w.heap.size + 1 + 1, 3, none⟩ _ = V
  have pV := heap_set1 td 3 (.int .u16 (wat zd 0))
  rw [hV] at pV
  have hbV : But (fun b => b = w.heap.size + 1 + 1) Wd V := by rw [← hV]; exact (But.refl (fun b => b = w.heap.size + 1 + 1) _).setCell (p := ⟨w.heap.size + 1 + 1, 3, none⟩) rfl _
  refine ⟨hbV, ?_⟩
  clear hV kx fx
  simp only [List.setIfInBounds_toArray, List.set_cons_zero, List.set_cons_succ] at pV
  refine tV (But.pre _) 6 rfl rfl ?_; apply Exists.intro; refine ⟨fun v1 hv1 => ?_, ?_⟩; (· (go_simp; rfl)); simp only [Act.put, sA, sB, sC]
  have kx := block_cell pV
  have fx := block_frozen pV
  refine anyT_one 7 rfl (by kernel_rfl) rfl ?_
  unfold Oper.wp
  go_simp
  generalize hU : V.setCell ⟨w.heap.size + 1 + 1, 4, none⟩ _ = U
  have pU := heap_set1 pV 4 (.int .u16 (wat zd 2))
  rw [hU] at pU
  have hbU : But (fun b => b = w.heap.size + 1 + 1) V U := by rw [← hU]; exact (But.refl (fun b => b = w.heap.size + 1 + 1) _).setCell (p := ⟨w.heap.size + 1 + 1, 4, none⟩) rfl _
  refine ⟨hbU, ?_⟩
  clear hU kx fx
  simp only [List.setIfInBounds_toArray, List.set_cons_zero, List.set_cons_succ] at pU
  refine anyT_done (by kernel_rfl) ?_
  have hfin : But (fun b => b = w.heap.size + 1 + 1) W U := (But.of ld).trans (hbV.trans hbU)
  have hsY := (bl9 rX0)
  have rX := (hfin.block (w.heap.size + 1) hsY (by omega)).trans rX0
  have hwX := hw2.trans (hfin.below hw2.size (fun k hk e => by omega))
  have kt := block_cell pU
  have kX := block_cell rX
  have fX := block_frozen rX
  go_wp2_with fail
  generalize hV : ((((U.setCell ⟨w.heap.size + 1, 0, none⟩ _).setCell ⟨w.heap.size + 1, 1, none⟩ _).setCell ⟨w.heap.size + 1, 2, none⟩ _).setCell ⟨w.heap.size + 1, 3, none⟩ _).setCell ⟨w.heap.size + 1, 4, none⟩ _ = VV
  have hV8 : VV = putRow U (w.heap.size + 1) 0 [.int .u8 17, .int .u32 src, .int .u32 dst, .int .u16 (wat zd 0), .int .u16 (wat zd 2)] := hV.symm
  have hbV : But (fun b => b = w.heap.size + 1) U VV := by rw [hV8]; exact putRow_but (E := fun b => b = w.heap.size + 1) (n := w.heap.size + 1) rfl _ _ _ _ (But.refl _ _)
  have pV := putRow_all ([.int .u8 17, .int .u32 src, .int .u32 dst, .int .u16 (wat zd 0), .int .u16 (wat zd 2)] : List Value) rX rfl
  rw [← hV8] at pV
  clear hV hV8 kX fX
  have PV := block_cell pV
  have hwV : Below w.heap.size w VV := hwX.trans (hbV.below hwX.size (fun k hk e => by omega))
  exact bodyPost_ret (v := .tuple #[.agg #[.int .u8 17, .int .u32 src, .int .u32 dst, .int .u16 (wat zd 0), .int .u16 (wat zd 2)], .int .i64 0]) (by simp [results, Tryz.results9, go_sem, PV]) rfl ⟨hwV, by rw [HF.out]; rfl⟩

set_option maxHeartbeats 4000000 in
theorem rof_icmp (tos id ttl src dst : Int) (keep : Bool) (so sd : Value) (zd : List Int) (w : World) (hB : Mt.By zd) (hI : Rd w.heap.size w sd zd) (hl : 12 + zd.length ≤ 1099511627776) (hsr : 0 ≤ src ∧ src ≤ 4294967295) (hds : 0 ≤ dst ∧ dst ≤ 4294967295) :
  Calls Tryz.prog 9 #[.agg #[.int .u8 tos, .int .u16 id, .bool keep, .int .u8 ttl, .int .u8 1, .int .u32 src, .int .u32 dst, so, sd]] w fun e w' => Below w.heap.size w w' ∧ e = .returned (.tuple #[otv (ofe 1 src dst zd) 1 src dst (ofa 1 zd) (ofb 1 zd), .int .i64 (ofe 1 src dst zd)]) := by
 rw [show ofe 1 src dst zd = oie zd from rfl,show ofa 1 zd = wat zd 4 from rfl,show ofb 1 zd = wat zd 4 from rfl]
 obtain ⟨ad, cd, rfl, _, _⟩ := hI.slice
 have hb0 : Below w.heap.size w (((w.alloc (.cells #[.int .u8 tos, .int .u16 id, .bool keep, .int .u8 ttl, .int .u8 1, .int .u32 src, .int .u32 dst, so, .slice ad zd.length cd] 26)).alloc (.cells #[.int .u8 0, .int .u32 0, .int .u32 0, .int .u16 0, .int .u16 0] 29)).alloc (.cells #[.int .u8 1, .int .u32 src, .int .u32 dst, .int .u16 0, .int .u16 0] 29)) := ((((Below.refl _ _).alloc (Nat.le_refl _) _).alloc (by simp) _).alloc (by simp <;> omega) _)
 have r0 : (((w.alloc (.cells #[.int .u8 tos, .int .u16 id, .bool keep, .int .u8 ttl, .int .u8 1, .int .u32 src, .int .u32 dst, so, .slice ad zd.length cd] 26)).alloc (.cells #[.int .u8 0, .int .u32 0, .int .u32 0, .int .u16 0, .int .u16 0] 29)).alloc (.cells #[.int .u8 1, .int .u32 src, .int .u32 dst, .int .u16 0, .int .u16 0] 29)).heap[w.heap.size + 1]? = some (.cells #[.int .u8 0, .int .u32 0, .int .u32 0, .int .u16 0, .int .u16 0] 29) := by
  have := heap_alloc_new (w.alloc (.cells #[.int .u8 tos, .int .u16 id, .bool keep, .int .u8 ttl, .int .u8 1, .int .u32 src, .int .u32 dst, so, .slice ad zd.length cd] 26)) (.cells #[.int .u8 0, .int .u32 0, .int .u32 0, .int .u16 0, .int .u16 0] 29)
  rw [World.size_alloc] at this
  exact (Below.heap_alloc _ _ _ (by simp)).trans this
 have t0 : (((w.alloc (.cells #[.int .u8 tos, .int .u16 id, .bool keep, .int .u8 ttl, .int .u8 1, .int .u32 src, .int .u32 dst, so, .slice ad zd.length cd] 26)).alloc (.cells #[.int .u8 0, .int .u32 0, .int .u32 0, .int .u16 0, .int .u16 0] 29)).alloc (.cells #[.int .u8 1, .int .u32 src, .int .u32 dst, .int .u16 0, .int .u16 0] 29)).heap[w.heap.size + 1 + 1]? = some (.cells #[.int .u8 1, .int .u32 src, .int .u32 dst, .int .u16 0, .int .u16 0] 29) := by
  have := heap_alloc_new ((w.alloc (.cells #[.int .u8 tos, .int .u16 id, .bool keep, .int .u8 ttl, .int .u8 1, .int .u32 src, .int .u32 dst, so, .slice ad zd.length cd] 26)).alloc (.cells #[.int .u8 0, .int .u32 0, .int .u32 0, .int .u16 0, .int .u16 0] 29)) (.cells #[.int .u8 1, .int .u32 src, .int .u32 dst, .int .u16 0, .int .u16 0] 29)
  simpa only [World.size_alloc] using this
 have R0 := hide r0
 have T0 := hide t0
 clear r0 t0
 go_enter Tryz.func9, Tryz.ntmps9
 go_wp2_with fail
 generalize (((w.alloc (.cells #[.int .u8 tos, .int .u16 id, .bool keep, .int .u8 ttl, .int .u8 1, .int .u32 src, .int .u32 dst, so, .slice ad zd.length cd] 26)).alloc (.cells #[.int .u8 0, .int .u32 0, .int .u32 0, .int .u16 0, .int .u16 0] 29)).alloc (.cells #[.int .u8 1, .int .u32 src, .int .u32 dst, .int .u16 0, .int .u16 0] 29)) = w0 at *
 refine (rparseIcmp_any tos id ttl 1 src dst keep _ _ zd w0 hB ((hI.below hb0).mono hb0.size) (by omega)).mono ?_
 rintro e w1 ⟨hb1, ⟨hf, rfl⟩ | ⟨hf, a1, c1, rfl, hO⟩⟩
 ·rw [show zm.toArray = #[.int .u8 0, .int .u8 0, .int .u32 0, .slice none 0 0] from rfl]
  generalize hpu : pie 1 zd = f at *
  have HPU := hide hpu
  have HF := hide hf
  clear hf hpu
  have lq : Later w1 (w1.alloc (.cells #[.int .u8 0, .int .u8 0, .int .u32 0, .slice none 0 0] 42)) := (Below.refl _ _).alloc (Nat.le_refl _) _
  have l1 := Later.trans hb1 lq
  have rX := later_keep l1 R0.out
  have hwX := hb0.trans (l1.mono hb0.size)
  have kX := block_cell rX
  have fX := block_frozen rX
  have hne : (f != 0) = true := by simp [HF.out]
  go_wp2_with fail
  generalize w1.alloc (.cells #[.int .u8 0, .int .u8 0, .int .u32 0, .slice none 0 0] 42) = W at *
  generalize hV : ((((W.setCell ⟨w.heap.size + 1, 0, none⟩ _).setCell ⟨w.heap.size + 1, 1, none⟩ _).setCell ⟨w.heap.size + 1, 2, none⟩ _).setCell ⟨w.heap.size + 1, 3, none⟩ _).setCell ⟨w.heap.size + 1, 4, none⟩ _ = VV
  have hV8 : VV = putRow W (w.heap.size + 1) 0 [.int .u8 0, .int .u32 0, .int .u32 0, .int .u16 0, .int .u16 0] := hV.symm
  have hbV : But (fun b => b = w.heap.size + 1) W VV := by rw [hV8]; exact putRow_but (E := fun b => b = w.heap.size + 1) (n := w.heap.size + 1) rfl _ _ _ _ (But.refl _ _)
  have pV := putRow_all ([.int .u8 0, .int .u32 0, .int .u32 0, .int .u16 0, .int .u16 0] : List Value) rX rfl
  rw [← hV8] at pV
  clear hV hV8 kX fX
  have PV := block_cell pV
  have hwV : Below w.heap.size w VV := hwX.trans (hbV.below hwX.size (fun k hk e => by omega))
  exact bodyPost_ret (v := .tuple #[.agg #[.int .u8 0, .int .u32 0, .int .u32 0, .int .u16 0, .int .u16 0], .int .i64 f]) (by simp [results, Tryz.results9, go_sem, PV]) rfl ⟨hwV, by rw [show oie zd = f from (if_pos (by rw [HPU.out]; exact HF.out)).trans HPU.out, otv_no HF.out]⟩
 ·have HF := hide hf
  clear hf
  have b4 := wat_bd hB 4
  have b6 := wat_bd hB (4 + 2)
  have HW4 : Hid (wat4 zd 4 / 65536 = wat zd 4) := by show _ = _; unfold wat4; omega
  have hW4b : 0 ≤ wat4 zd 4 ∧ wat4 zd 4 ≤ 4294967295 := by unfold wat4; omega
  have lq : Later w1 (w1.alloc (.cells #[.int .u8 (zd[0]?.getD 0), .int .u8 (zd[1]?.getD 0), .int .u32 (wat4 zd 4), .slice a1 (zd.length - 8) c1] 42)) := (Below.refl _ _).alloc (Nat.le_refl _) _
  have l1 := Later.trans hb1 lq
  have sX := heap_alloc_new w1 (.cells #[.int .u8 (zd[0]?.getD 0), .int .u8 (zd[1]?.getD 0), .int .u32 (wat4 zd 4), .slice a1 (zd.length - 8) c1] 42)
  have rX0 := later_keep l1 R0.out
  have tX0 := later_keep l1 T0.out
  have hw2 := hb0.trans (l1.mono hb0.size)
  have hlt : w.heap.size + 1 + 1 < w1.heap.size := Nat.lt_of_lt_of_le (bl9 T0.out) hb1.size
  go_wp2_with fail
  generalize w1.alloc (.cells #[.int .u8 (zd[0]?.getD 0), .int .u8 (zd[1]?.getD 0), .int .u32 (wat4 zd 4), .slice a1 (zd.length - 8) c1] 42) = W at *
  generalize w1.heap.size = g at *
  refine (risEcho_any (zd[0]?.getD 0) (zd[1]?.getD 0) (wat4 zd 4) _ W).mono ?_
  rintro e w2 ⟨rfl, hb2⟩
  have l2 : Later W w2 := hb2
  have s2 := later_keep l2 sX
  have rX1 := later_keep l2 rX0
  have tX1 := later_keep l2 tX0
  have hw3 := hw2.trans (l2.mono hw2.size)
  have HE : Hid (ecb (zd[0]?.getD 0) (zd[1]?.getD 0) = ((zd[0]?.getD 0 == 8 || zd[0]?.getD 0 == 0) && zd[1]?.getD 0 == 0)) := rfl
  generalize ((zd[0]?.getD 0 == 8 || zd[0]?.getD 0 == 0) && zd[1]?.getD 0 == 0) = bq at *
  cases bq with
  | true =>
   have HOE : Hid (oie zd = 0) := by show _ = _; unfold oie; rw [if_neg (fun h => h HF.out), if_pos HE.out]
   have ks := block_cell s2
   have kt := block_cell tX1
   have ft := block_frozen tX1
   go_upto_region 21 with fail
   rw [HW4.out]
   have t3 := heap_set1 tX1 3 (.int .u16 (wat zd 4))
   generalize hV : w2.setCell ⟨w.heap.size + 1 + 1, 3, none⟩ _ = Y at *
   have hbV : But (fun b => b = w.heap.size + 1 + 1) w2 Y := by rw [← hV]; exact (But.refl (fun b => b = w.heap.size + 1 + 1) _).setCell (p := ⟨w.heap.size + 1 + 1, 3, none⟩) rfl _
   clear hV ks kt ft
   simp only [List.setIfInBounds_toArray, List.set_cons_zero, List.set_cons_succ] at t3
   have kt := block_cell t3
   have ft := block_frozen t3
   go_upto_region 27 with fail
   have t4 := heap_set1 t3 4 (.int .u16 (wat zd 4))
   generalize hU : Y.setCell ⟨w.heap.size + 1 + 1, 4, none⟩ _ = Z at *
   have hbU : But (fun b => b = w.heap.size + 1 + 1) Y Z := by rw [← hU]; exact (But.refl (fun b => b = w.heap.size + 1 + 1) _).setCell (p := ⟨w.heap.size + 1 + 1, 4, none⟩) rfl _
   clear hU kt ft
   simp only [List.setIfInBounds_toArray, List.set_cons_zero, List.set_cons_succ] at t4
   have hbY := hbV.trans hbU
   have hsY := (bl9 rX1)
   have rX := (hbY.block (w.heap.size + 1) hsY (by omega)).trans rX1
   have hwX := hw3.trans (hbY.below hw3.size (fun k hk e => by omega))
   have kt := block_cell t4
   have kX := block_cell rX
   have fX := block_frozen rX
   go_wp2_with fail
   generalize hV : ((((Z.setCell ⟨w.heap.size + 1, 0, none⟩ _).setCell ⟨w.heap.size + 1, 1, none⟩ _).setCell ⟨w.heap.size + 1, 2, none⟩ _).setCell ⟨w.heap.size + 1, 3, none⟩ _).setCell ⟨w.heap.size + 1, 4, none⟩ _ = VV
   have hV8 : VV = putRow Z (w.heap.size + 1) 0 [.int .u8 1, .int .u32 src, .int .u32 dst, .int .u16 (wat zd 4), .int .u16 (wat zd 4)] := hV.symm
   have hbV : But (fun b => b = w.heap.size + 1) Z VV := by rw [hV8]; exact putRow_but (E := fun b => b = w.heap.size + 1) (n := w.heap.size + 1) rfl _ _ _ _ (But.refl _ _)
   have pV := putRow_all ([.int .u8 1, .int .u32 src, .int .u32 dst, .int .u16 (wat zd 4), .int .u16 (wat zd 4)] : List Value) rX rfl
   rw [← hV8] at pV
   clear hV hV8 kX fX
   have PV := block_cell pV
   have hwV : Below w.heap.size w VV := hwX.trans (hbV.below hwX.size (fun k hk e => by omega))
   exact bodyPost_ret (v := .tuple #[.agg #[.int .u8 1, .int .u32 src, .int .u32 dst, .int .u16 (wat zd 4), .int .u16 (wat zd 4)], .int .i64 0]) (by simp [results, Tryz.results9, go_sem, PV]) rfl ⟨hwV, by rw [HOE.out]; rfl⟩
  | false =>
   have HOE : Hid (oie zd = 12) := by show _ = _; unfold oie; rw [if_neg (fun h => h HF.out), if_neg (by rw [HE.out]; decide)]
   have rX := rX1
   have hwX := hw3
   have kX := block_cell rX
   have fX := block_frozen rX
   go_wp2_with fail
   generalize hV : ((((w2.setCell ⟨w.heap.size + 1, 0, none⟩ _).setCell ⟨w.heap.size + 1, 1, none⟩ _).setCell ⟨w.heap.size + 1, 2, none⟩ _).setCell ⟨w.heap.size + 1, 3, none⟩ _).setCell ⟨w.heap.size + 1, 4, none⟩ _ = VV
   have hV8 : VV = putRow w2 (w.heap.size + 1) 0 [.int .u8 0, .int .u32 0, .int .u32 0, .int .u16 0, .int .u16 0] := hV.symm
   have hbV : But (fun b => b = w.heap.size + 1) w2 VV := by rw [hV8]; exact putRow_but (E := fun b => b = w.heap.size + 1) (n := w.heap.size + 1) rfl _ _ _ _ (But.refl _ _)
   have pV := putRow_all ([.int .u8 0, .int .u32 0, .int .u32 0, .int .u16 0, .int .u16 0] : List Value) rX rfl
   rw [← hV8] at pV
   clear hV hV8 kX fX
   have PV := block_cell pV
   have hwV : Below w.heap.size w VV := hwX.trans (hbV.below hwX.size (fun k hk e => by omega))
   exact bodyPost_ret (v := .tuple #[.agg #[.int .u8 0, .int .u32 0, .int .u32 0, .int .u16 0, .int .u16 0], .int .i64 12]) (by simp [results, Tryz.results9, go_sem, PV]) rfl ⟨hwV, by rw [HOE.out]; rfl⟩

set_option maxHeartbeats 4000000 in
theorem rof_gre (tos id ttl src dst : Int) (keep : Bool) (so sd : Value) (zd : List Int) (w : World) (hB : Mt.By zd) (hI : Rd w.heap.size w sd zd) (hl : 12 + zd.length ≤ 1099511627776) (hsr : 0 ≤ src ∧ src ≤ 4294967295) (hds : 0 ≤ dst ∧ dst ≤ 4294967295) :
  Calls Tryz.prog 9 #[.agg #[.int .u8 tos, .int .u16 id, .bool keep, .int .u8 ttl, .int .u8 47, .int .u32 src, .int .u32 dst, so, sd]] w fun e w' => Below w.heap.size w w' ∧ e = .returned (.tuple #[otv (ofe 47 src dst zd) 47 src dst (ofa 47 zd) (ofb 47 zd), .int .i64 (ofe 47 src dst zd)]) := by
 rw [show ofe 47 src dst zd = pge 47 zd from rfl,show ofa 47 zd = 0 from rfl,show ofb 47 zd = getAt2 zd 6 from rfl]
 obtain ⟨ad, cd, rfl, _, _⟩ := hI.slice
 have hb0 : Below w.heap.size w (((w.alloc (.cells #[.int .u8 tos, .int .u16 id, .bool keep, .int .u8 ttl, .int .u8 47, .int .u32 src, .int .u32 dst, so, .slice ad zd.length cd] 26)).alloc (.cells #[.int .u8 0, .int .u32 0, .int .u32 0, .int .u16 0, .int .u16 0] 29)).alloc (.cells #[.int .u8 47, .int .u32 src, .int .u32 dst, .int .u16 0, .int .u16 0] 29)) := ((((Below.refl _ _).alloc (Nat.le_refl _) _).alloc (by simp) _).alloc (by simp <;> omega) _)
 have r0 : (((w.alloc (.cells #[.int .u8 tos, .int .u16 id, .bool keep, .int .u8 ttl, .int .u8 47, .int .u32 src, .int .u32 dst, so, .slice ad zd.length cd] 26)).alloc (.cells #[.int .u8 0, .int .u32 0, .int .u32 0, .int .u16 0, .int .u16 0] 29)).alloc (.cells #[.int .u8 47, .int .u32 src, .int .u32 dst, .int .u16 0, .int .u16 0] 29)).heap[w.heap.size + 1]? = some (.cells #[.int .u8 0, .int .u32 0, .int .u32 0, .int .u16 0, .int .u16 0] 29) := by
  have := heap_alloc_new (w.alloc (.cells #[.int .u8 tos, .int .u16 id, .bool keep, .int .u8 ttl, .int .u8 47, .int .u32 src, .int .u32 dst, so, .slice ad zd.length cd] 26)) (.cells #[.int .u8 0, .int .u32 0, .int .u32 0, .int .u16 0, .int .u16 0] 29)
  rw [World.size_alloc] at this
  exact (Below.heap_alloc _ _ _ (by simp)).trans this
 have t0 : (((w.alloc (.cells #[.int .u8 tos, .int .u16 id, .bool keep, .int .u8 ttl, .int .u8 47, .int .u32 src, .int .u32 dst, so, .slice ad zd.length cd] 26)).alloc (.cells #[.int .u8 0, .int .u32 0, .int .u32 0, .int .u16 0, .int .u16 0] 29)).alloc (.cells #[.int .u8 47, .int .u32 src, .int .u32 dst, .int .u16 0, .int .u16 0] 29)).heap[w.heap.size + 1 + 1]? = some (.cells #[.int .u8 47, .int .u32 src, .int .u32 dst, .int .u16 0, .int .u16 0] 29) := by
  have := heap_alloc_new ((w.alloc (.cells #[.int .u8 tos, .int .u16 id, .bool keep, .int .u8 ttl, .int .u8 47, .int .u32 src, .int .u32 dst, so, .slice ad zd.length cd] 26)).alloc (.cells #[.int .u8 0, .int .u32 0, .int .u32 0, .int .u16 0, .int .u16 0] 29)) (.cells #[.int .u8 47, .int .u32 src, .int .u32 dst, .int .u16 0, .int .u16 0] 29)
  simpa only [World.size_alloc] using this
 have R0 := hide r0
 have T0 := hide t0
 clear r0 t0
 go_enter Tryz.func9, Tryz.ntmps9
 go_wp2_with fail
 generalize (((w.alloc (.cells #[.int .u8 tos, .int .u16 id, .bool keep, .int .u8 ttl, .int .u8 47, .int .u32 src, .int .u32 dst, so, .slice ad zd.length cd] 26)).alloc (.cells #[.int .u8 0, .int .u32 0, .int .u32 0, .int .u16 0, .int .u16 0] 29)).alloc (.cells #[.int .u8 47, .int .u32 src, .int .u32 dst, .int .u16 0, .int .u16 0] 29)) = w0 at *
 refine (rparseGre_any tos id ttl 47 src dst keep _ _ zd w0 hB ((hI.below hb0).mono hb0.size) (by omega)).mono ?_
 rintro e w1 ⟨hb1, ⟨hf, rfl⟩ | ⟨hf, a1, c1, rfl, hO⟩⟩
 ·rw [show zf.toArray = #[.int .u16 0, .bool false, .bool false, .int .u32 0, .int .u32 0, .slice none 0 0] from rfl]
  generalize hpu : pge 47 zd = f at *
  have HPU := hide hpu
  have HF := hide hf
  clear hf hpu
  have lq : Later w1 (w1.alloc (.cells #[.int .u16 0, .bool false, .bool false, .int .u32 0, .int .u32 0, .slice none 0 0] 68)) := (Below.refl _ _).alloc (Nat.le_refl _) _
  have l1 := Later.trans hb1 lq
  have rX := later_keep l1 R0.out
  have hwX := hb0.trans (l1.mono hb0.size)
  have kX := block_cell rX
  have fX := block_frozen rX
  have hne : (f != 0) = true := by simp [HF.out]
  go_wp2_with fail
  generalize w1.alloc (.cells #[.int .u16 0, .bool false, .bool false, .int .u32 0, .int .u32 0, .slice none 0 0] 68) = W at *
  generalize hV : ((((W.setCell ⟨w.heap.size + 1, 0, none⟩ _).setCell ⟨w.heap.size + 1, 1, none⟩ _).setCell ⟨w.heap.size + 1, 2, none⟩ _).setCell ⟨w.heap.size + 1, 3, none⟩ _).setCell ⟨w.heap.size + 1, 4, none⟩ _ = VV
  have hV8 : VV = putRow W (w.heap.size + 1) 0 [.int .u8 0, .int .u32 0, .int .u32 0, .int .u16 0, .int .u16 0] := hV.symm
  have hbV : But (fun b => b = w.heap.size + 1) W VV := by rw [hV8]; exact putRow_but (E := fun b => b = w.heap.size + 1) (n := w.heap.size + 1) rfl _ _ _ _ (But.refl _ _)
  have pV := putRow_all ([.int .u8 0, .int .u32 0, .int .u32 0, .int .u16 0, .int .u16 0] : List Value) rX rfl
  rw [← hV8] at pV
  clear hV hV8 kX fX
  have PV := block_cell pV
  have hwV : Below w.heap.size w VV := hwX.trans (hbV.below hwX.size (fun k hk e => by omega))
  exact bodyPost_ret (v := .tuple #[.agg #[.int .u8 0, .int .u32 0, .int .u32 0, .int .u16 0, .int .u16 0], .int .i64 f]) (by simp [results, Tryz.results9, go_sem, PV]) rfl ⟨hwV, by rw [HPU.out, otv_no HF.out]⟩
 ·have HF := hide hf
  clear hf
  have lq : Later w1 (w1.alloc (.cells #[.int .u16 (getAt2 zd 6), .bool (ghs (bgz zd)), .bool (gha (bgz zd)), .int .u32 (gsq (bgz zd) zd), .int .u32 (gak (bgz zd) zd), .slice a1 (zd.length - ghd (bgz zd)) c1] 68)) := (Below.refl _ _).alloc (Nat.le_refl _) _
  have l1 := Later.trans hb1 lq
  have s2 := heap_alloc_new w1 (.cells #[.int .u16 (getAt2 zd 6), .bool (ghs (bgz zd)), .bool (gha (bgz zd)), .int .u32 (gsq (bgz zd) zd), .int .u32 (gak (bgz zd) zd), .slice a1 (zd.length - ghd (bgz zd)) c1] 68)
  have rX1 := later_keep l1 R0.out
  have tX1 := later_keep l1 T0.out
  have hw3 := hb0.trans (l1.mono hb0.size)
  have ks := block_cell s2
  have kt := block_cell tX1
  have ft := block_frozen tX1
  go_upto_region 27 with fail
  generalize w1.alloc (.cells #[.int .u16 (getAt2 zd 6), .bool (ghs (bgz zd)), .bool (gha (bgz zd)), .int .u32 (gsq (bgz zd) zd), .int .u32 (gak (bgz zd) zd), .slice a1 (zd.length - ghd (bgz zd)) c1] 68) = W at *
  have t3 := heap_set1 tX1 4 (.int .u16 (getAt2 zd 6))
  generalize hV : W.setCell ⟨w.heap.size + 1 + 1, 4, none⟩ _ = Y at *
  have hbY : But (fun b => b = w.heap.size + 1 + 1) W Y := by rw [← hV]; exact (But.refl (fun b => b = w.heap.size + 1 + 1) _).setCell (p := ⟨w.heap.size + 1 + 1, 4, none⟩) rfl _
  clear hV ks kt ft
  simp only [List.setIfInBounds_toArray, List.set_cons_zero, List.set_cons_succ] at t3
  have hsY := (bl9 rX1)
  have rX := (hbY.block (w.heap.size + 1) hsY (by omega)).trans rX1
  have hwX := hw3.trans (hbY.below hw3.size (fun k hk e => by omega))
  have kt := block_cell t3
  have kX := block_cell rX
  have fX := block_frozen rX
  go_wp2_with fail
  generalize hV : ((((Y.setCell ⟨w.heap.size + 1, 0, none⟩ _).setCell ⟨w.heap.size + 1, 1, none⟩ _).setCell ⟨w.heap.size + 1, 2, none⟩ _).setCell ⟨w.heap.size + 1, 3, none⟩ _).setCell ⟨w.heap.size + 1, 4, none⟩ _ = VV
  have hV8 : VV = putRow Y (w.heap.size + 1) 0 [.int .u8 47, .int .u32 src, .int .u32 dst, .int .u16 0, .int .u16 (getAt2 zd 6)] := hV.symm
  have hbV : But (fun b => b = w.heap.size + 1) Y VV := by rw [hV8]; exact putRow_but (E := fun b => b = w.heap.size + 1) (n := w.heap.size + 1) rfl _ _ _ _ (But.refl _ _)
  have pV := putRow_all ([.int .u8 47, .int .u32 src, .int .u32 dst, .int .u16 0, .int .u16 (getAt2 zd 6)] : List Value) rX rfl
  rw [← hV8] at pV
  clear hV hV8 kX fX
  have PV := block_cell pV
  have hwV : Below w.heap.size w VV := hwX.trans (hbV.below hwX.size (fun k hk e => by omega))
  exact bodyPost_ret (v := .tuple #[.agg #[.int .u8 47, .int .u32 src, .int .u32 dst, .int .u16 0, .int .u16 (getAt2 zd 6)], .int .i64 0]) (by simp [results, Tryz.results9, go_sem, PV]) rfl ⟨hwV, by rw [HF.out]; rfl⟩

set_option maxHeartbeats 4000000 in
theorem rof_other (pr tos id ttl src dst : Int) (keep : Bool) (so : Value) (ad : Option Addr) (ld cd : Nat) (w : World) (hpr : pr ≠ 6 ∧ pr ≠ 17 ∧ pr ≠ 1 ∧ pr ≠ 47) :
  Calls Tryz.prog 9 #[.agg #[.int .u8 tos, .int .u16 id, .bool keep, .int .u8 ttl, .int .u8 pr, .int .u32 src, .int .u32 dst, so, .slice ad ld cd]] w fun e w' => Below w.heap.size w w' ∧ e = .returned (.tuple #[.agg #[.int .u8 0, .int .u32 0, .int .u32 0, .int .u16 0, .int .u16 0], .int .i64 12]) := by
 have e1 : (pr == 6) = false := by simp [hpr.1]
 have e2 : (pr == 17) = false := by simp [hpr.2.1]
 have e3 : (pr == 1) = false := by simp [hpr.2.2.1]
 have e4 : (pr == 47) = false := by simp [hpr.2.2.2]
 have HPR := hide hpr
 clear hpr
 have hb0 : Below w.heap.size w (((w.alloc (.cells #[.int .u8 tos, .int .u16 id, .bool keep, .int .u8 ttl, .int .u8 pr, .int .u32 src, .int .u32 dst, so, .slice ad ld cd] 26)).alloc (.cells #[.int .u8 0, .int .u32 0, .int .u32 0, .int .u16 0, .int .u16 0] 29)).alloc (.cells #[.int .u8 pr, .int .u32 src, .int .u32 dst, .int .u16 0, .int .u16 0] 29)) := ((((Below.refl _ _).alloc (Nat.le_refl _) _).alloc (by simp) _).alloc (by simp <;> omega) _)
 have r0 : (((w.alloc (.cells #[.int .u8 tos, .int .u16 id, .bool keep, .int .u8 ttl, .int .u8 pr, .int .u32 src, .int .u32 dst, so, .slice ad ld cd] 26)).alloc (.cells #[.int .u8 0, .int .u32 0, .int .u32 0, .int .u16 0, .int .u16 0] 29)).alloc (.cells #[.int .u8 pr, .int .u32 src, .int .u32 dst, .int .u16 0, .int .u16 0] 29)).heap[w.heap.size + 1]? = some (.cells #[.int .u8 0, .int .u32 0, .int .u32 0, .int .u16 0, .int .u16 0] 29) := by
  have := heap_alloc_new (w.alloc (.cells #[.int .u8 tos, .int .u16 id, .bool keep, .int .u8 ttl, .int .u8 pr, .int .u32 src, .int .u32 dst, so, .slice ad ld cd] 26)) (.cells #[.int .u8 0, .int .u32 0, .int .u32 0, .int .u16 0, .int .u16 0] 29)
  rw [World.size_alloc] at this
  exact (Below.heap_alloc _ _ _ (by simp)).trans this
 have t0 : (((w.alloc (.cells #[.int .u8 tos, .int .u16 id, .bool keep, .int .u8 ttl, .int .u8 pr, .int .u32 src, .int .u32 dst, so, .slice ad ld cd] 26)).alloc (.cells #[.int .u8 0, .int .u32 0, .int .u32 0, .int .u16 0, .int .u16 0] 29)).alloc (.cells #[.int .u8 pr, .int .u32 src, .int .u32 dst, .int .u16 0, .int .u16 0] 29)).heap[w.heap.size + 1 + 1]? = some (.cells #[.int .u8 pr, .int .u32 src, .int .u32 dst, .int .u16 0, .int .u16 0] 29) := by
  have := heap_alloc_new ((w.alloc (.cells #[.int .u8 tos, .int .u16 id, .bool keep, .int .u8 ttl, .int .u8 pr, .int .u32 src, .int .u32 dst, so, .slice ad ld cd] 26)).alloc (.cells #[.int .u8 0, .int .u32 0, .int .u32 0, .int .u16 0, .int .u16 0] 29)) (.cells #[.int .u8 pr, .int .u32 src, .int .u32 dst, .int .u16 0, .int .u16 0] 29)
  simpa only [World.size_alloc] using this
 have R0 := hide r0
 have T0 := hide t0
 clear r0 t0
 go_enter Tryz.func9, Tryz.ntmps9
 go_upto_region 3 with fail
 generalize (((w.alloc (.cells #[.int .u8 tos, .int .u16 id, .bool keep, .int .u8 ttl, .int .u8 pr, .int .u32 src, .int .u32 dst, so, .slice ad ld cd] 26)).alloc (.cells #[.int .u8 0, .int .u32 0, .int .u32 0, .int .u16 0, .int .u16 0] 29)).alloc (.cells #[.int .u8 pr, .int .u32 src, .int .u32 dst, .int .u16 0, .int .u16 0] 29)) = w0 at *
 have rX := R0.out
 have hwX := hb0
 have kX := block_cell rX
 have fX := block_frozen rX
 go_wp2_with fail
 generalize hV : ((((w0.setCell ⟨w.heap.size + 1, 0, none⟩ _).setCell ⟨w.heap.size + 1, 1, none⟩ _).setCell ⟨w.heap.size + 1, 2, none⟩ _).setCell ⟨w.heap.size + 1, 3, none⟩ _).setCell ⟨w.heap.size + 1, 4, none⟩ _ = VV
 have hV8 : VV = putRow w0 (w.heap.size + 1) 0 [.int .u8 0, .int .u32 0, .int .u32 0, .int .u16 0, .int .u16 0] := hV.symm
 have hbV : But (fun b => b = w.heap.size + 1) w0 VV := by rw [hV8]; exact putRow_but (E := fun b => b = w.heap.size + 1) (n := w.heap.size + 1) rfl _ _ _ _ (But.refl _ _)
 have pV := putRow_all ([.int .u8 0, .int .u32 0, .int .u32 0, .int .u16 0, .int .u16 0] : List Value) rX rfl
 rw [← hV8] at pV
 clear hV hV8 kX fX
 have PV := block_cell pV
 have hwV : Below w.heap.size w VV := hwX.trans (hbV.below hwX.size (fun k hk e => by omega))
 exact bodyPost_ret (v := .tuple #[.agg #[.int .u8 0, .int .u32 0, .int .u32 0, .int .u16 0, .int .u16 0], .int .i64 12]) (by simp [results, Tryz.results9, go_sem, PV]) rfl ⟨hwV, rfl⟩

theorem rof_any (tos id ttl proto src dst : Int) (keep : Bool) (so sd : Value) (zd : List Int) (w : World) (hB : Mt.By zd) (hI : Rd w.heap.size w sd zd) (hl : 12 + zd.length ≤ 1099511627776) (hsr : 0 ≤ src ∧ src ≤ 4294967295) (hds : 0 ≤ dst ∧ dst ≤ 4294967295) :
  Calls Tryz.prog 9 #[.agg #[.int .u8 tos, .int .u16 id, .bool keep, .int .u8 ttl, .int .u8 proto, .int .u32 src, .int .u32 dst, so, sd]] w fun e w' => Below w.heap.size w w' ∧ e = .returned (.tuple #[otv (ofe proto src dst zd) proto src dst (ofa proto zd) (ofb proto zd), .int .i64 (ofe proto src dst zd)]) := by
 by_cases h6 : proto = 6
 ·subst h6; exact rof_tcp tos id ttl src dst keep so sd zd w hB hI hl hsr hds
 by_cases h17 : proto = 17
 ·subst h17; exact rof_udp tos id ttl src dst keep so sd zd w hB hI hl hsr hds
 by_cases h1 : proto = 1
 ·subst h1; exact rof_icmp tos id ttl src dst keep so sd zd w hB hI hl hsr hds
 by_cases h47 : proto = 47
 ·subst h47; exact rof_gre tos id ttl src dst keep so sd zd w hB hI hl hsr hds
 have he : ofe proto src dst zd = 12 := by unfold ofe; rw [if_neg h6, if_neg h17, if_neg h1, if_neg h47]
 rw [he]
 obtain ⟨ad, cd, rfl, _, _⟩ := hI.slice
 exact rof_other proto tos id ttl src dst keep so ad zd.length cd w ⟨h6, h17, h1, h47⟩
end Go.Proofs.YtghpakfjpdifaaaGreatDoor

/- One bit turned: bytes whose check sum was good are good no more. -/
namespace Go.Proofs.YtghpakfjpdifaaaGreatDoor
open Go.RowKit
set_option maxRecDepth 100000
set_option linter.unusedVariables false

end Go.Proofs.YtghpakfjpdifaaaGreatDoor

/- What is parsed of a segment, a datagram that was built; one bit of an address turned. -/
namespace Go.Proofs.YtghpakfjpdifaaaGreatDoor
open Go.RowKit
set_option maxRecDepth 100000
set_option linter.unusedVariables false
set_option linter.unusedSimpArgs false

theorem flt_fit2 {lo ld : Nat} (hf : flt lo ld = 0) : lo ≤ 40 ∧ lo % 4 = 0 ∧ 20 + lo + ld ≤ 65535 := by
 unfold flt at hf
 split at hf <;> first | omega | (split at hf <;> omega)
/-- The sum of what stands ahead. -/
theorem tw_psd_app (s d p n : Int) (zs : List Int) : Mt.tw true (psd s d p n ++ zs) = Mt.tw true (psd s d p n) + Mt.tw true zs := by
 rw [Mt.tw_append, psd_length]
 rfl
/-- A check sum put at an even place where 0 stood makes the bytes good, also with what stands ahead of them. -/
theorem good_put (s d p n : Int) (zs : List Int) (k : Nat) (hB : Mt.By (psd s d p n ++ zs)) (hk : k % 2 = 0) (hl : k + 1 < zs.length) (h0 : zs[k]?.getD 0 = 0) (h1 : zs[k + 1]?.getD 0 = 0) : Mt.cks (psd s d p n ++ Mt.put2 zs k (Mt.cks (psd s d p n ++ zs))) = 0 := by
 have hn := Mt.tw_nonneg true _ hB
 have hg := Mt.fd_good _ hn
 rw [tw_psd_app] at hn hg
 unfold Mt.cks
 rw [tw_psd_app, Mt.tw_put2 zs k _ hk hl, h0, h1, tw_psd_app]
 rw [show Mt.tw true (psd s d p n) + (Mt.tw true zs + (65535 - Mt.fd (Mt.tw true (psd s d p n) + Mt.tw true zs)) - (0 * 256 + 0)) = Mt.tw true (psd s d p n) + Mt.tw true zs + (65535 - Mt.fd (Mt.tw true (psd s d p n) + Mt.tw true zs)) from by omega, hg]
 rfl
theorem good_put5 (s d p n : Int) (zs : List Int) (k : Nat) (hB : Mt.By (psd s d p n ++ zs)) (hk : k % 2 = 0) (hl : k + 1 < zs.length) (h0 : zs[k]?.getD 0 = 0) (h1 : zs[k + 1]?.getD 0 = 0) (hc : Mt.cks (psd s d p n ++ zs) = 0) : Mt.cks (psd s d p n ++ Mt.put2 zs k 65535) = 0 := by
 have hg := Mt.fd_eq _ (show Mt.fd (Mt.tw true (psd s d p n ++ zs)) = 65535 from by unfold Mt.cks at hc; omega)
 rw [tw_psd_app] at hg
 unfold Mt.cks
 rw [tw_psd_app, Mt.tw_put2 zs k _ hk hl, h0, h1, Mt.fd_of _ (by omega) (by omega)]
 rfl

section
variable (sp dp sq ak fl wn ur : Int) (ob : List Int) (src dst : Int) (zd : List Int)
def hd20 (c : Int) : List Int := Mt.put2 ([sp, dp].flatMap b2 ++ [sq, ak].flatMap b4 ++ [(20 + (ob.length : Int)) / 4 * 16, fl] ++ [wn, 0, ur].flatMap b2) 16 c
theorem hd20_length (c : Int) : (hd20 sp dp sq ak fl wn ur ob c).length = 20 := by simp [hd20, Mt.put2_length, b2, b4]
theorem tcp_split : tcp sp dp sq ak fl wn ur ob src dst zd = hd20 sp dp sq ak fl wn ur ob (Mt.cks (psd src dst 6 (20 + ob.length + zd.length : Nat) ++ tcp0 sp dp sq ak fl wn ur ob zd)) ++ (ob ++ zd) := by
 unfold tcp hd20
 generalize Mt.cks (psd src dst 6 (20 + ob.length + zd.length : Nat) ++ tcp0 sp dp sq ak fl wn ur ob zd) = c
 simp [tcp0, Mt.put2, b2, b4]
theorem tcp_drop (h : Nat) (hh : h = 20 + ob.length) : (tcp sp dp sq ak fl wn ur ob src dst zd).drop h = zd := by
 subst hh
 rw [tcp_split, List.drop_append, hd20_length, List.drop_of_length_le (by rw [hd20_length]; omega), List.nil_append, show 20 + ob.length - 20 = ob.length from by omega, List.drop_left]
theorem tcp_opt (h : Nat) (hh : h = 20 + ob.length) : ((tcp sp dp sq ak fl wn ur ob src dst zd).drop 20).take (h - 20) = ob := by
 subst hh
 rw [tcp_split, List.drop_append, hd20_length, List.drop_of_length_le (by rw [hd20_length]; omega), List.nil_append, Nat.sub_self, List.drop_zero, show 20 + ob.length - 20 = ob.length from by omega, List.take_left]
theorem tcp_at (j : Nat) (hj : j < 20) : (tcp sp dp sq ak fl wn ur ob src dst zd)[j]?.getD 0 = (hd20 sp dp sq ak fl wn ur ob (Mt.cks (psd src dst 6 (20 + ob.length + zd.length : Nat) ++ tcp0 sp dp sq ak fl wn ur ob zd)))[j]?.getD 0 := by
 rw [tcp_split, List.getElem?_append_left (by rw [hd20_length]; exact hj)]
theorem tcp_12 : (tcp sp dp sq ak fl wn ur ob src dst zd)[12]?.getD 0 = (20 + (ob.length : Int)) / 4 * 16 := by rw [tcp_at _ _ _ _ _ _ _ _ _ _ _ 12 (by omega)]; simp [hd20, Mt.put2, b2, b4]
theorem tcp_13 : (tcp sp dp sq ak fl wn ur ob src dst zd)[13]?.getD 0 = fl := by rw [tcp_at _ _ _ _ _ _ _ _ _ _ _ 13 (by omega)]; simp [hd20, Mt.put2, b2, b4]
theorem tcp_thd (h4 : ob.length % 4 = 0) : thd (tcp sp dp sq ak fl wn ur ob src dst zd) = 20 + (ob.length : Int) := by unfold thd; rw [tcp_12]; omega
theorem tcp_wat (j : Nat) (hj : j + 1 < 20) : wat (tcp sp dp sq ak fl wn ur ob src dst zd) j = wat (hd20 sp dp sq ak fl wn ur ob (Mt.cks (psd src dst 6 (20 + ob.length + zd.length : Nat) ++ tcp0 sp dp sq ak fl wn ur ob zd))) j := by
 unfold wat
 rw [tcp_at _ _ _ _ _ _ _ _ _ _ _ j (by omega), tcp_at _ _ _ _ _ _ _ _ _ _ _ (j + 1) hj]
theorem tcp_w0 : wat (tcp sp dp sq ak fl wn ur ob src dst zd) 0 = sp := by rw [tcp_wat _ _ _ _ _ _ _ _ _ _ _ 0 (by omega)]; simp [wat, hd20, Mt.put2, b2, b4]; omega
theorem tcp_w2 : wat (tcp sp dp sq ak fl wn ur ob src dst zd) 2 = dp := by rw [tcp_wat _ _ _ _ _ _ _ _ _ _ _ 2 (by omega)]; simp [wat, hd20, Mt.put2, b2, b4]; omega
theorem tcp_w14 : wat (tcp sp dp sq ak fl wn ur ob src dst zd) 14 = wn := by rw [tcp_wat _ _ _ _ _ _ _ _ _ _ _ 14 (by omega)]; simp [wat, hd20, Mt.put2, b2, b4]; omega
theorem tcp_w18 : wat (tcp sp dp sq ak fl wn ur ob src dst zd) 18 = ur := by rw [tcp_wat _ _ _ _ _ _ _ _ _ _ _ 18 (by omega)]; simp [wat, hd20, Mt.put2, b2, b4]; omega
theorem tcp_w4 : wat4 (tcp sp dp sq ak fl wn ur ob src dst zd) 4 = sq := by unfold wat4; rw [tcp_wat _ _ _ _ _ _ _ _ _ _ _ 4 (by omega), tcp_wat _ _ _ _ _ _ _ _ _ _ _ (4 + 2) (by omega)]; simp [wat, hd20, Mt.put2, b2, b4]; omega
theorem tcp_w8 : wat4 (tcp sp dp sq ak fl wn ur ob src dst zd) 8 = ak := by unfold wat4; rw [tcp_wat _ _ _ _ _ _ _ _ _ _ _ 8 (by omega), tcp_wat _ _ _ _ _ _ _ _ _ _ _ (8 + 2) (by omega)]; simp [wat, hd20, Mt.put2, b2, b4]; omega
theorem tcp_good (hs : 0 ≤ src ∧ src ≤ 4294967295) (hd : 0 ≤ dst ∧ dst ≤ 4294967295) (hB : Mt.By (tcp0 sp dp sq ak fl wn ur ob zd)) : Mt.cks (psd src dst 6 (20 + ob.length + zd.length : Nat) ++ tcp sp dp sq ak fl wn ur ob src dst zd) = 0 :=
 good_put src dst 6 _ _ 16 ((By_psd src dst 6 _ hs hd (by omega)).append hB) (by omega) (by rw [tcp0_length]; omega) (by simp [tcp0, b2, b4]) (by simp [tcp0, b2, b4])
theorem tcp_ptc (proto : Int) (hp : proto = 6) (s d : Int) (h4 : ob.length % 4 = 0) (h40 : ob.length ≤ 40) : ptc proto s d (tcp sp dp sq ak fl wn ur ob src dst zd) = if Mt.cks (psd s d 6 (20 + ob.length + zd.length : Nat) ++ tcp sp dp sq ak fl wn ur ob src dst zd) ≠ 0 then 5 else 0 := by
 unfold ptc
 rw [if_neg (by simp [hp]), tcp_length, if_neg (by omega), tcp_thd _ _ _ _ _ _ _ _ _ _ _ h4, tcp_12, if_neg (by omega), if_neg (by omega)]
end
theorem tcp_hop (sp dp sq ak fl wn ur : Int) (ob : List Int) (src dst : Int) (zd : List Int) (h4 : ob.length % 4 = 0) : hop (tcp sp dp sq ak fl wn ur ob src dst zd) = ob := by
 unfold hop
 rw [tcp_thd _ _ _ _ _ _ _ _ _ _ _ h4]
 exact tcp_opt _ _ _ _ _ _ _ _ _ _ _ _ (by omega)
theorem tcp_pte (sp dp sq ak fl wn ur : Int) (os : List Opt) (src dst : Int) (zd : List Int) (hok : obOk os) (hs : 0 ≤ src ∧ src ≤ 4294967295) (hd : 0 ≤ dst ∧ dst ≤ 4294967295) (hB : Mt.By (tcp0 sp dp sq ak fl wn ur (pad (obs os)) zd)) :
  pte 6 src dst (tcp sp dp sq ak fl wn ur (pad (obs os)) src dst zd) = 0 ∧ opts (hop (tcp sp dp sq ak fl wn ur (pad (obs os)) src dst zd)) = some os := by
 have h1 : ptc 6 src dst (tcp sp dp sq ak fl wn ur (pad (obs os)) src dst zd) = 0 := by
  rw [tcp_ptc _ _ _ _ _ _ _ _ _ _ _ 6 rfl src dst (pad_mod _) (pad_le _ hok.2), if_neg (by rw [tcp_good _ _ _ _ _ _ _ _ _ _ _ hs hd hB]; simp)]
 have h2 : opts (hop (tcp sp dp sq ak fl wn ur (pad (obs os)) src dst zd)) = some os := by rw [tcp_hop _ _ _ _ _ _ _ _ _ _ _ (pad_mod _)]; exact opts_pad os hok
 refine ⟨?_, h2⟩
 unfold pte
 rw [if_neg (by simp [h1]), h2]
 rfl

section
variable (sp dp : Int) (bare : Bool) (src dst : Int) (zm : List Int)
theorem udp_at (j : Nat) (h6 : j ≠ 6) (h7 : j ≠ 7) : (udp sp dp bare src dst zm)[j]?.getD 0 = (udp0 sp dp zm)[j]?.getD 0 := by
 unfold udp
 split
 ·rfl
 ·rw [Mt.put2_other _ _ _ _ h6 h7]
theorem udp_w0 : wat (udp sp dp bare src dst zm) 0 = sp := by unfold wat; rw [udp_at _ _ _ _ _ _ 0 (by omega) (by omega), udp_at _ _ _ _ _ _ (0 + 1) (by omega) (by omega)]; simp [udp0, b2]; omega
theorem udp_w2 : wat (udp sp dp bare src dst zm) 2 = dp := by unfold wat; rw [udp_at _ _ _ _ _ _ 2 (by omega) (by omega), udp_at _ _ _ _ _ _ (2 + 1) (by omega) (by omega)]; simp [udp0, b2]; omega
theorem udp_w4 (h : 8 + zm.length ≤ 65535) : wat (udp sp dp bare src dst zm) 4 = 8 + zm.length := by unfold wat; rw [udp_at _ _ _ _ _ _ 4 (by omega) (by omega), udp_at _ _ _ _ _ _ (4 + 1) (by omega) (by omega)]; simp [udp0, b2]; omega
theorem udp_drop : (udp sp dp bare src dst zm).drop 8 = zm := by
 unfold udp
 split
 ·simp [udp0, b2]
 ·simp [udp0, b2, Mt.put2]
theorem udp_w6 : wat (udp sp dp bare src dst zm) 6 = if bare then 0 else usm src dst 17 (udp0 sp dp zm) := by
 unfold udp
 cases bare with
 | true => simp [wat, udp0, b2]
 | false =>
  simp only [Bool.false_eq_true, if_false]
  unfold wat
  have := Mt.put2_at (udp0 sp dp zm) 6 (usm src dst 17 (udp0 sp dp zm)) (by rw [udp0_length]; omega)
  rw [this.1, this.2]
  omega
theorem udp_good (hs : 0 ≤ src ∧ src ≤ 4294967295) (hd : 0 ≤ dst ∧ dst ≤ 4294967295) (hB : Mt.By (udp0 sp dp zm)) : Mt.cks (psd src dst 17 (8 + zm.length : Nat) ++ udp sp dp false src dst zm) = 0 := by
 unfold udp
 simp only [Bool.false_eq_true, if_false]
 have hBB := (By_psd src dst 17 (8 + zm.length : Nat) hs hd (by omega)).append hB
 have hz : (udp0 sp dp zm)[6]?.getD 0 = 0 ∧ (udp0 sp dp zm)[6 + 1]?.getD 0 = 0 := ⟨by simp [udp0, b2], by simp [udp0, b2]⟩
 unfold usm
 rw [udp0_length]
 split
 ·exact good_put5 src dst 17 _ _ 6 hBB (by omega) (by rw [udp0_length]; omega) hz.1 hz.2 (by assumption)
 ·exact good_put src dst 17 _ _ 6 hBB (by omega) (by rw [udp0_length]; omega) hz.1 hz.2
theorem udp_pue (proto : Int) (hp : proto = 17) (s d : Int) (h : 8 + zm.length ≤ 65535) : pue proto s d (udp sp dp bare src dst zm) = if bare = false ∧ Mt.cks (psd s d 17 (8 + zm.length : Nat) ++ udp sp dp bare src dst zm) ≠ 0 then 5 else 0 := by
 unfold pue
 have hb := usm_bd src dst 17 (udp0 sp dp zm)
 rw [if_neg (by simp [hp]), udp_length, if_neg (by omega), udp_w4 _ _ _ _ _ _ h, if_neg (by simp), udp_w6]
 cases bare with
 | true => simp
 | false =>
  simp only [Bool.false_eq_true, if_false, true_and]
  congr 1
  simp only [eq_iff_iff]
  exact ⟨fun h => h.2, fun h => ⟨by omega, h⟩⟩
end

end Go.Proofs.YtghpakfjpdifaaaGreatDoor

/- Layer 10: bytes that are rewritten, and what they tell. -/
namespace Go.Proofs.YtghpakfjpdifaaaGreatDoor
open Go.RowKit Go.Shelf
set_option maxRecDepth 100000
set_option linter.unusedVariables false
set_option linter.unusedSimpArgs false

/-- Both ports changed. -/
def prt (a b : Int) (zs : List Int) : List Int := Mt.put2 (Mt.put2 zs 0 a) 2 b
/-- A datagram's check sum is never 0. -/
def nbr (x : Int) : Int := if x = 0 then 65535 else x
/-- A segment, a datagram, a message, a frame with another tuple. -/
def rwT (s d a b : Int) (zs : List Int) : List Int := Mt.put2 (Mt.put2 (prt a b zs) 16 0) 16 (Mt.cks (psd s d 6 zs.length ++ Mt.put2 (prt a b zs) 16 0))
def rwU (s d a b : Int) (zs : List Int) : List Int := if wat zs 6 = 0 then prt a b zs else Mt.put2 (Mt.put2 (prt a b zs) 6 0) 6 (nbr (Mt.cks (psd s d 17 zs.length ++ Mt.put2 (prt a b zs) 6 0)))
def rwI (a : Int) (zs : List Int) : List Int := Mt.put2 (Mt.put2 (Mt.put2 zs 4 a) 2 0) 2 (Mt.cks (Mt.put2 (Mt.put2 zs 4 a) 2 0))
def rwG (b : Int) (zs : List Int) : List Int := Mt.put2 zs 6 b
def rwD (pr s d a b : Int) (zs : List Int) : List Int := if pr = 6 then rwT s d a b zs else if pr = 17 then rwU s d a b zs else if pr = 1 then rwI a zs else rwG b zs

theorem nbr_bd {x : Int} (h : 0 ≤ x ∧ x ≤ 65535) : 0 < nbr x ∧ nbr x ≤ 65535 := by unfold nbr; split <;> omega
theorem prt_length (a b : Int) (zs : List Int) : (prt a b zs).length = zs.length := by simp [prt, Mt.put2_length]
theorem prt_by {a b : Int} {zs : List Int} (h : Mt.By zs) (ha : 0 ≤ a ∧ a ≤ 65535) (hb : 0 ≤ b ∧ b ≤ 65535) : Mt.By (prt a b zs) := (h.put2 0 ha).put2 2 hb
theorem prt_other (a b : Int) (zs : List Int) (j : Nat) (h : 4 ≤ j) : (prt a b zs)[j]? = zs[j]? := by
 unfold prt
 rw [Mt.put2_other _ _ _ _ (by omega) (by omega), Mt.put2_other _ _ _ _ (by omega) (by omega)]
theorem rwT_length (s d a b : Int) (zs : List Int) : (rwT s d a b zs).length = zs.length := by simp [rwT, Mt.put2_length, prt_length]
theorem rwU_length (s d a b : Int) (zs : List Int) : (rwU s d a b zs).length = zs.length := by unfold rwU; split <;> simp [Mt.put2_length, prt_length]
theorem rwI_length (a : Int) (zs : List Int) : (rwI a zs).length = zs.length := by simp [rwI, Mt.put2_length]
theorem rwD_length (pr s d a b : Int) (zs : List Int) : (rwD pr s d a b zs).length = zs.length := by
 unfold rwD
 split
 ·exact rwT_length ..
 split
 ·exact rwU_length ..
 split
 ·exact rwI_length ..
 ·exact Mt.put2_length ..
theorem rwT_by {s d a b : Int} {zs : List Int} (h : Mt.By zs) (ha : 0 ≤ a ∧ a ≤ 65535) (hb : 0 ≤ b ∧ b ≤ 65535) : Mt.By (rwT s d a b zs) := ((prt_by h ha hb).put2 16 (by omega)).put2 16 (Mt.cks_bd _)
theorem rwU_by {s d a b : Int} {zs : List Int} (h : Mt.By zs) (ha : 0 ≤ a ∧ a ≤ 65535) (hb : 0 ≤ b ∧ b ≤ 65535) : Mt.By (rwU s d a b zs) := by
 unfold rwU
 split
 ·exact prt_by h ha hb
 ·have := nbr_bd (Mt.cks_bd (psd s d 17 zs.length ++ Mt.put2 (prt a b zs) 6 0))
  exact ((prt_by h ha hb).put2 6 (by omega)).put2 6 (by omega)
theorem rwI_by {a : Int} {zs : List Int} (h : Mt.By zs) (ha : 0 ≤ a ∧ a ≤ 65535) : Mt.By (rwI a zs) := ((h.put2 4 ha).put2 2 (by omega)).put2 2 (Mt.cks_bd _)
theorem rwD_by {pr s d a b : Int} {zs : List Int} (h : Mt.By zs) (ha : 0 ≤ a ∧ a ≤ 65535) (hb : 0 ≤ b ∧ b ≤ 65535) : Mt.By (rwD pr s d a b zs) := by
 unfold rwD
 split
 ·exact rwT_by h ha hb
 split
 ·exact rwU_by h ha hb
 split
 ·exact rwI_by h ha
 ·exact h.put2 6 hb

/-- Bytes that the ports and the check sum are not of stay. -/
theorem rwT_other (s d a b : Int) (zs : List Int) (j : Nat) (h : 4 ≤ j) (h2 : j ≠ 16) (h3 : j ≠ 17) : (rwT s d a b zs)[j]? = zs[j]? := by
 unfold rwT
 rw [Mt.put2_other _ _ _ _ (by omega) (by omega), Mt.put2_other _ _ _ _ (by omega) (by omega), prt_other _ _ _ _ h]
theorem rwU_other (s d a b : Int) (zs : List Int) (j : Nat) (h : 4 ≤ j) (h2 : j ≠ 6) (h3 : j ≠ 7) : (rwU s d a b zs)[j]? = zs[j]? := by
 unfold rwU
 split
 ·exact prt_other _ _ _ _ h
 ·rw [Mt.put2_other _ _ _ _ (by omega) (by omega), Mt.put2_other _ _ _ _ (by omega) (by omega), prt_other _ _ _ _ h]
theorem rwI_other (a : Int) (zs : List Int) (j : Nat) (h : j < 2 ∨ 6 ≤ j) : (rwI a zs)[j]? = zs[j]? := by
 unfold rwI
 rw [Mt.put2_other _ _ _ _ (by omega) (by omega), Mt.put2_other _ _ _ _ (by omega) (by omega), Mt.put2_other _ _ _ _ (by omega) (by omega)]
theorem wat_same {xs zs : List Int} {k : Nat} (h0 : xs[k]? = zs[k]?) (h1 : xs[k + 1]? = zs[k + 1]?) : wat xs k = wat zs k := by unfold wat; rw [h0, h1]
theorem wat4_same {xs zs : List Int} {k : Nat} (h : ∀ j, k ≤ j → j < k + 4 → xs[j]? = zs[j]?) : wat4 xs k = wat4 zs k := by
 unfold wat4
 rw [wat_same (h k (by omega) (by omega)) (h (k + 1) (by omega) (by omega)), wat_same (h (k + 2) (by omega) (by omega)) (h (k + 2 + 1) (by omega) (by omega))]
theorem drop_same {xs zs : List Int} {k : Nat} (h : ∀ j, k ≤ j → xs[j]? = zs[j]?) : xs.drop k = zs.drop k := by
 apply List.ext_getElem?
 intro i
 rw [List.getElem?_drop, List.getElem?_drop, h _ (by omega)]
theorem prt_w0 (a b : Int) (zs : List Int) (h : 4 ≤ zs.length) (ha : 0 ≤ a) : wat (prt a b zs) 0 = a := by
 unfold prt
 rw [wat_put2_other _ _ _ _ (by omega), wat_put2 _ _ _ (by omega) ha]
theorem prt_w2 (a b : Int) (zs : List Int) (h : 4 ≤ zs.length) (hb : 0 ≤ b) : wat (prt a b zs) 2 = b := by
 unfold prt
 rw [wat_put2 _ _ _ (by simp [Mt.put2_length]; omega) hb]
theorem rwT_w0 (s d a b : Int) (zs : List Int) (h : 20 ≤ zs.length) (ha : 0 ≤ a) : wat (rwT s d a b zs) 0 = a := by
 unfold rwT
 rw [wat_put2_other _ _ _ _ (by omega), wat_put2_other _ _ _ _ (by omega), prt_w0 _ _ _ (by omega) ha]
theorem rwT_w2 (s d a b : Int) (zs : List Int) (h : 20 ≤ zs.length) (hb : 0 ≤ b) : wat (rwT s d a b zs) 2 = b := by
 unfold rwT
 rw [wat_put2_other _ _ _ _ (by omega), wat_put2_other _ _ _ _ (by omega), prt_w2 _ _ _ (by omega) hb]
theorem rwU_w0 (s d a b : Int) (zs : List Int) (h : 8 ≤ zs.length) (ha : 0 ≤ a) : wat (rwU s d a b zs) 0 = a := by
 unfold rwU
 split
 ·exact prt_w0 _ _ _ (by omega) ha
 ·rw [wat_put2_other _ _ _ _ (by omega), wat_put2_other _ _ _ _ (by omega), prt_w0 _ _ _ (by omega) ha]
theorem rwU_w2 (s d a b : Int) (zs : List Int) (h : 8 ≤ zs.length) (hb : 0 ≤ b) : wat (rwU s d a b zs) 2 = b := by
 unfold rwU
 split
 ·exact prt_w2 _ _ _ (by omega) hb
 ·rw [wat_put2_other _ _ _ _ (by omega), wat_put2_other _ _ _ _ (by omega), prt_w2 _ _ _ (by omega) hb]
theorem rwU_w6 (s d a b : Int) (zs : List Int) (h : 8 ≤ zs.length) : (wat (rwU s d a b zs) 6 == 0) = (wat zs 6 == 0) := by
 unfold rwU
 split
 ·rename_i h0
  rw [wat_same (prt_other _ _ _ _ (by omega)) (prt_other _ _ _ _ (by omega))]
 ·rename_i h0
  have := nbr_bd (Mt.cks_bd (psd s d 17 zs.length ++ Mt.put2 (prt a b zs) 6 0))
  rw [wat_put2 _ _ _ (by simp [Mt.put2_length, prt_length]; omega) (by omega)]
  have e1 : (nbr (Mt.cks (psd s d 17 zs.length ++ Mt.put2 (prt a b zs) 6 0)) == 0) = false := by simp; omega
  have e2 : (wat zs 6 == 0) = false := by simp [h0]
  rw [e1, e2]
theorem rwI_w4 (a : Int) (zs : List Int) (h : 8 ≤ zs.length) (ha : 0 ≤ a) : wat (rwI a zs) 4 = a := by
 unfold rwI
 rw [wat_put2_other _ _ _ _ (by omega), wat_put2_other _ _ _ _ (by omega), wat_put2 _ _ _ (by omega) ha]

/-- Check sums are good. -/
theorem rwT_good {s d a b : Int} {zs : List Int} (h : Mt.By zs) (hl : 20 ≤ zs.length) (hs : 0 ≤ s ∧ s ≤ 4294967295) (hd : 0 ≤ d ∧ d ≤ 4294967295) (ha : 0 ≤ a ∧ a ≤ 65535) (hb : 0 ≤ b ∧ b ≤ 65535) : Mt.cks (psd s d 6 zs.length ++ rwT s d a b zs) = 0 := by
 unfold rwT
 have hz := Mt.put2_at (prt a b zs) 16 0 (by rw [prt_length]; omega)
 refine good_put s d 6 zs.length _ 16 ?_ (by omega) (by simp [Mt.put2_length, prt_length]; omega) (by rw [hz.1]; rfl) (by rw [hz.2]; rfl)
 exact (By_psd s d 6 zs.length hs hd (by omega)).append ((prt_by h ha hb).put2 16 (by omega))
theorem rwU_good {s d a b : Int} {zs : List Int} (h : Mt.By zs) (hl : 8 ≤ zs.length) (hs : 0 ≤ s ∧ s ≤ 4294967295) (hd : 0 ≤ d ∧ d ≤ 4294967295) (ha : 0 ≤ a ∧ a ≤ 65535) (hb : 0 ≤ b ∧ b ≤ 65535) : wat (rwU s d a b zs) 6 ≠ 0 → Mt.cks (psd s d 17 zs.length ++ rwU s d a b zs) = 0 := by
 intro h6
 have h60 : wat zs 6 ≠ 0 := by
  intro e
  have := rwU_w6 s d a b zs hl
  rw [e] at this
  simp at this
  exact h6 this
 unfold rwU
 rw [if_neg h60]
 have hz := Mt.put2_at (prt a b zs) 6 0 (by rw [prt_length]; omega)
 have hBB := (By_psd s d 17 zs.length hs hd (by omega)).append ((prt_by h ha hb).put2 6 (v := 0) (by omega))
 unfold nbr
 split
 ·rename_i h0
  exact good_put5 s d 17 zs.length _ 6 hBB (by omega) (by simp [Mt.put2_length, prt_length]; omega) (by rw [hz.1]; rfl) (by rw [hz.2]; rfl) h0
 ·exact good_put s d 17 zs.length _ 6 hBB (by omega) (by simp [Mt.put2_length, prt_length]; omega) (by rw [hz.1]; rfl) (by rw [hz.2]; rfl)
theorem good_bare (zs : List Int) (k : Nat) (hB : Mt.By zs) (hk : k % 2 = 0) (hl : k + 1 < zs.length) (h0 : zs[k]?.getD 0 = 0) (h1 : zs[k + 1]?.getD 0 = 0) : Mt.cks (Mt.put2 zs k (Mt.cks zs)) = 0 := by
 have hn := Mt.tw_nonneg true _ hB
 have hg := Mt.fd_good _ hn
 unfold Mt.cks
 rw [Mt.tw_put2 zs k _ hk hl, h0, h1]
 rw [show Mt.tw true zs + (65535 - Mt.fd (Mt.tw true zs)) - (0 * 256 + 0) = Mt.tw true zs + (65535 - Mt.fd (Mt.tw true zs)) from by omega, hg]
 rfl
theorem rwI_good {a : Int} {zs : List Int} (h : Mt.By zs) (hl : 8 ≤ zs.length) (ha : 0 ≤ a ∧ a ≤ 65535) : Mt.cks (rwI a zs) = 0 := by
 have hz := Mt.put2_at (Mt.put2 zs 4 a) 2 0 (by rw [Mt.put2_length]; omega)
 exact good_bare _ 2 ((h.put2 4 ha).put2 2 (by omega)) (by omega) (by simp [Mt.put2_length]; omega) (by rw [hz.1]; rfl) (by rw [hz.2]; rfl)

/-- What is rewritten is not refused. -/
theorem rwT_pte {src dst s d a b : Int} {zs : List Int} (h : Mt.By zs) (hp : pte 6 src dst zs = 0) (hs : 0 ≤ s ∧ s ≤ 4294967295) (hd : 0 ≤ d ∧ d ≤ 4294967295) (ha : 0 ≤ a ∧ a ≤ 65535) (hb : 0 ≤ b ∧ b ≤ 65535) :
  pte 6 s d (rwT s d a b zs) = 0 ∧ thd (rwT s d a b zs) = thd zs ∧ hop (rwT s d a b zs) = hop zs ∧ 20 ≤ zs.length ∧ 20 ≤ thd zs := by
 have hpc : ptc 6 src dst zs = 0 := by
  unfold pte at hp
  split at hp
  ·rename_i h1; exact absurd hp h1
  ·rename_i h1; simpa using h1
 have hop' : (opts (hop zs)).isNone = false := by
  unfold pte at hp
  rw [if_neg (by simp [hpc])] at hp
  split at hp
  ·omega
  ·rename_i h1; exact Bool.eq_false_iff.2 h1
 obtain ⟨_, h20, ht20, htl, h16, _⟩ := ptc_zero hpc
 have e12 : (rwT s d a b zs)[12]? = zs[12]? := rwT_other _ _ _ _ _ _ (by omega) (by omega) (by omega)
 have et : thd (rwT s d a b zs) = thd zs := by unfold thd; rw [e12]
 have eh : hop (rwT s d a b zs) = hop zs := by unfold hop; rw [et, drop_same (fun j hj => rwT_other s d a b zs j (by omega) (by omega) (by omega))]
 refine ⟨?_, et, eh, h20, ht20⟩
 have eg := rwT_good h h20 hs hd ha hb
 have ep : ptc 6 s d (rwT s d a b zs) = 0 := by
  unfold ptc
  rw [rwT_length, et, e12, if_neg (by omega), if_neg (by omega), if_neg (by omega), if_neg (by omega), if_neg (by simp [eg])]
 unfold pte
 rw [if_neg (by simp [ep]), eh, if_neg (by simp [hop'])]
theorem rwU_pue {src dst s d a b : Int} {zs : List Int} (h : Mt.By zs) (hp : pue 17 src dst zs = 0) (hs : 0 ≤ s ∧ s ≤ 4294967295) (hd : 0 ≤ d ∧ d ≤ 4294967295) (ha : 0 ≤ a ∧ a ≤ 65535) (hb : 0 ≤ b ∧ b ≤ 65535) :
  pue 17 s d (rwU s d a b zs) = 0 ∧ 8 ≤ zs.length := by
 unfold pue at hp
 rw [if_neg (by omega)] at hp
 split at hp
 ·omega
 split at hp
 ·omega
 rename_i h8 h4
 have hl : 8 ≤ zs.length := by omega
 refine ⟨?_, hl⟩
 have hg := rwU_good h hl hs hd ha hb
 unfold pue
 rw [rwU_length, wat_same (rwU_other s d a b zs 4 (by omega) (by omega) (by omega)) (rwU_other s d a b zs 5 (by omega) (by omega) (by omega)), if_neg (by omega), if_neg (by omega), if_neg h4, if_neg (fun e => e.2 (hg e.1))]
theorem rwI_oie {a : Int} {zs : List Int} (h : Mt.By zs) (hp : oie zs = 0) (ha : 0 ≤ a ∧ a ≤ 65535) : oie (rwI a zs) = 0 ∧ pie 1 (rwI a zs) = 0 ∧ pie 1 zs = 0 ∧ 8 ≤ zs.length := by
 have hi : pie 1 zs = 0 := by
  unfold oie at hp
  split at hp
  ·rename_i h1; exact absurd hp h1
  ·rename_i h1; simpa using h1
 have hl : 8 ≤ zs.length := by
  unfold pie at hi
  rw [if_neg (by omega)] at hi
  split at hi <;> omega
 have hi2 : pie 1 (rwI a zs) = 0 := by
  unfold pie
  rw [rwI_length, rwI_good h hl ha, if_neg (by omega), if_neg (by omega), if_neg (by omega)]
 refine ⟨?_, hi2, hi, hl⟩
 unfold oie at hp ⊢
 rw [if_neg (by simp [hi])] at hp
 rw [if_neg (by simp [hi2]), rwI_other a zs 0 (by omega), rwI_other a zs 1 (by omega)]
 exact hp
theorem rwG_pge {b : Int} {zs : List Int} (hp : pge 47 zs = 0) : pge 47 (rwG b zs) = 0 ∧ bgz (rwG b zs) = bgz zs ∧ 8 ≤ zs.length := by
 have hl : 8 ≤ zs.length := by
  unfold pge at hp
  rw [if_neg (by omega)] at hp
  split at hp <;> omega
 have e : ∀ j, j ≠ 6 → j ≠ 7 → (rwG b zs)[j]? = zs[j]? := fun j h1 h2 => Mt.put2_other _ _ _ _ h1 h2
 have eb : bgz (rwG b zs) = bgz zs := by unfold bgz; rw [e 0 (by omega) (by omega), e 1 (by omega) (by omega), e 2 (by omega) (by omega), e 3 (by omega) (by omega)]
 refine ⟨?_, eb, hl⟩
 unfold pge at hp ⊢
 rw [show (rwG b zs).length = zs.length from Mt.put2_length _ _ _, eb, wat_same (e 4 (by omega) (by omega)) (e 5 (by omega) (by omega))]
 exact hp

/-- What is rewritten tells the tuple. -/
theorem rwD_tells {pr src dst s d a b : Int} {zs : List Int} (h : Mt.By zs) (hp : ofe pr src dst zs = 0) (hs : 0 ≤ s ∧ s ≤ 4294967295) (hd : 0 ≤ d ∧ d ≤ 4294967295) (ha : 0 ≤ a ∧ a ≤ 65535) (hb : 0 ≤ b ∧ b ≤ 65535) :
  ofe pr s d (rwD pr s d a b zs) = 0 ∧ ofa pr (rwD pr s d a b zs) = (if pr = 47 then 0 else a) ∧ ofb pr (rwD pr s d a b zs) = (if pr = 1 then a else b) := by
 unfold ofe at hp
 by_cases h6 : pr = 6
 ·subst h6
  rw [if_pos rfl] at hp
  obtain ⟨g1, _, _, h20, _⟩ := rwT_pte (s := s) (d := d) (a := a) (b := b) h hp hs hd ha hb
  unfold ofe ofa ofb rwD
  rw [if_pos rfl, if_pos rfl, if_pos rfl, if_pos rfl, if_neg (by omega), if_neg (by omega)]
  exact ⟨g1, rwT_w0 _ _ _ _ _ h20 ha.1, rwT_w2 _ _ _ _ _ h20 hb.1⟩
 rw [if_neg h6] at hp
 by_cases h17 : pr = 17
 ·subst h17
  rw [if_pos rfl] at hp
  obtain ⟨g1, h8⟩ := rwU_pue (s := s) (d := d) (a := a) (b := b) h hp hs hd ha hb
  unfold ofe ofa ofb rwD
  rw [if_neg h6, if_neg h6, if_neg h6, if_neg h6, if_pos rfl, if_pos rfl, if_pos rfl, if_pos rfl, if_neg (by omega), if_neg (by omega)]
  exact ⟨g1, rwU_w0 _ _ _ _ _ h8 ha.1, rwU_w2 _ _ _ _ _ h8 hb.1⟩
 rw [if_neg h17] at hp
 by_cases h1 : pr = 1
 ·subst h1
  rw [if_pos rfl] at hp
  obtain ⟨g1, _, _, h8⟩ := rwI_oie (a := a) h hp ha
  unfold ofe ofa ofb rwD
  rw [if_neg h6, if_neg h6, if_neg h6, if_neg h6, if_neg h17, if_neg h17, if_neg h17, if_neg h17, if_pos rfl, if_pos rfl, if_pos rfl, if_pos rfl, if_neg (by omega), if_pos rfl]
  exact ⟨g1, rwI_w4 _ _ h8 ha.1, rwI_w4 _ _ h8 ha.1⟩
 rw [if_neg h1] at hp
 by_cases h47 : pr = 47
 ·subst h47
  rw [if_pos rfl] at hp
  obtain ⟨g1, _, h8⟩ := rwG_pge (b := b) hp
  unfold ofe ofa ofb rwD
  rw [if_neg h6, if_neg h6, if_neg h6, if_neg h6, if_neg h17, if_neg h17, if_neg h17, if_neg h17, if_neg h1, if_neg h1, if_neg h1, if_neg h1, if_pos rfl, if_pos rfl, if_neg h1]
  refine ⟨g1, rfl, ?_⟩
  rw [getAt2_lit _ 6 6 rfl (by unfold rwG; rw [Mt.put2_length]; omega)]
  exact wat_put2 _ _ _ (by omega) hb.1
 ·rw [if_neg h47] at hp
  omega
end Go.Proofs.YtghpakfjpdifaaaGreatDoor

/- Package mangle: a unit in memory, and what its methods do. -/
namespace Go.Proofs.YtghpakfjpdifaaaGreatDoor
open Go.RowKit Go.Shelf
set_option maxRecDepth 100000
set_option linter.unusedVariables false
set_option linter.unusedSimpArgs false

/-- A unit's tuples: as it was, as it is to be. -/
structure Un where
 p1 : Int
 s1 : Int
 d1 : Int
 a1 : Int
 b1 : Int
 pr : Int
 s : Int
 d : Int
 a : Int
 b : Int
def unc (u : Un) (bv : Value) : Array Value := #[bv, .int .u8 u.p1, .int .u32 u.s1, .int .u32 u.d1, .int .u16 u.a1, .int .u16 u.b1, .int .u8 u.pr, .int .u32 u.s, .int .u32 u.d, .int .u16 u.a, .int .u16 u.b]
def UB (w : World) (g : Nat) (u : Un) (bv : Value) : Prop := w.heap[g]? = some (.cells (unc u bv) 97 (0, 0))
/-- A unit whose bytes read as zs; whose bytes are the call's own. -/
def UR (w : World) (g : Nat) (u : Un) (zs : List Int) : Prop := ∃ bv, UB w g u bv ∧ Rd w.heap.size w bv zs
def US (base : Nat) (w : World) (g : Nat) (u : Un) (zs : List Int) : Prop := ∃ bv, UB w g u bv ∧ Ow base w bv zs
theorem US.ur {base : Nat} {w : World} {g : Nat} {u : Un} {zs : List Int} (h : US base w g u zs) : UR w g u zs := by
 obtain ⟨bv, h1, h2⟩ := h
 exact ⟨bv, h1, h2.rd⟩
theorem UB.later {w w' : World} {g : Nat} {u : Un} {bv : Value} (h : UB w g u bv) (l : Later w w') : UB w' g u bv := (l.block g (bl9 h)).trans h
theorem UR.later {w w' : World} {g : Nat} {u : Un} {zs : List Int} (h : UR w g u zs) (l : Later w w') : UR w' g u zs := by
 obtain ⟨bv, h1, h2⟩ := h
 exact ⟨bv, h1.later l, (h2.below l).mono l.size⟩
theorem US.later {base : Nat} {w w' : World} {g : Nat} {u : Un} {zs : List Int} (h : US base w g u zs) (l : Later w w') : US base w' g u zs := by
 obtain ⟨bv, h1, h2⟩ := h
 exact ⟨bv, h1.later l, h2.later l⟩
def UQ (base : Nat) (w : World) (g : Nat) (u : Un) (zs : List Int) (e : Ending) (w' : World) : Prop := e = .returned (.tuple #[]) ∧ US base w' g u zs ∧ But (fun q => q = g) w w'

set_option maxHeartbeats 2000000 in
theorem uput_any (base : Nat) (g : Nat) (u : Un) (zs : List Int) (p v : Int) (w : World) (h : UR w g u zs) (hb : base ≤ w.heap.size) (hl : zs.length ≤ 140737488355328) (hv : 0 ≤ v ∧ v ≤ 65535) :
  Calls Tryz.prog 111 #[.pointer (some ⟨g, 0, none⟩), .int .i64 p, .int .u16 v] w fun e w' => UQ base w g u (putAt2 zs p v) e w' := by
 obtain ⟨bv, hU, hI⟩ := h
 obtain ⟨a, cap, rfl, hl1, hm1⟩ := hI.slice
 have CU := block_cell hU
 simp only [unc] at CU
 go_enter Tryz.func111, Tryz.ntmps111
 go_wp2_with fail
 refine (put16_any _ zs p v w hl hI hv).mono ?_
 rintro e w1 ⟨a1, rfl, hO, hb1⟩
 have l1 : Later w w1 := hb1
 have hU1 := hU.later l1
 have C1 := block_cell hU1
 have F1 := block_frozen hU1
 simp only [unc] at C1
 have hB : But (fun q => q = g) w1 (w1.setCell ⟨g, 0, none⟩ (.slice a1 zs.length zs.length)) := But.setCell (E := fun q => q = g) (But.refl _ _) (p := ⟨g, 0, none⟩) rfl _
 have hU2 : UB (w1.setCell ⟨g, 0, none⟩ (.slice a1 zs.length zs.length)) g u (.slice a1 zs.length zs.length) := heap_set1 hU1 0 _
 have HB := hide hB
 have HU2 := hide hU2
 have hO2 := hide (Ow.aside (hO.mono hb) hU1 (by decide) hB)
 clear hB hU2 CU hU hI
 go_wp2_with fail
 go_end0
 exact ⟨rfl, ⟨_, HU2.out, hO2.out⟩, (But.of l1).trans HB.out⟩

theorem uget_any {n : Nat} (g : Nat) (u : Un) (zs : List Int) (hB : Mt.By zs) (p : Int) (w : World) (h : UR w g u zs) :
  Calls Tryz.prog 113 #[.pointer (some ⟨g, 0, none⟩), .int .i64 p] w fun e w' => e = .returned (.int .u16 (getAt2 zs p)) ∧ ∃ n, w' = w.drewN n := by
 obtain ⟨bv, hU, hI⟩ := h
 obtain ⟨a, cap, rfl, hl1, hm1⟩ := hI.slice
 have CU := block_cell hU
 simp only [unc] at CU
 go_enter Tryz.func113, Tryz.ntmps113
 go_wp2_with fail
 refine (get16_at _ zs hB p w hI).mono ?_
 rintro e w1 ⟨rfl, n, rfl⟩
 go_wp2_with fail
 go_ret
 exact ⟨rfl, n, rfl⟩

theorem ubare_any (g : Nat) (u : Un) (zs : List Int) (hB : Mt.By zs) (w : World) (h : UR w g u zs) :
  Calls Tryz.prog 114 #[.pointer (some ⟨g, 0, none⟩)] w fun e w' => e = .returned (.bool (getAt2 zs 6 == 0)) ∧ Later w w' := by
 go_enter Tryz.func114, Tryz.ntmps114
 go_wp2_with fail
 refine (uget_any (n := 0) g u zs hB 6 w h).mono ?_
 rintro e w1 ⟨rfl, n, hq⟩
 have l1 : Later w w1 := by rw [hq]; exact below_draw (Below.refl _ _) n
 clear hq
 go_wp2_with fail
 go_ret
 exact ⟨rfl, l1⟩

theorem notBare_any (x : Int) (w : World) : Calls Tryz.prog 115 #[.int .u16 x] w fun e w' => e = .returned (.int .u16 (nbr x)) ∧ w' = w := by
 by_cases h : x = 0
 ·subst h
  go_enter Tryz.func115, Tryz.ntmps115
  go_wp2_with fail
  go_ret
  exact ⟨rfl, rfl⟩
 ·have h0 : (x == 0) = false := by simp [h]
  rw [show nbr x = x from by unfold nbr; rw [if_neg h]]
  clear h
  go_enter Tryz.func115, Tryz.ntmps115
  go_wp2_with fail
  go_ret
  exact ⟨rfl, rfl⟩

set_option maxHeartbeats 2000000 in
theorem uports_any (base : Nat) (g : Nat) (u : Un) (zs : List Int) (w : World) (h : UR w g u zs) (hb : base ≤ w.heap.size) (hl : zs.length ≤ 140737488355328) (h4 : 4 ≤ zs.length) (ha : 0 ≤ u.a ∧ u.a ≤ 65535) (hbb : 0 ≤ u.b ∧ u.b ≤ 65535) :
  Calls Tryz.prog 110 #[.pointer (some ⟨g, 0, none⟩)] w fun e w' => UQ base w g u (prt u.a u.b zs) e w' := by
 have HP := hide (fun w (h : UR w g u zs) (hb : base ≤ w.heap.size) => uput_any base g u zs 0 u.a w h hb hl ha)
 rw [putAt2_lit zs 0 0 u.a rfl (by omega)] at HP
 obtain ⟨bv, hU, _⟩ := id h
 have CU := block_cell hU
 simp only [unc] at CU
 go_enter Tryz.func110, Tryz.ntmps110
 go_wp2_with fail
 refine (HP.out w h hb).mono ?_
 rintro e w1 ⟨rfl, hS, b1⟩
 obtain ⟨bv1, hU1, _⟩ := id hS
 have C1 := block_cell hU1
 simp only [unc] at C1
 have hbb1 : base ≤ w1.heap.size := Nat.le_trans hb b1.size
 clear CU hU HP
 go_wp2_with fail
 refine (uput_any base g u _ 2 u.b w1 hS.ur hbb1 (by rw [Mt.put2_length]; exact hl) hbb).mono ?_
 rw [putAt2_lit _ 2 2 u.b rfl (by rw [Mt.put2_length]; omega)]
 rintro e w2 ⟨rfl, hS2, b2⟩
 go_wp2_with fail
 go_end0
 exact ⟨rfl, hS2, b1.trans b2⟩

set_option maxHeartbeats 2000000 in
theorem usummed_any (g : Nat) (u : Un) (zs : List Int) (w : World) (h : UR w g u zs) (hl : 12 + zs.length ≤ 140737488355328) (hsr : 0 ≤ u.s ∧ u.s ≤ 4294967295) (hds : 0 ≤ u.d ∧ u.d ≤ 4294967295) :
  Calls Tryz.prog 119 #[.pointer (some ⟨g, 0, none⟩)] w fun e w' => ∃ a c, e = .returned (.slice a (12 + zs.length) c) ∧ Ow w.heap.size w' (.slice a (12 + zs.length) c) (psd u.s u.d u.pr zs.length ++ zs) ∧ Later w w' := by
 obtain ⟨i0, hi, hz0, hz1, hz2⟩ := info_parts info_u8
 obtain ⟨bv, hU, hI⟩ := h
 obtain ⟨a, cap, rfl, hl1, hm1⟩ := hI.slice
 go_enter Tryz.func119, Tryz.ntmps119
 go_upto_region 1 with fail
 refine anyT_begin (R := Later) 27 rfl (by kernel_rfl) ?_
 have hd : Later w w.drew := Later.drew w
 have hI1 := hI.below hd
 have hs1 : w.heap.size ≤ w.drew.heap.size := hd.size
 have qp : ∀ v1, Later w.drew v1 → ∀ i, v1.cell? ⟨g, i, none⟩ = #[Value.slice a zs.length cap, .int .u8 u.p1, .int .u32 u.s1, .int .u32 u.d1, .int .u16 u.a1, .int .u16 u.b1, .int .u8 u.pr, .int .u32 u.s, .int .u32 u.d, .int .u16 u.a, .int .u16 u.b][i]? := fun v1 h => block_cell (hU.later (hd.trans h))
 generalize w.drew = W1 at *
 refine tV Later.pre 0 rfl rfl ?_; apply Exists.intro; refine ⟨fun v1 hv1 => ?_, ?_⟩; (· (go_simp; rfl)); simp only [Act.put, sA, sB, sC]
 refine tV Later.pre 1 rfl rfl ?_; apply Exists.intro; refine ⟨fun v1 hv1 => ?_, ?_⟩; (· (go_simp; rfl)); simp only [Act.put, sA, sB, sC]
 refine tV Later.pre 2 rfl rfl ?_; apply Exists.intro; refine ⟨fun v1 hv1 => ?_, ?_⟩; (· (go_simp; rfl)); simp only [Act.put, sA, sB, sC]
 refine tV Later.pre 3 rfl rfl ?_; apply Exists.intro; refine ⟨fun v1 hv1 => ?_, ?_⟩; (· (go_simp; rfl)); simp only [Act.put, sA, sB, sC]
 refine tV Later.pre 4 rfl rfl ?_; apply Exists.intro; refine ⟨fun v1 hv1 => ?_, ?_⟩; (· (go_simp; rfl)); simp only [Act.put, sA, sB, sC]
 refine tV Later.pre 5 rfl rfl ?_; apply Exists.intro; refine ⟨fun v1 hv1 => ?_, ?_⟩; (· (go_simp; rfl)); simp only [Act.put, sA, sB, sC]
 refine tV Later.pre 6 rfl rfl ?_; apply Exists.intro; refine ⟨fun v1 hv1 => ?_, ?_⟩; (· (go_simp; rfl)); simp only [Act.put, sA, sB, sC]
 refine tV Later.pre 7 rfl rfl ?_; apply Exists.intro; refine ⟨fun v1 hv1 => ?_, ?_⟩; (· (go_simp; rfl)); simp only [Act.put, sA, sB, sC]
 refine tV Later.pre 8 rfl rfl ?_; apply Exists.intro; refine ⟨fun v1 hv1 => ?_, ?_⟩; (· (go_simp; rfl)); simp only [Act.put, sA, sB, sC]
 refine tV Later.pre 9 rfl rfl ?_; apply Exists.intro; refine ⟨fun v1 hv1 => ?_, ?_⟩; (· (go_simp; rfl)); simp only [Act.put, sA, sB, sC]
 refine tV Later.pre 10 rfl rfl ?_; apply Exists.intro; refine ⟨fun v1 hv1 => ?_, ?_⟩; (· (go_simp; rfl)); simp only [Act.put, sA, sB, sC]
 refine tV Later.pre 11 rfl rfl ?_; apply Exists.intro; refine ⟨fun v1 hv1 => ?_, ?_⟩; (· (go_simp; rfl)); simp only [Act.put, sA, sB, sC]
 refine tV Later.pre 12 rfl rfl ?_; apply Exists.intro; refine ⟨fun v1 hv1 => ?_, ?_⟩; (· (go_simp; rfl)); simp only [Act.put, sA, sB, sC]
 refine tV Later.pre 13 rfl rfl ?_; apply Exists.intro; refine ⟨fun v1 hv1 => ?_, ?_⟩; (· (go_simp; rfl)); simp only [Act.put, sA, sB, sC]
 refine tV Later.pre 14 rfl rfl ?_; apply Exists.intro; refine ⟨fun v1 hv1 => ?_, ?_⟩; (· (go_simp; rfl)); simp only [Act.put, sA, sB, sC]
 refine tV Later.pre 15 rfl rfl ?_; apply Exists.intro; refine ⟨fun v1 hv1 => ?_, ?_⟩; (· (go_simp; rfl)); simp only [Act.put, sA, sB, sC]
 refine tV Later.pre 16 rfl rfl ?_; apply Exists.intro; refine ⟨fun v1 hv1 => ?_, ?_⟩; (· (go_simp; rfl)); simp only [Act.put, sA, sB, sC]
 refine tV Later.pre 17 rfl rfl ?_; apply Exists.intro; refine ⟨fun v1 hv1 => ?_, ?_⟩; (· (go_simp; rfl)); simp only [Act.put, sA, sB, sC]
 refine tV Later.pre 18 rfl rfl ?_; apply Exists.intro; refine ⟨fun v1 hv1 => ?_, ?_⟩; (· (go_simp; rfl)); simp only [Act.put, sA, sB, sC]
 refine tV Later.pre 19 rfl rfl ?_; apply Exists.intro; refine ⟨fun v1 hv1 => ?_, ?_⟩; (· (go_simp; rfl)); simp only [Act.put, sA, sB, sC]
 refine tV Later.pre 21 rfl rfl ?_; apply Exists.intro; refine ⟨fun v1 hv1 => ?_, ?_⟩; (· (go_simp; rfl)); simp only [Act.put, sA, sB, sC]
 refine tV Later.pre 22 rfl rfl ?_; apply Exists.intro; refine ⟨fun v1 hv1 => ?_, ?_⟩; (· (go_simp; rfl)); simp only [Act.put, sA, sB, sC]
 refine tV Later.pre 23 rfl rfl ?_; apply Exists.intro; refine ⟨fun v1 hv1 => ?_, ?_⟩; (· (go_simp; rfl)); simp only [Act.put, sA, sB, sC]
 refine tV Later.pre 24 rfl rfl ?_; apply Exists.intro; refine ⟨fun v1 hv1 => ?_, ?_⟩; (· (go_simp; rfl)); simp only [Act.put, sA, sB, sC]
 refine anyT_one 20 rfl (by kernel_rfl) rfl ?_
 refine wp_enter 128 #[.int .u32 u.s, .int .u32 u.d, .int .u8 u.pr, .int .i64 zs.length] (by go_simp) ?_
 refine (pseudo_any u.s u.d u.pr zs.length hsr hds W1).mono ?_
 rintro e w2 ⟨a2, rfl, hO2, hb2⟩
 refine ⟨hb2, ?_⟩
 simp only [Act.put, sA, sB, sC]
 have l2 : Later w w2 := hd.trans hb2
 obtain ⟨v3, w3, hr3, hO3, hb3⟩ := run_app_ow (P := Tryz.prog) w2 24 24 W1.heap.size i0 Tryz.underlying24 hi hz0 hz1 hz2 a2 12 _ hO2 (by simp [psd]) w.heap.size _ zs (hI.below l2) (by rw [psd_length]; omega) hb2.size
 refine anyT_one 25 rfl (by kernel_rfl) rfl ?_
 obtain ⟨a3, c3, rfl, _, _⟩ := hO3.slice
 rw [List.length_append, psd_length] at hr3 hO3
 refine wp_app (.tmp 23) (.tmp 27) 24 rfl _ _ rfl rfl _ w3 hr3 ⟨hb3, ?_⟩
 simp only [Act.put, sA, sB, sC]
 clear qp
 refine tV Later.pre 26 rfl rfl ?_; apply Exists.intro; refine ⟨fun v1 hv1 => ?_, ?_⟩; (· (go_simp; rfl)); simp only [Act.put, sA, sB, sC]
 refine anyT_done (by kernel_rfl) ?_
 go_wp2_with fail
 go_ret
 exact ⟨a3, c3, rfl, hO3.mono hs1, l2.trans hb3⟩
end Go.Proofs.YtghpakfjpdifaaaGreatDoor
