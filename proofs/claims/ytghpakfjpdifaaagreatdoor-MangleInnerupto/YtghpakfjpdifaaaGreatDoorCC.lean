/- Package ctrl: what a packet's message is; what kind it is. -/
import Derived.Test.YtghpakfjpdifaaaGreatDoorCB
namespace Go.Proofs.YtghpakfjpdifaaaGreatDoor
open Go.RowKit Go.Shelf
set_option maxRecDepth 100000
set_option linter.unusedVariables false
set_option linter.unusedSimpArgs false

/-- What a packet's message is refused with (0: nothing). -/
def pie (proto : Int) (zs : List Int) : Int := if proto ≠ 1 then 12 else if zs.length < 8 then 3 else if Mt.cks zs ≠ 0 then 5 else 0
/-- A message's cells of zeros. -/
abbrev zm : List Value := [.int .u8 0, .int .u8 0, .int .u32 0, .slice none 0 0]

set_option maxHeartbeats 4000000 in
theorem parseIcmp_any (tos id ttl proto src dst : Int) (keep : Bool) (so sd : Value) (zs : List Int) (w : World) (hB : Mt.By zs) (hI : Rd w.heap.size w sd zs) (hl : zs.length ≤ 140737488355328) :
  Calls Tryz.prog 17 #[.agg #[.int .u8 tos, .int .u16 id, .bool keep, .int .u8 ttl, .int .u8 proto, .int .u32 src, .int .u32 dst, so, sd]] w fun e w' => Below w.heap.size w w' ∧ ((pie proto zs ≠ 0 ∧ e = .returned (.tuple #[.agg zm.toArray, .int .i64 (pie proto zs)])) ∨
   (pie proto zs = 0 ∧ ∃ ad cd, e = .returned (.tuple #[.agg #[.int .u8 (zs[0]?.getD 0), .int .u8 (zs[1]?.getD 0), .int .u32 (wat4 zs 4), .slice ad (zs.length - 8) cd], .int .i64 0]) ∧ Ow w.heap.size w' (.slice ad (zs.length - 8) cd) (zs.drop 8))) := by
 obtain ⟨ad, cd, rfl, hl1, hm1⟩ := hI.slice
 have hb0 : Below w.heap.size w ((w.alloc (.cells #[.int .u8 tos, .int .u16 id, .bool keep, .int .u8 ttl, .int .u8 proto, .int .u32 src, .int .u32 dst, so, .slice ad zs.length cd] 26)).alloc (.cells zm.toArray 42)) := ((Below.refl _ _).alloc (Nat.le_refl _) _).alloc (by simp) _
 have p0 : ((w.alloc (.cells #[.int .u8 tos, .int .u16 id, .bool keep, .int .u8 ttl, .int .u8 proto, .int .u32 src, .int .u32 dst, so, .slice ad zs.length cd] 26)).alloc (.cells zm.toArray 42)).heap[w.heap.size]? = some (.cells #[.int .u8 tos, .int .u16 id, .bool keep, .int .u8 ttl, .int .u8 proto, .int .u32 src, .int .u32 dst, so, .slice ad zs.length cd] 26) := (Below.heap_alloc _ _ _ (by simp)).trans (heap_alloc_new w _)
 have r0 : ((w.alloc (.cells #[.int .u8 tos, .int .u16 id, .bool keep, .int .u8 ttl, .int .u8 proto, .int .u32 src, .int .u32 dst, so, .slice ad zs.length cd] 26)).alloc (.cells zm.toArray 42)).heap[w.heap.size + 1]? = some (.cells zm.toArray 42 (0, 0)) := by have := heap_alloc_new (w.alloc (.cells #[.int .u8 tos, .int .u16 id, .bool keep, .int .u8 ttl, .int .u8 proto, .int .u32 src, .int .u32 dst, so, .slice ad zs.length cd] 26)) (.cells zm.toArray 42); simpa using this
 have hs0 : ((w.alloc (.cells #[.int .u8 tos, .int .u16 id, .bool keep, .int .u8 ttl, .int .u8 proto, .int .u32 src, .int .u32 dst, so, .slice ad zs.length cd] 26)).alloc (.cells zm.toArray 42)).heap.size = w.heap.size + 1 + 1 := by simp
 have P0 := hide p0
 have R0 := hide r0
 have HS := hide hs0
 clear p0 r0 hs0
 by_cases c1 : proto = 1
 ·have t1 : (proto != 1) = false := by simp [c1]
  have C1 := hide c1
  clear c1
  by_cases c2 : zs.length < 8
  ·have t2 : (zs.length : Int) < 8 := by omega
   have HF : Hid (pie proto zs = 3) := by show _ = _; unfold pie; rw [if_neg (by simp [C1.out]), if_pos c2]
   go_enter Tryz.func17, Tryz.ntmps17
   go_wp2_with fail
   exact bodyPost_ret (v := .tuple #[.agg zm.toArray, .int .i64 3]) (by simp [results, Tryz.results17, go_sem]) rfl ⟨hb0, .inl ⟨by rw [HF.out]; decide, by rw [HF.out]⟩⟩
  ·have t2 : ¬ (zs.length : Int) < 8 := by omega
   by_cases c3 : Mt.cks zs = 0
   ·have HF : Hid (pie proto zs = 0) := by show _ = _; unfold pie; rw [if_neg (by simp [C1.out]), if_neg c2, if_neg (by simp [c3])]
    have t3 : (Mt.cks zs == 0) = true := by simp [c3]
    have C3 := hide c3
    clear c3
    go_enter Tryz.func17, Tryz.ntmps17
    go_wp2_with fail
    generalize (w.alloc (.cells #[.int .u8 tos, .int .u16 id, .bool keep, .int .u8 ttl, .int .u8 proto, .int .u32 src, .int .u32 dst, so, .slice ad zs.length cd] 26)).alloc (.cells zm.toArray 42) = W0 at *
    obtain ⟨b, off, cap, e0, hlc, hmc, hbb, hcs⟩ := hI.cells (by omega)
    have hcl := e0
    simp at hcl
    obtain ⟨rfl, rfl⟩ := hcl
    clear e0
    have d0 := hcs 0 (by omega)
    have d1 := hcs 1 (by omega)
    refine (good_any _ zs hB hl W0 ((hI.below hb0).mono hb0.size)).mono ?_
    rintro e w1 ⟨rfl, hb1⟩
    rw [t3]
    have r1 := (hb1.block (w.heap.size + 1) (by have := HS.out; omega)).trans R0.out
    have hw1 : Below w.heap.size w w1 := hb0.trans (hb1.mono hb0.size)
    have hs1 : w.heap.size + 1 + 1 ≤ w1.heap.size := by have := hb1.size; have := HS.out; omega
    go_wp2_with fail
    have HX0 : Hid (zs[0]?.getD 0 = zs[0]?.getD 0) := rfl
    generalize gx0 : zs[0]?.getD 0 = x0 at *
    generalize gx1 : zs[1]?.getD 0 = x1 at *
    clear HX0
    have GX0 := hide gx0
    have GX1 := hide gx1
    clear gx0 gx1
    obtain ⟨Φ, HΦ⟩ : ∃ Φ : Array Value → World → Prop, Hid (Φ = (fun arr W => ∃ ad cd, arr = #[.int .u8 x0, .int .u8 x1, .int .u32 (wat4 zs 4), .slice ad (zs.length - 8) cd] ∧ Ow (w.heap.size + 1 + 1) W (.slice ad (zs.length - 8) cd) (zs.drop 8))) := ⟨_, rfl⟩
    have hΦ : Stays Φ := by
     rw [HΦ.out]
     rintro arr A B l ⟨ad, cd, h1, h2⟩
     exact ⟨ad, cd, h1, h2.later l⟩
    refine anyR_begin (R := KR (w.heap.size + 1) 4 42 Φ) (Keep.pre _ _ _) (fun w => KR.of hΦ (Later.drew w)) 14 rfl (by kernel_rfl) (fun W1 hW1 => ?_)
    have hg1 : Wr (w.heap.size + 1) 4 42 W1 := hW1.2.1 ⟨_, r1, rfl⟩
    have hbut : ∀ v1, KR (w.heap.size + 1) 4 42 Φ W1 v1 → But (fun b => b = w.heap.size + 1) w1 v1 := fun v1 h => hW1.1.trans h.1
    have hbel : ∀ v1, KR (w.heap.size + 1) 4 42 Φ W1 v1 → Below w.heap.size w v1 := fun v1 h => hw1.trans ((hbut v1 h).below (by omega) (fun k h e => by omega))
    have q0 : ∀ v1, KR (w.heap.size + 1) 4 42 Φ W1 v1 → v1.cell? ⟨b, off, none⟩ = some (.int .u8 x0) := fun v1 h => ((hbel v1 h).cell (p := ⟨b, off, none⟩) hbb).trans d0
    have q1 : ∀ v1, KR (w.heap.size + 1) 4 42 Φ W1 v1 → v1.cell? ⟨b, off + 1, none⟩ = some (.int .u8 x1) := fun v1 h => ((hbel v1 h).cell (p := ⟨b, off + 1, none⟩) hbb).trans d1
    have hr : ∀ v1, KR (w.heap.size + 1) 4 42 Φ W1 v1 → Rd w.heap.size v1 (.slice (some ⟨b, off, none⟩) zs.length cd) zs := fun v1 h => hI.below (hbel v1 h)
    have i0 : 0 < zs.length := by omega
    have i1 : (1 : Int) < zs.length := by omega
    have i8 : (8 : Int) ≤ zs.length := by omega
    have i8c : (zs.length : Int) ≤ cd := by omega
    clear d0 d1
    refine rV (Keep.pre _ _ _) 0 rfl rfl ?_; apply Exists.intro; refine ⟨fun w1 hw1 => ?_, ?_⟩; (· (go_simp; rfl)); simp only [Act.put, sA, sB, sC]
    refine rV (Keep.pre _ _ _) 1 rfl rfl ?_; apply Exists.intro; refine ⟨fun w1 hw1 => ?_, ?_⟩; (· (go_simp; rfl)); simp only [Act.put, sA, sB, sC]
    refine rV (Keep.pre _ _ _) 2 rfl rfl ?_; apply Exists.intro; refine ⟨fun w1 hw1 => ?_, ?_⟩; (· (go_simp; rfl)); simp only [Act.put, sA, sB, sC]
    refine rV (Keep.pre _ _ _) 3 rfl rfl ?_; apply Exists.intro; refine ⟨fun w1 hw1 => ?_, ?_⟩; (· (go_simp; rfl)); simp only [Act.put, sA, sB, sC]
    refine rV (Keep.pre _ _ _) 4 rfl rfl ?_; apply Exists.intro; refine ⟨fun w1 hw1 => ?_, ?_⟩; (· (go_simp; rfl)); simp only [Act.put, sA, sB, sC]
    refine rV (Keep.pre _ _ _) 5 rfl rfl ?_; apply Exists.intro; refine ⟨fun w1 hw1 => ?_, ?_⟩; (· (go_simp; rfl)); simp only [Act.put, sA, sB, sC]
    refine rV (Keep.pre _ _ _) 6 rfl rfl ?_; apply Exists.intro; refine ⟨fun w1 hw1 => ?_, ?_⟩; (· (go_simp; rfl)); simp only [Act.put, sA, sB, sC]
    refine anyR_take (Keep.pre _ _ _) 7 (.int .u32 (wat4 zs 4)) rfl (by kernel_rfl) (by kernel_rfl) (by kernel_rfl) (fun _ _ _ h => h) rfl (fun v1 hv1 => goes_call 49 #[.slice (some ⟨b, off, none⟩) zs.length cd, .int .i64 4] (by go_simp) ?_) ?_
    ·exact (get32_rd _ zs hB 4 (by omega) v1 (hr v1 hv1)).mono fun e w' ⟨he, q, hw⟩ => ⟨he, KR.of hΦ (by rw [hw]; exact below_draw (Later.refl v1) q)⟩
    simp only [Act.put, sA, sB, sC]
    refine rV (Keep.pre _ _ _) 8 rfl rfl ?_; apply Exists.intro; refine ⟨fun w1 hw1 => ?_, ?_⟩; (· (go_simp; rfl)); simp only [Act.put, sA, sB, sC]
    refine rV (Keep.pre _ _ _) 9 rfl rfl ?_; apply Exists.intro; refine ⟨fun w1 hw1 => ?_, ?_⟩; (· (go_simp; rfl)); simp only [Act.put, sA, sB, sC]
    have hs8 : ∀ v1, KR (w.heap.size + 1) 4 42 Φ W1 v1 → Rd w.heap.size v1 (.slice (if cd = 8 then some (⟨b, off, none⟩ : Addr) else some ⟨b, off + 8, none⟩) (zs.length - 8) (cd - 8)) (zs.drop 8) := fun v1 h => (hr v1 h).cutAt 8 (by omega)
    generalize (if cd = 8 then some (⟨b, off, none⟩ : Addr) else some ⟨b, off + 8, none⟩) = ad8 at *
    refine anyR_one 10 rfl (by kernel_rfl) rfl (fun W2 hW2 => ?_)
    refine wp_enter 50 #[.slice ad8 (zs.length - 8) (cd - 8)] (by go_simp) ?_
    refine (cloneb_any _ (zs.drop 8) W2 (by simp; omega) ((hs8 W2 hW2).mono (hbel W2 hW2).size)).mono ?_
    rw [List.length_drop]
    rintro e W5 ⟨a5, c5, rfl, hO5, hb5⟩
    have hW15 := hW2.trans (KR.of hΦ hb5)
    have hs2 : w.heap.size + 1 + 1 ≤ W2.heap.size := Nat.le_trans hs1 (hbut W2 hW2).size
    refine ⟨KR.of hΦ hb5, ?_⟩
    simp only [Act.put, sA, sB, sC]
    refine rV (Keep.pre _ _ _) 11 rfl rfl ?_; apply Exists.intro; refine ⟨fun w1 hw1 => ?_, ?_⟩; (· (go_simp; rfl)); simp only [Act.put, sA, sB, sC]
    refine anyR_one 12 rfl (by kernel_rfl) rfl (fun W6 hW6 => ?_)
    have hW16 := hW15.trans hW6
    have hg6 := hW16.2.1 hg1
    have hg6' := hg6
    obtain ⟨cur, hcur, hsz⟩ := hg6'
    have k6 : ∀ j, W6.cell? ⟨w.heap.size + 1, j, none⟩ = cur[j]? := block_cell hcur
    have f6 : ∀ j, W6.frozen? ⟨w.heap.size + 1, j, none⟩ = false := block_frozen hcur
    unfold Oper.wp
    go_simp
    generalize hV7 : (((W6.setCell ⟨w.heap.size + 1, 0, none⟩ _).setCell ⟨w.heap.size + 1, 1, none⟩ _).setCell ⟨w.heap.size + 1, 2, none⟩ _).setCell ⟨w.heap.size + 1, 3, none⟩ _ = V7
    have hV8 : V7 = putRow W6 (w.heap.size + 1) 0 [.int .u8 x0, .int .u8 x1, .int .u32 (wat4 zs 4), .slice a5 (zs.length - 8) c5] := hV7.symm
    have hSt := KR.store (Φ := Φ) [.int .u8 x0, .int .u8 x1, .int .u32 (wat4 zs 4), .slice a5 (zs.length - 8) c5] hg6 rfl (by rw [HΦ.out]; exact ⟨a5, c5, rfl, ((hO5.but hW6.1 (fun b h e => by omega)).but (putRow_rb (rb := w.heap.size + 1) _ _) (fun b h e => by omega)).mono hs2⟩)
    rw [← hV8] at hSt
    clear hV7 hV8 k6 f6
    refine ⟨hSt.1, ?_⟩
    refine rV (Keep.pre _ _ _) 13 rfl rfl ?_; apply Exists.intro; refine ⟨fun w1 hw1 => ?_, ?_⟩; (· (go_simp; rfl)); simp only [Act.put, sA, sB, sC]
    refine anyR_done (by kernel_rfl) (fun W8 hW8 => ?_)
    obtain ⟨arr, hh8, hP8⟩ := hW8.2.2 hSt.2
    have hw8 := hbel W8 ((hW16.trans hSt.1).trans hW8)
    clear hSt q0 q1 hr hs8 hbut
    rw [HΦ.out] at hP8
    obtain ⟨ad8', cd8, rfl, hO8⟩ := hP8
    have r8 := block_cell hh8
    go_wp2_with fail
    exact bodyPost_ret (v := .tuple #[.agg #[.int .u8 x0, .int .u8 x1, .int .u32 (wat4 zs 4), .slice ad8' (zs.length - 8) cd8], .int .i64 0]) (by simp [results, Tryz.results17, go_sem, r8]) rfl ⟨hw8, .inr ⟨HF.out, ad8', cd8, by rw [GX0.out, GX1.out], hO8.mono (by omega)⟩⟩
   ·have HF : Hid (pie proto zs = 5) := by show _ = _; unfold pie; rw [if_neg (by simp [C1.out]), if_neg c2, if_pos c3]
    have t3 : (Mt.cks zs == 0) = false := by simp [c3]
    clear c3
    go_enter Tryz.func17, Tryz.ntmps17
    go_wp2_with fail
    generalize (w.alloc (.cells #[.int .u8 tos, .int .u16 id, .bool keep, .int .u8 ttl, .int .u8 proto, .int .u32 src, .int .u32 dst, so, .slice ad zs.length cd] 26)).alloc (.cells zm.toArray 42) = W0 at *
    refine (good_any _ zs hB hl W0 ((hI.below hb0).mono hb0.size)).mono ?_
    rintro e w1 ⟨rfl, hb1⟩
    rw [t3]
    have r1 := (hb1.block (w.heap.size + 1) (by have := HS.out; omega)).trans R0.out
    have r1c := block_cell r1
    have r1f := block_frozen r1
    have hw1 : Below w.heap.size w w1 := hb0.trans (hb1.mono hb0.size)
    go_wp2_with fail
    generalize hV : (((w1.setCell ⟨w.heap.size + 1, 0, none⟩ _).setCell ⟨w.heap.size + 1, 1, none⟩ _).setCell ⟨w.heap.size + 1, 2, none⟩ _).setCell ⟨w.heap.size + 1, 3, none⟩ _ = V8
    have hV9 : V8 = putRow w1 (w.heap.size + 1) 0 zm := hV.symm
    have hb8 : But (fun b => b = w.heap.size + 1) w1 V8 := by rw [hV9]; exact putRow_but (E := fun b => b = w.heap.size + 1) (n := w.heap.size + 1) rfl _ _ _ _ (But.refl _ _)
    have p8 := putRow_all zm r1 rfl
    rw [← hV9] at p8
    clear hV hV9
    have P8 := block_cell p8
    have hw8 : Below w.heap.size w V8 := (hw1).trans (hb8.below (hw1).size (fun k h e => by omega))
    exact bodyPost_ret (v := .tuple #[.agg zm.toArray, .int .i64 5]) (by simp [results, Tryz.results17, go_sem, P8]) rfl (⟨hw8, .inl ⟨by rw [HF.out]; decide, by rw [HF.out]⟩⟩)
 ·have t1 : (proto != 1) = true := by simp [c1]
  have HF : Hid (pie proto zs = 12) := by show _ = _; unfold pie; rw [if_pos c1]
  clear c1
  go_enter Tryz.func17, Tryz.ntmps17
  go_wp2_with fail
  exact bodyPost_ret (v := .tuple #[.agg zm.toArray, .int .i64 12]) (by simp [results, Tryz.results17, go_sem]) rfl ⟨hb0, .inl ⟨by rw [HF.out]; decide, by rw [HF.out]⟩⟩

set_option maxHeartbeats 1000000 in
theorem isError_any (ty cde rest : Int) (sm : Value) (w : World) :
  Calls Tryz.prog 44 #[.agg #[.int .u8 ty, .int .u8 cde, .int .u32 rest, sm]] w fun e w' => e = .returned (.bool (ty == 3 || (ty == 11 || ty == 12))) ∧ Below w.heap.size w w' := by
 have hbox : Below w.heap.size w (w.alloc (.cells #[.int .u8 ty, .int .u8 cde, .int .u32 rest, sm] 42)) := (Below.refl _ _).alloc (Nat.le_refl _) _
 cases h1 : (ty == 3)
 ·cases h2 : (ty == 11)
  ·go_enter Tryz.func44, Tryz.ntmps44
   go_wp2
   go_ret
   exact ⟨rfl, hbox⟩
  ·go_enter Tryz.func44, Tryz.ntmps44
   go_wp2
   go_ret
   exact ⟨rfl, hbox⟩
 ·go_enter Tryz.func44, Tryz.ntmps44
  go_wp2
  go_ret
  exact ⟨rfl, hbox⟩
end Go.Proofs.YtghpakfjpdifaaaGreatDoor
