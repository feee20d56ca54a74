/- Package segs: what a packet's datagram is. -/
import Derived.Test.YtghpakfjpdifaaaGreatDoorW9
import Derived.Test.YtghpakfjpdifaaaGreatDoorSE
namespace Go.Proofs.YtghpakfjpdifaaaGreatDoor
open Go.RowKit Go.Shelf
set_option maxRecDepth 100000
set_option linter.unusedVariables false
set_option linter.unusedSimpArgs false

/-- What a packet's datagram is refused with (0: nothing). -/
def pue (proto src dst : Int) (zs : List Int) : Int := if proto ≠ 17 then 12 else if zs.length < 8 then 3 else if wat zs 4 ≠ zs.length then 4 else if wat zs 6 ≠ 0 ∧ Mt.cks (psd src dst 17 zs.length ++ zs) ≠ 0 then 5 else 0
/-- A datagram's cells of zeros. -/
abbrev zud : List Value := [.int .u16 0, .int .u16 0, .bool false, .slice none 0 0]
theorem getAt2_lit (zs : List Int) (p : Int) (k : Nat) (hk : p = k) (h : k + 2 ≤ zs.length) : getAt2 zs p = wat zs k := by
 subst hk
 unfold getAt2
 rw [if_pos (by omega), Int.toNat_natCast]

set_option maxHeartbeats 4000000 in
theorem parseUdp_any (tos id ttl proto src dst : Int) (keep : Bool) (so sd : Value) (zs : List Int) (w : World) (hB : Mt.By zs) (hI : Rd w.heap.size w sd zs) (hl : 12 + zs.length ≤ 140737488355328) (hsr : 0 ≤ src ∧ src ≤ 4294967295) (hds : 0 ≤ dst ∧ dst ≤ 4294967295) :
  Calls Tryz.prog 107 #[.agg #[.int .u8 tos, .int .u16 id, .bool keep, .int .u8 ttl, .int .u8 proto, .int .u32 src, .int .u32 dst, so, sd]] w fun e w' => Below w.heap.size w w' ∧ ((pue proto src dst zs ≠ 0 ∧ e = .returned (.tuple #[.agg zud.toArray, .int .i64 (pue proto src dst zs)])) ∨
   (pue proto src dst zs = 0 ∧ ∃ ad cd, e = .returned (.tuple #[.agg #[.int .u16 (wat zs 0), .int .u16 (wat zs 2), .bool (wat zs 6 == 0), .slice ad (zs.length - 8) cd], .int .i64 0]) ∧ Ow w.heap.size w' (.slice ad (zs.length - 8) cd) (zs.drop 8))) := by
 obtain ⟨ad, cd, rfl, hl1, hm1⟩ := hI.slice
 have hb0 : Below w.heap.size w ((w.alloc (.cells #[.int .u8 tos, .int .u16 id, .bool keep, .int .u8 ttl, .int .u8 proto, .int .u32 src, .int .u32 dst, so, .slice ad zs.length cd] 26)).alloc (.cells zud.toArray 57)) := ((Below.refl _ _).alloc (Nat.le_refl _) _).alloc (by simp) _
 have p0 : ((w.alloc (.cells #[.int .u8 tos, .int .u16 id, .bool keep, .int .u8 ttl, .int .u8 proto, .int .u32 src, .int .u32 dst, so, .slice ad zs.length cd] 26)).alloc (.cells zud.toArray 57)).heap[w.heap.size]? = some (.cells #[.int .u8 tos, .int .u16 id, .bool keep, .int .u8 ttl, .int .u8 proto, .int .u32 src, .int .u32 dst, so, .slice ad zs.length cd] 26) := (Below.heap_alloc _ _ _ (by simp)).trans (heap_alloc_new w _)
 have r0 : ((w.alloc (.cells #[.int .u8 tos, .int .u16 id, .bool keep, .int .u8 ttl, .int .u8 proto, .int .u32 src, .int .u32 dst, so, .slice ad zs.length cd] 26)).alloc (.cells zud.toArray 57)).heap[w.heap.size + 1]? = some (.cells zud.toArray 57 (0, 0)) := by have := heap_alloc_new (w.alloc (.cells #[.int .u8 tos, .int .u16 id, .bool keep, .int .u8 ttl, .int .u8 proto, .int .u32 src, .int .u32 dst, so, .slice ad zs.length cd] 26)) (.cells zud.toArray 57); simpa using this
 have hs0 : ((w.alloc (.cells #[.int .u8 tos, .int .u16 id, .bool keep, .int .u8 ttl, .int .u8 proto, .int .u32 src, .int .u32 dst, so, .slice ad zs.length cd] 26)).alloc (.cells zud.toArray 57)).heap.size = w.heap.size + 1 + 1 := by simp
 have P0 := hide p0
 have R0 := hide r0
 have HS := hide hs0
 clear p0 r0 hs0
 go_enter Tryz.func107, Tryz.ntmps107
 go_wp2_with fail
 generalize (w.alloc (.cells #[.int .u8 tos, .int .u16 id, .bool keep, .int .u8 ttl, .int .u8 proto, .int .u32 src, .int .u32 dst, so, .slice ad zs.length cd] 26)).alloc (.cells zud.toArray 57) = W0 at *
 refine (get16_at _ zs hB 6 W0 (hI.below hb0)).mono ?_
 rintro e w1 ⟨rfl, n1, hn1⟩
 have hb1 : Later W0 w1 := by rw [hn1]; exact below_draw (Later.refl W0) n1
 clear hn1
 have p1 := (hb1.block w.heap.size (by have := HS.out; omega)).trans P0.out
 have r1 := (hb1.block (w.heap.size + 1) (by have := HS.out; omega)).trans R0.out
 have hw1 : Below w.heap.size w w1 := hb0.trans (hb1.mono hb0.size)
 have hs1 : w.heap.size + 1 + 1 ≤ w1.heap.size := by have := hb1.size; have := HS.out; omega
 clear hb0 hb1 P0 R0 HS
 have K1 := block_cell p1
 generalize g6 : getAt2 zs 6 = x6
 have G6 := hide g6
 clear g6
 by_cases c1 : proto = 17
 ·have t1 : (proto != 17) = false := by simp [c1]
  have C1 := hide c1
  by_cases c2 : zs.length < 8
  ·have t2 : (zs.length : Int) < 8 := by omega
   have HF : Hid (pue proto src dst zs = 3) := by show _ = _; unfold pue; rw [if_neg (by simp [C1.out]), if_pos c2]
   clear c1
   have R1 := block_cell r1
   have F1 := block_frozen r1
   go_wp2_with fail
   generalize hV : (((w1.setCell ⟨w.heap.size + 1, 0, none⟩ _).setCell ⟨w.heap.size + 1, 1, none⟩ _).setCell ⟨w.heap.size + 1, 2, none⟩ _).setCell ⟨w.heap.size + 1, 3, none⟩ _ = V8
   have hV9 : V8 = putRow w1 (w.heap.size + 1) 0 zud := hV.symm
   have hb8 : But (fun b => b = w.heap.size + 1) w1 V8 := by rw [hV9]; exact putRow_but (E := fun b => b = w.heap.size + 1) (n := w.heap.size + 1) rfl _ _ _ _ (But.refl _ _)
   have p8 := putRow_all zud r1 rfl
   rw [← hV9] at p8
   clear hV hV9
   have P8 := block_cell p8
   have hw8 : Below w.heap.size w V8 := (hw1).trans (hb8.below (hw1).size (fun k h e => by omega))
   exact bodyPost_ret (v := .tuple #[.agg zud.toArray, .int .i64 3]) (by simp [results, Tryz.results107, go_sem, P8]) rfl (⟨hw8, .inl ⟨by rw [HF.out]; decide, by rw [HF.out]⟩⟩)
  ·have t2 : ¬ (zs.length : Int) < 8 := by omega
   rw [getAt2_lit zs 6 6 rfl (by omega)] at G6
   clear c1
   go_wp2_with fail
   refine (get16_rd _ zs hB 4 (by omega) w1 (hI.below hw1)).mono ?_
   rintro e w2 ⟨rfl, n2, hn2⟩
   have hb2 : Later w1 w2 := by rw [hn2]; exact below_draw (Later.refl w1) n2
   clear hn2
   have p2 := (hb2.block w.heap.size (by omega)).trans p1
   have r2 := (hb2.block (w.heap.size + 1) (by omega)).trans r1
   have hw2 : Below w.heap.size w w2 := hw1.trans (hb2.mono hw1.size)
   have hs2' : w.heap.size + 1 + 1 ≤ w2.heap.size := by have := hb2.size; omega
   clear hb2 p1 r1 hw1 hs1 K1
   have K2 := block_cell p2
   have b4 := wat_bd hB 4
   by_cases c3 : wat zs 4 = zs.length
   ·have t3 : (wat zs 4 != (zs.length : Int)) = false := by simp [c3]
    by_cases c4 : x6 = 0
    ·have t4 : (x6 == 0) = true := by simp [c4]
     have HF : Hid (pue proto src dst zs = 0) := by show _ = _; unfold pue; rw [if_neg (by simp [C1.out]), if_neg c2, if_neg (by simp [c3]), if_neg (by rw [G6.out]; simp [c4])]
     clear c2 c3 c4
     obtain ⟨b, off, cap, e0, hlc, hmc, hbb, hcs⟩ := hI.cells (by omega)
     have hcl := e0
     simp at hcl
     obtain ⟨rfl, rfl⟩ := hcl
     clear e0 hcs
     have i8 : (8 : Int) ≤ zs.length := by omega
     have i8c : (zs.length : Int) ≤ cd := by omega
     go_wp2_with fail
     obtain ⟨Φ, HΦ⟩ : ∃ Φ : Array Value → World → Prop, Hid (Φ = (fun arr W => ∃ ad cd, arr = #[.int .u16 (wat zs 0), .int .u16 (wat zs 2), .bool true, .slice ad (zs.length - 8) cd] ∧ Ow (w.heap.size + 1 + 1) W (.slice ad (zs.length - 8) cd) (zs.drop 8))) := ⟨_, rfl⟩
     have hΦ : Stays Φ := by
      rw [HΦ.out]
      rintro arr A B l ⟨ad, cd, h1, h2⟩
      exact ⟨ad, cd, h1, h2.later l⟩
     refine anyR_begin (R := KR (w.heap.size + 1) 4 57 Φ) (Keep.pre _ _ _) (fun w => KR.of hΦ (Later.drew w)) 11 rfl (by kernel_rfl) (fun W1 hW1 => ?_)
     have hg1 : Wr (w.heap.size + 1) 4 57 W1 := hW1.2.1 ⟨_, r2, rfl⟩
     have hbut : ∀ v1, KR (w.heap.size + 1) 4 57 Φ W1 v1 → But (fun b => b = w.heap.size + 1) w2 v1 := fun v1 h => hW1.1.trans h.1
     have hbel : ∀ v1, KR (w.heap.size + 1) 4 57 Φ W1 v1 → Below w.heap.size w v1 := fun v1 h => hw2.trans ((hbut v1 h).below (by omega) (fun k h e => by omega))
     have hr : ∀ v1, KR (w.heap.size + 1) 4 57 Φ W1 v1 → Rd w.heap.size v1 (.slice (some ⟨b, off, none⟩) zs.length cd) zs := fun v1 h => hI.below (hbel v1 h)
     refine rV (Keep.pre _ _ _) 0 rfl rfl ?_; apply Exists.intro; refine ⟨fun w1 hw1 => ?_, ?_⟩; (· (go_simp; rfl)); simp only [Act.put, sA, sB, sC]
     refine anyR_take (Keep.pre _ _ _) 1 (.int .u16 (wat zs 0)) rfl (by kernel_rfl) (by kernel_rfl) (by kernel_rfl) (fun _ _ _ h => h) rfl (fun v1 hv1 => goes_call 84 #[.slice (some ⟨b, off, none⟩) zs.length cd, .int .i64 0] (by go_simp) ?_) ?_
     ·exact (get16_rd _ zs hB 0 (by omega) v1 (hr v1 hv1)).mono fun e w' ⟨he, q, hw⟩ => ⟨he, KR.of hΦ (by rw [hw]; exact below_draw (Later.refl v1) q)⟩
     simp only [Act.put, sA, sB, sC]
     refine rV (Keep.pre _ _ _) 2 rfl rfl ?_; apply Exists.intro; refine ⟨fun w1 hw1 => ?_, ?_⟩; (· (go_simp; rfl)); simp only [Act.put, sA, sB, sC]
     refine anyR_take (Keep.pre _ _ _) 3 (.int .u16 (wat zs 2)) rfl (by kernel_rfl) (by kernel_rfl) (by kernel_rfl) (fun _ _ _ h => h) rfl (fun v1 hv1 => goes_call 84 #[.slice (some ⟨b, off, none⟩) zs.length cd, .int .i64 2] (by go_simp) ?_) ?_
     ·exact (get16_rd _ zs hB 2 (by omega) v1 (hr v1 hv1)).mono fun e w' ⟨he, q, hw⟩ => ⟨he, KR.of hΦ (by rw [hw]; exact below_draw (Later.refl v1) q)⟩
     simp only [Act.put, sA, sB, sC]
     refine rV (Keep.pre _ _ _) 4 rfl rfl ?_; apply Exists.intro; refine ⟨fun w1 hw1 => ?_, ?_⟩; (· (go_simp; rfl)); simp only [Act.put, sA, sB, sC]
     refine rV (Keep.pre _ _ _) 5 rfl rfl ?_; apply Exists.intro; refine ⟨fun w1 hw1 => ?_, ?_⟩; (· (go_simp; rfl)); simp only [Act.put, sA, sB, sC]
     refine rV (Keep.pre _ _ _) 6 rfl rfl ?_; apply Exists.intro; refine ⟨fun w1 hw1 => ?_, ?_⟩; (· (go_simp; rfl)); simp only [Act.put, sA, sB, sC]
     have hs8 : ∀ v1, KR (w.heap.size + 1) 4 57 Φ W1 v1 → Rd w.heap.size v1 (.slice (if cd = 8 then some (⟨b, off, none⟩ : Addr) else some ⟨b, off + 8, none⟩) (zs.length - 8) (cd - 8)) (zs.drop 8) := fun v1 h => (hr v1 h).cutAt 8 (by omega)
     generalize (if cd = 8 then some (⟨b, off, none⟩ : Addr) else some ⟨b, off + 8, none⟩) = ad8 at *
     refine anyR_one 7 rfl (by kernel_rfl) rfl (fun W2 hW2 => ?_)
     refine wp_enter 50 #[.slice ad8 (zs.length - 8) (cd - 8)] (by go_simp) ?_
     refine (cloneb_any _ (zs.drop 8) W2 (by simp; omega) ((hs8 W2 hW2).mono (hbel W2 hW2).size)).mono ?_
     rw [List.length_drop]
     rintro e W5 ⟨a5, c5, rfl, hO5, hb5⟩
     have hW15 := hW2.trans (KR.of hΦ hb5)
     have hs2 : w.heap.size + 1 + 1 ≤ W2.heap.size := Nat.le_trans hs2' (hbut W2 hW2).size
     refine ⟨KR.of hΦ hb5, ?_⟩
     simp only [Act.put, sA, sB, sC]
     refine rV (Keep.pre _ _ _) 8 rfl rfl ?_; apply Exists.intro; refine ⟨fun w1 hw1 => ?_, ?_⟩; (· (go_simp; rfl)); simp only [Act.put, sA, sB, sC]
     refine anyR_one 9 rfl (by kernel_rfl) rfl (fun W6 hW6 => ?_)
     have hW16 := hW15.trans hW6
     have hg6 := hW16.2.1 hg1
     have hg6' := hg6
     obtain ⟨cur, hcur, hsz⟩ := hg6'
     have k6 : ∀ j, W6.cell? ⟨w.heap.size + 1, j, none⟩ = cur[j]? := block_cell hcur
     have f6 : ∀ j, W6.frozen? ⟨w.heap.size + 1, j, none⟩ = false := block_frozen hcur
     unfold Oper.wp
     go_simp
     generalize hV7 : (((W6.setCell ⟨w.heap.size + 1, 0, none⟩ _).setCell ⟨w.heap.size + 1, 1, none⟩ _).setCell ⟨w.heap.size + 1, 2, none⟩ _).setCell ⟨w.heap.size + 1, 3, none⟩ _ = V7
     have hV8 : V7 = putRow W6 (w.heap.size + 1) 0 [.int .u16 (wat zs 0), .int .u16 (wat zs 2), .bool true, .slice a5 (zs.length - 8) c5] := hV7.symm
     have hSt := KR.store (Φ := Φ) [.int .u16 (wat zs 0), .int .u16 (wat zs 2), .bool true, .slice a5 (zs.length - 8) c5] hg6 rfl (by rw [HΦ.out]; exact ⟨a5, c5, rfl, ((hO5.but hW6.1 (fun b h e => by omega)).but (putRow_rb (rb := w.heap.size + 1) _ _) (fun b h e => by omega)).mono hs2⟩)
     rw [← hV8] at hSt
     clear hV7 hV8 k6 f6
     refine ⟨hSt.1, ?_⟩
     refine rV (Keep.pre _ _ _) 10 rfl rfl ?_; apply Exists.intro; refine ⟨fun w1 hw1 => ?_, ?_⟩; (· (go_simp; rfl)); simp only [Act.put, sA, sB, sC]
     refine anyR_done (by kernel_rfl) (fun W8 hW8 => ?_)
     obtain ⟨arr, hh8, hP8⟩ := hW8.2.2 hSt.2
     have hw8 := hbel W8 ((hW16.trans hSt.1).trans hW8)
     clear hSt hr hs8 hbut
     rw [HΦ.out] at hP8
     obtain ⟨ad8', cd8, rfl, hO8⟩ := hP8
     have r8 := block_cell hh8
     go_wp2_with fail
     exact bodyPost_ret (v := .tuple #[.agg #[.int .u16 (wat zs 0), .int .u16 (wat zs 2), .bool true, .slice ad8' (zs.length - 8) cd8], .int .i64 0]) (by simp [results, Tryz.results107, go_sem, r8]) rfl ⟨hw8, .inr ⟨HF.out, ad8', cd8, by rw [G6.out, t4], hO8.mono (by omega)⟩⟩
    ·have t4 : (x6 == 0) = false := by simp [c4]
     have hBs := (By_psd src dst 17 zs.length hsr hds (by omega)).append hB
     have hln : (psd src dst 17 zs.length ++ zs).length = 12 + zs.length := by rw [List.length_append, psd_length]
     have hBS := hide hBs
     have HLN := hide hln
     have C3 := hide c3
     have C4 := hide c4
     have C2 := hide c2
     clear hBs hln c3 c4 c2
     go_wp2_with fail
     rw [C1.out]
     refine (summed_any tos id ttl 17 src dst keep _ _ zs w2 ((hI.below hw2).mono hw2.size) hl hsr hds).mono ?_
     rintro e w3 ⟨a3, c3, rfl, hO3, hb3⟩
     go_wp2_with fail
     rw [← HLN.out] at hO3 ⊢
     refine (good_any _ _ hBS.out (by rw [HLN.out]; exact hl) w3 hO3.rd).mono ?_
     rintro e w4 ⟨rfl, hb4⟩
     have r4 := ((hb3.trans (hb4.mono hb3.size)).block (w.heap.size + 1) (by omega)).trans r2
     have hw4 : Below w.heap.size w w4 := hw2.trans ((hb3.trans (hb4.mono hb3.size)).mono hw2.size)
     have hs4 : w.heap.size + 1 + 1 ≤ w4.heap.size := by have := hb3.size; have := hb4.size; omega
     clear hO3 hb3 hb4 r2 p2 K2
     by_cases c5 : Mt.cks (psd src dst 17 zs.length ++ zs) = 0
     ·have t5 : (Mt.cks (psd src dst 17 zs.length ++ zs) == 0) = true := by simp [c5]
      have HF : Hid (pue proto src dst zs = 0) := by show _ = _; unfold pue; rw [if_neg (by simp [C1.out]), if_neg C2.out, if_neg (by simp [C3.out]), if_neg (by simp [c5])]
      clear c5
      obtain ⟨b, off, cap, e0, hlc, hmc, hbb, hcs⟩ := hI.cells (by omega)
      have hcl := e0
      simp at hcl
      obtain ⟨rfl, rfl⟩ := hcl
      clear e0 hcs
      have i8 : (8 : Int) ≤ zs.length := by omega
      have i8c : (zs.length : Int) ≤ cd := by omega
      go_wp2_with fail
      obtain ⟨Φ, HΦ⟩ : ∃ Φ : Array Value → World → Prop, Hid (Φ = (fun arr W => ∃ ad cd, arr = #[.int .u16 (wat zs 0), .int .u16 (wat zs 2), .bool false, .slice ad (zs.length - 8) cd] ∧ Ow (w.heap.size + 1 + 1) W (.slice ad (zs.length - 8) cd) (zs.drop 8))) := ⟨_, rfl⟩
      have hΦ : Stays Φ := by
       rw [HΦ.out]
       rintro arr A B l ⟨ad, cd, h1, h2⟩
       exact ⟨ad, cd, h1, h2.later l⟩
      refine anyR_begin (R := KR (w.heap.size + 1) 4 57 Φ) (Keep.pre _ _ _) (fun w => KR.of hΦ (Later.drew w)) 11 rfl (by kernel_rfl) (fun W1 hW1 => ?_)
      have hg1 : Wr (w.heap.size + 1) 4 57 W1 := hW1.2.1 ⟨_, r4, rfl⟩
      have hbut : ∀ v1, KR (w.heap.size + 1) 4 57 Φ W1 v1 → But (fun b => b = w.heap.size + 1) w4 v1 := fun v1 h => hW1.1.trans h.1
      have hbel : ∀ v1, KR (w.heap.size + 1) 4 57 Φ W1 v1 → Below w.heap.size w v1 := fun v1 h => hw4.trans ((hbut v1 h).below (by omega) (fun k h e => by omega))
      have hr : ∀ v1, KR (w.heap.size + 1) 4 57 Φ W1 v1 → Rd w.heap.size v1 (.slice (some ⟨b, off, none⟩) zs.length cd) zs := fun v1 h => hI.below (hbel v1 h)
      refine rV (Keep.pre _ _ _) 0 rfl rfl ?_; apply Exists.intro; refine ⟨fun w1 hw1 => ?_, ?_⟩; (· (go_simp; rfl)); simp only [Act.put, sA, sB, sC]
      refine anyR_take (Keep.pre _ _ _) 1 (.int .u16 (wat zs 0)) rfl (by kernel_rfl) (by kernel_rfl) (by kernel_rfl) (fun _ _ _ h => h) rfl (fun v1 hv1 => goes_call 84 #[.slice (some ⟨b, off, none⟩) zs.length cd, .int .i64 0] (by go_simp) ?_) ?_
      ·exact (get16_rd _ zs hB 0 (by omega) v1 (hr v1 hv1)).mono fun e w' ⟨he, q, hw⟩ => ⟨he, KR.of hΦ (by rw [hw]; exact below_draw (Later.refl v1) q)⟩
      simp only [Act.put, sA, sB, sC]
      refine rV (Keep.pre _ _ _) 2 rfl rfl ?_; apply Exists.intro; refine ⟨fun w1 hw1 => ?_, ?_⟩; (· (go_simp; rfl)); simp only [Act.put, sA, sB, sC]
      refine anyR_take (Keep.pre _ _ _) 3 (.int .u16 (wat zs 2)) rfl (by kernel_rfl) (by kernel_rfl) (by kernel_rfl) (fun _ _ _ h => h) rfl (fun v1 hv1 => goes_call 84 #[.slice (some ⟨b, off, none⟩) zs.length cd, .int .i64 2] (by go_simp) ?_) ?_
      ·exact (get16_rd _ zs hB 2 (by omega) v1 (hr v1 hv1)).mono fun e w' ⟨he, q, hw⟩ => ⟨he, KR.of hΦ (by rw [hw]; exact below_draw (Later.refl v1) q)⟩
      simp only [Act.put, sA, sB, sC]
      refine rV (Keep.pre _ _ _) 4 rfl rfl ?_; apply Exists.intro; refine ⟨fun w1 hw1 => ?_, ?_⟩; (· (go_simp; rfl)); simp only [Act.put, sA, sB, sC]
      refine rV (Keep.pre _ _ _) 5 rfl rfl ?_; apply Exists.intro; refine ⟨fun w1 hw1 => ?_, ?_⟩; (· (go_simp; rfl)); simp only [Act.put, sA, sB, sC]
      refine rV (Keep.pre _ _ _) 6 rfl rfl ?_; apply Exists.intro; refine ⟨fun w1 hw1 => ?_, ?_⟩; (· (go_simp; rfl)); simp only [Act.put, sA, sB, sC]
      have hs8 : ∀ v1, KR (w.heap.size + 1) 4 57 Φ W1 v1 → Rd w.heap.size v1 (.slice (if cd = 8 then some (⟨b, off, none⟩ : Addr) else some ⟨b, off + 8, none⟩) (zs.length - 8) (cd - 8)) (zs.drop 8) := fun v1 h => (hr v1 h).cutAt 8 (by omega)
      generalize (if cd = 8 then some (⟨b, off, none⟩ : Addr) else some ⟨b, off + 8, none⟩) = ad8 at *
      refine anyR_one 7 rfl (by kernel_rfl) rfl (fun W2 hW2 => ?_)
      refine wp_enter 50 #[.slice ad8 (zs.length - 8) (cd - 8)] (by go_simp) ?_
      refine (cloneb_any _ (zs.drop 8) W2 (by simp; omega) ((hs8 W2 hW2).mono (hbel W2 hW2).size)).mono ?_
      rw [List.length_drop]
      rintro e W5 ⟨a5, c5, rfl, hO5, hb5⟩
      have hW15 := hW2.trans (KR.of hΦ hb5)
      have hs2 : w.heap.size + 1 + 1 ≤ W2.heap.size := Nat.le_trans hs4 (hbut W2 hW2).size
      refine ⟨KR.of hΦ hb5, ?_⟩
      simp only [Act.put, sA, sB, sC]
      refine rV (Keep.pre _ _ _) 8 rfl rfl ?_; apply Exists.intro; refine ⟨fun w1 hw1 => ?_, ?_⟩; (· (go_simp; rfl)); simp only [Act.put, sA, sB, sC]
      refine anyR_one 9 rfl (by kernel_rfl) rfl (fun W6 hW6 => ?_)
      have hW16 := hW15.trans hW6
      have hg6 := hW16.2.1 hg1
      have hg6' := hg6
      obtain ⟨cur, hcur, hsz⟩ := hg6'
      have k6 : ∀ j, W6.cell? ⟨w.heap.size + 1, j, none⟩ = cur[j]? := block_cell hcur
      have f6 : ∀ j, W6.frozen? ⟨w.heap.size + 1, j, none⟩ = false := block_frozen hcur
      unfold Oper.wp
      go_simp
      generalize hV7 : (((W6.setCell ⟨w.heap.size + 1, 0, none⟩ _).setCell ⟨w.heap.size + 1, 1, none⟩ _).setCell ⟨w.heap.size + 1, 2, none⟩ _).setCell ⟨w.heap.size + 1, 3, none⟩ _ = V7
      have hV8 : V7 = putRow W6 (w.heap.size + 1) 0 [.int .u16 (wat zs 0), .int .u16 (wat zs 2), .bool false, .slice a5 (zs.length - 8) c5] := hV7.symm
      have hSt := KR.store (Φ := Φ) [.int .u16 (wat zs 0), .int .u16 (wat zs 2), .bool false, .slice a5 (zs.length - 8) c5] hg6 rfl (by rw [HΦ.out]; exact ⟨a5, c5, rfl, ((hO5.but hW6.1 (fun b h e => by omega)).but (putRow_rb (rb := w.heap.size + 1) _ _) (fun b h e => by omega)).mono hs2⟩)
      rw [← hV8] at hSt
      clear hV7 hV8 k6 f6
      refine ⟨hSt.1, ?_⟩
      refine rV (Keep.pre _ _ _) 10 rfl rfl ?_; apply Exists.intro; refine ⟨fun w1 hw1 => ?_, ?_⟩; (· (go_simp; rfl)); simp only [Act.put, sA, sB, sC]
      refine anyR_done (by kernel_rfl) (fun W8 hW8 => ?_)
      obtain ⟨arr, hh8, hP8⟩ := hW8.2.2 hSt.2
      have hw8 := hbel W8 ((hW16.trans hSt.1).trans hW8)
      clear hSt hr hs8 hbut
      rw [HΦ.out] at hP8
      obtain ⟨ad8', cd8, rfl, hO8⟩ := hP8
      have r8 := block_cell hh8
      go_wp2_with fail
      exact bodyPost_ret (v := .tuple #[.agg #[.int .u16 (wat zs 0), .int .u16 (wat zs 2), .bool false, .slice ad8' (zs.length - 8) cd8], .int .i64 0]) (by simp [results, Tryz.results107, go_sem, r8]) rfl ⟨hw8, .inr ⟨HF.out, ad8', cd8, by rw [G6.out, t4], hO8.mono (by omega)⟩⟩
     ·have t5 : (Mt.cks (psd src dst 17 zs.length ++ zs) == 0) = false := by simp [c5]
      have HF : Hid (pue proto src dst zs = 5) := by show _ = _; unfold pue; rw [if_neg (by simp [C1.out]), if_neg C2.out, if_neg (by simp [C3.out]), if_pos ⟨by rw [G6.out]; exact C4.out, c5⟩]
      clear c5
      have R1 := block_cell r4
      have F1 := block_frozen r4
      go_wp2_with fail
      generalize hV : (((w4.setCell ⟨w.heap.size + 1, 0, none⟩ _).setCell ⟨w.heap.size + 1, 1, none⟩ _).setCell ⟨w.heap.size + 1, 2, none⟩ _).setCell ⟨w.heap.size + 1, 3, none⟩ _ = V8
      have hV9 : V8 = putRow w4 (w.heap.size + 1) 0 zud := hV.symm
      have hb8 : But (fun b => b = w.heap.size + 1) w4 V8 := by rw [hV9]; exact putRow_but (E := fun b => b = w.heap.size + 1) (n := w.heap.size + 1) rfl _ _ _ _ (But.refl _ _)
      have p8 := putRow_all zud r4 rfl
      rw [← hV9] at p8
      clear hV hV9
      have P8 := block_cell p8
      have hw8 : Below w.heap.size w V8 := (hw4).trans (hb8.below (hw4).size (fun k h e => by omega))
      exact bodyPost_ret (v := .tuple #[.agg zud.toArray, .int .i64 5]) (by simp [results, Tryz.results107, go_sem, P8]) rfl (⟨hw8, .inl ⟨by rw [HF.out]; decide, by rw [HF.out]⟩⟩)
   ·have t3 : (wat zs 4 != (zs.length : Int)) = true := by simp [c3]
    have HF : Hid (pue proto src dst zs = 4) := by show _ = _; unfold pue; rw [if_neg (by simp [C1.out]), if_neg c2, if_pos c3]
    clear c2 c3
    have R1 := block_cell r2
    have F1 := block_frozen r2
    go_wp2_with fail
    generalize hV : (((w2.setCell ⟨w.heap.size + 1, 0, none⟩ _).setCell ⟨w.heap.size + 1, 1, none⟩ _).setCell ⟨w.heap.size + 1, 2, none⟩ _).setCell ⟨w.heap.size + 1, 3, none⟩ _ = V8
    have hV9 : V8 = putRow w2 (w.heap.size + 1) 0 zud := hV.symm
    have hb8 : But (fun b => b = w.heap.size + 1) w2 V8 := by rw [hV9]; exact putRow_but (E := fun b => b = w.heap.size + 1) (n := w.heap.size + 1) rfl _ _ _ _ (But.refl _ _)
    have p8 := putRow_all zud r2 rfl
    rw [← hV9] at p8
    clear hV hV9
    have P8 := block_cell p8
    have hw8 : Below w.heap.size w V8 := (hw2).trans (hb8.below (hw2).size (fun k h e => by omega))
    exact bodyPost_ret (v := .tuple #[.agg zud.toArray, .int .i64 4]) (by simp [results, Tryz.results107, go_sem, P8]) rfl (⟨hw8, .inl ⟨by rw [HF.out]; decide, by rw [HF.out]⟩⟩)
 ·have t1 : (proto != 17) = true := by simp [c1]
  have HF : Hid (pue proto src dst zs = 12) := by show _ = _; unfold pue; rw [if_pos c1]
  clear c1
  have R1 := block_cell r1
  have F1 := block_frozen r1
  go_wp2_with fail
  generalize hV : (((w1.setCell ⟨w.heap.size + 1, 0, none⟩ _).setCell ⟨w.heap.size + 1, 1, none⟩ _).setCell ⟨w.heap.size + 1, 2, none⟩ _).setCell ⟨w.heap.size + 1, 3, none⟩ _ = V8
  have hV9 : V8 = putRow w1 (w.heap.size + 1) 0 zud := hV.symm
  have hb8 : But (fun b => b = w.heap.size + 1) w1 V8 := by rw [hV9]; exact putRow_but (E := fun b => b = w.heap.size + 1) (n := w.heap.size + 1) rfl _ _ _ _ (But.refl _ _)
  have p8 := putRow_all zud r1 rfl
  rw [← hV9] at p8
  clear hV hV9
  have P8 := block_cell p8
  have hw8 : Below w.heap.size w V8 := (hw1).trans (hb8.below (hw1).size (fun k h e => by omega))
  exact bodyPost_ret (v := .tuple #[.agg zud.toArray, .int .i64 12]) (by simp [results, Tryz.results107, go_sem, P8]) rfl (⟨hw8, .inl ⟨by rw [HF.out]; decide, by rw [HF.out]⟩⟩)
end Go.Proofs.YtghpakfjpdifaaaGreatDoor
