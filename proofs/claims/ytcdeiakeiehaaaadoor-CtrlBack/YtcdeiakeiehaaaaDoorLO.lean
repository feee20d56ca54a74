/- The walk of the law CtrlBack. -/
import Derived.Test.YtcdeiakeiehaaaaDoorVR
import Derived.Test.YtcdeiakeiehaaaaDoorCM
namespace Go.Proofs.YtcdeiakeiehaaaaDoor
open Go.RowKit Go.Shelf
set_option maxRecDepth 100000
set_option linter.unusedVariables false
set_option linter.unusedSimpArgs false

set_option maxHeartbeats 8000000 in
theorem walk_CtrlBack (w : World) (hT : Tb w) (tos id ttl proto src dst : Int) (keep : Bool) (so sd : Value) (zo zd : List Int) (hBo : Mt.By zo) (hBd : Mt.By zd) (hIo : Rd w.heap.size w so zo) (hId : Rd w.heap.size w sd zd) (hlo : zo.length ≤ 140737488355328) (hld : zd.length ≤ 140737488355328)
    (ht : 0 ≤ tos ∧ tos ≤ 255) (hid : 0 ≤ id ∧ id ≤ 65535) (htt : 0 ≤ ttl ∧ ttl ≤ 255) (hpr : 0 ≤ proto ∧ proto ≤ 255) (hsr : 0 ≤ src ∧ src ≤ 4294967295) (hds : 0 ≤ dst ∧ dst ≤ 4294967295)
    (ty cde rest : Int) (sm1 : Value) (zm1 : List Int) (hB1 : Mt.By zm1) (hM1 : Rd w.heap.size w sm1 zm1) (hl1 : zm1.length ≤ 140737488351232) (hty : 0 ≤ ty ∧ ty ≤ 255) (hcd : 0 ≤ cde ∧ cde ≤ 255) (hre : 0 ≤ rest ∧ rest ≤ 4294967295)
    (cl sq ak : Int) (hs ha : Bool) (sm2 : Value) (zm2 : List Int) (hB2 : Mt.By zm2) (hM2 : Rd w.heap.size w sm2 zm2) (hl2 : zm2.length ≤ 140737488351232) (hcl : 0 ≤ cl ∧ cl ≤ 65535) (hsq : 0 ≤ sq ∧ sq ≤ 4294967295) (hak : 0 ≤ ak ∧ ak ≤ 4294967295) :
    Calls Tryd.prog 4 #[.agg #[.int .u8 tos, .int .u16 id, .bool keep, .int .u8 ttl, .int .u8 proto, .int .u32 src, .int .u32 dst, so, sd], .agg #[.int .u8 ty, .int .u8 cde, .int .u32 rest, sm1], .agg #[.int .u16 cl, .bool hs, .bool ha, .int .u32 sq, .int .u32 ak, sm2]] w fun e w' => e = .returned (.bool true) ∧ Below w.heap.size w w' := by
  obtain ⟨ao, co, rfl, _, _⟩ := hIo.slice
  obtain ⟨ad, cd, rfl, _, _⟩ := hId.slice
  obtain ⟨am1, cm1, rfl, _, _⟩ := hM1.slice
  obtain ⟨am2, cm2, rfl, _, _⟩ := hM2.slice
  have hb0 : Below w.heap.size w (((w.alloc (.cells #[.int .u8 tos, .int .u16 id, .bool keep, .int .u8 ttl, .int .u8 proto, .int .u32 src, .int .u32 dst, .slice ao zo.length co, .slice ad zd.length cd] 26)).alloc (.cells #[.int .u8 ty, .int .u8 cde, .int .u32 rest, .slice am1 zm1.length cm1] 28)).alloc (.cells #[.int .u16 cl, .bool hs, .bool ha, .int .u32 sq, .int .u32 ak, .slice am2 zm2.length cm2] 30)) := (((Below.refl _ _).alloc (Nat.le_refl _) _).alloc (by simp) _).alloc (by simp; omega) _
  have p0 : (((w.alloc (.cells #[.int .u8 tos, .int .u16 id, .bool keep, .int .u8 ttl, .int .u8 proto, .int .u32 src, .int .u32 dst, .slice ao zo.length co, .slice ad zd.length cd] 26)).alloc (.cells #[.int .u8 ty, .int .u8 cde, .int .u32 rest, .slice am1 zm1.length cm1] 28)).alloc (.cells #[.int .u16 cl, .bool hs, .bool ha, .int .u32 sq, .int .u32 ak, .slice am2 zm2.length cm2] 30)).heap[w.heap.size]? = some (.cells #[.int .u8 tos, .int .u16 id, .bool keep, .int .u8 ttl, .int .u8 proto, .int .u32 src, .int .u32 dst, .slice ao zo.length co, .slice ad zd.length cd] 26) := (Below.heap_alloc _ _ _ (by simp; omega)).trans ((Below.heap_alloc _ _ _ (by simp)).trans (heap_alloc_new w _))
  have m0 : (((w.alloc (.cells #[.int .u8 tos, .int .u16 id, .bool keep, .int .u8 ttl, .int .u8 proto, .int .u32 src, .int .u32 dst, .slice ao zo.length co, .slice ad zd.length cd] 26)).alloc (.cells #[.int .u8 ty, .int .u8 cde, .int .u32 rest, .slice am1 zm1.length cm1] 28)).alloc (.cells #[.int .u16 cl, .bool hs, .bool ha, .int .u32 sq, .int .u32 ak, .slice am2 zm2.length cm2] 30)).heap[w.heap.size + 1]? = some (.cells #[.int .u8 ty, .int .u8 cde, .int .u32 rest, .slice am1 zm1.length cm1] 28) := by
    have := heap_alloc_new (w.alloc (.cells #[.int .u8 tos, .int .u16 id, .bool keep, .int .u8 ttl, .int .u8 proto, .int .u32 src, .int .u32 dst, .slice ao zo.length co, .slice ad zd.length cd] 26)) (.cells #[.int .u8 ty, .int .u8 cde, .int .u32 rest, .slice am1 zm1.length cm1] 28)
    rw [World.size_alloc] at this
    exact (Below.heap_alloc _ _ _ (by simp)).trans this
  have f0 : (((w.alloc (.cells #[.int .u8 tos, .int .u16 id, .bool keep, .int .u8 ttl, .int .u8 proto, .int .u32 src, .int .u32 dst, .slice ao zo.length co, .slice ad zd.length cd] 26)).alloc (.cells #[.int .u8 ty, .int .u8 cde, .int .u32 rest, .slice am1 zm1.length cm1] 28)).alloc (.cells #[.int .u16 cl, .bool hs, .bool ha, .int .u32 sq, .int .u32 ak, .slice am2 zm2.length cm2] 30)).heap[w.heap.size + 1 + 1]? = some (.cells #[.int .u16 cl, .bool hs, .bool ha, .int .u32 sq, .int .u32 ak, .slice am2 zm2.length cm2] 30) := by
    have := heap_alloc_new ((w.alloc (.cells #[.int .u8 tos, .int .u16 id, .bool keep, .int .u8 ttl, .int .u8 proto, .int .u32 src, .int .u32 dst, .slice ao zo.length co, .slice ad zd.length cd] 26)).alloc (.cells #[.int .u8 ty, .int .u8 cde, .int .u32 rest, .slice am1 zm1.length cm1] 28)) (.cells #[.int .u16 cl, .bool hs, .bool ha, .int .u32 sq, .int .u32 ak, .slice am2 zm2.length cm2] 30)
    simpa using this
  have P0 := hide p0
  have M0 := hide m0
  have F0 := hide f0
  clear p0 m0 f0
  go_enter Tryd.func4, Tryd.ntmps4
  go_wp2_with fail
  generalize ((w.alloc (.cells #[.int .u8 tos, .int .u16 id, .bool keep, .int .u8 ttl, .int .u8 proto, .int .u32 src, .int .u32 dst, .slice ao zo.length co, .slice ad zd.length cd] 26)).alloc (.cells #[.int .u8 ty, .int .u8 cde, .int .u32 rest, .slice am1 zm1.length cm1] 28)).alloc (.cells #[.int .u16 cl, .bool hs, .bool ha, .int .u32 sq, .int .u32 ak, .slice am2 zm2.length cm2] 30) = w0 at *
  refine (buildIcmp_u tos id ttl proto src dst keep _ _ zo ty cde rest _ zm1 w0 hBo ((hIo.below hb0).mono hb0.size) hB1 ((hM1.below hb0).mono hb0.size) hlo (by omega) ht hid htt hsr hds hty hcd hre).mono ?_
  rintro e w1 ⟨hb1, x0a, x1a, x2a, x3a, x4a, x5a, x6a, a7a, l7a, c7a, a8a, l8a, c8a, eca, rfl, hC1⟩
  have HC1 := hide hC1
  clear hC1
  have a2 := heap_alloc_new w1 (.cells #[.int .u8 x0a, .int .u16 x1a, .bool x2a, .int .u8 x3a, .int .u8 x4a, .int .u32 x5a, .int .u32 x6a, .slice a7a l7a c7a, .slice a8a l8a c8a] 26)
  have l2 : Later w1 (w1.alloc (.cells #[.int .u8 x0a, .int .u16 x1a, .bool x2a, .int .u8 x3a, .int .u8 x4a, .int .u32 x5a, .int .u32 x6a, .slice a7a l7a c7a, .slice a8a l8a c8a] 26)) := (Below.refl _ _).alloc (Nat.le_refl _) _
  have l02 := Later.trans hb1 l2
  have p2 := (l02.block w.heap.size (Array.getElem?_eq_some_iff.1 P0.out).1).trans P0.out
  have f2 := (l02.block (w.heap.size + 1 + 1) (Array.getElem?_eq_some_iff.1 F0.out).1).trans F0.out
  have m2 := (l02.block (w.heap.size + 1) (Array.getElem?_eq_some_iff.1 M0.out).1).trans M0.out
  have hw2 := hb0.trans (l02.mono hb0.size)
  have PP2 := block_cell p2
  have FF2 := block_cell f2
  go_wp2_with fail
  generalize w1.alloc (.cells #[.int .u8 x0a, .int .u16 x1a, .bool x2a, .int .u8 x3a, .int .u8 x4a, .int .u32 x5a, .int .u32 x6a, .slice a7a l7a c7a, .slice a8a l8a c8a] 26) = w2 at *
  clear PP2 FF2
  refine (buildGre_u tos id ttl proto src dst keep _ _ zo cl sq ak hs ha _ zm2 w2 (hT.below hw2 hT.pos) hBo ((hIo.below hw2).mono hw2.size) hB2 ((hM2.below hw2).mono hw2.size) hlo (by omega) ht hid htt hsr hds hcl hsq hak).mono ?_
  rintro e w3 ⟨hb3, x0b, x1b, x2b, x3b, x4b, x5b, x6b, a7b, l7b, c7b, a8b, l8b, c8b, ecb, rfl, hC2⟩
  have HC2 := hide hC2
  clear hC2
  have c4 := heap_alloc_new w3 (.cells #[.int .u8 x0b, .int .u16 x1b, .bool x2b, .int .u8 x3b, .int .u8 x4b, .int .u32 x5b, .int .u32 x6b, .slice a7b l7b c7b, .slice a8b l8b c8b] 26)
  have l4 : Later w3 (w3.alloc (.cells #[.int .u8 x0b, .int .u16 x1b, .bool x2b, .int .u8 x3b, .int .u8 x4b, .int .u32 x5b, .int .u32 x6b, .slice a7b l7b c7b, .slice a8b l8b c8b] 26)) := (Below.refl _ _).alloc (Nat.le_refl _) _
  have l24 := Later.trans hb3 l4
  have f4 := (l24.block (w.heap.size + 1 + 1) (Array.getElem?_eq_some_iff.1 f2).1).trans f2
  have m4 := (l24.block (w.heap.size + 1) (Array.getElem?_eq_some_iff.1 m2).1).trans m2
  have a4 := (l24.block w1.heap.size (Array.getElem?_eq_some_iff.1 a2).1).trans a2
  have hw4 := hw2.trans (l24.mono hw2.size)
  have l14 := Later.trans l2 l24
  clear p2
  go_upto_if 28 with fail
  generalize w3.alloc (.cells #[.int .u8 x0b, .int .u16 x1b, .bool x2b, .int .u8 x3b, .int .u8 x4b, .int .u32 x5b, .int .u32 x6b, .slice a7b l7b c7b, .slice a8b l8b c8b] 26) = w4 at *
  go_cut [12] (fun z wx => Later w4 wx)
  case first =>
    by_cases h0 : eca = 0
    · obtain ⟨hf, ⟨rfl, rfl, rfl, rfl, rfl, rfl, rfl, rfl, rfl⟩, hO, hD⟩ := HC1.out h0
      have hb : (eca == 0) = true := by simp [h0]
      have hv := flt_fit hf
      have hBi := By_icm ty cde rest zm1 hty hcd hre hB1
      have hpi := icm_pie ty cde rest zm1 hty hcd hre hB1
      obtain ⟨g1, g2, g3, g4⟩ := icm_parts ty cde rest zm1 hpi
      have A4 := block_cell a4
      clear h0 hf HC1
      go_wp2_with fail
      refine (parseIcmp_u x0a x1a x3a 1 x5a x6a x2a _ _ (icm ty cde rest zm1) w4 hBi (hD.later l14).rd (by rw [icm_length]; omega)).mono ?_
      rw [g1, g2, g3, g4, hpi]
      clear g1 g2 g3 g4 hpi A4
      rintro e w5 ⟨hb5, aR, lR, cR, rfl, hlR, oR⟩
      have HLR := hide hlR
      clear hlR
      have r6 := heap_alloc_new w5 (.cells #[.int .u8 ty, .int .u8 cde, .int .u32 rest, .slice aR lR cR] 28)
      have l6 : Later w5 (w5.alloc (.cells #[.int .u8 ty, .int .u8 cde, .int .u32 rest, .slice aR lR cR] 28)) := (Below.refl _ _).alloc (Nat.le_refl _) _
      have l46 := Later.trans hb5 l6
      have m6 := (l46.block (w.heap.size + 1) (Array.getElem?_eq_some_iff.1 m4).1).trans m4
      have a6 := (l46.block w1.heap.size (Array.getElem?_eq_some_iff.1 a4).1).trans a4
      have RR := block_cell r6
      have MM := block_cell m6
      go_wp2_with fail
      generalize w5.alloc (.cells #[.int .u8 ty, .int .u8 cde, .int .u32 rest, .slice aR lR cR] 28) = w6 at *
      have hw6 := hw4.trans (l46.mono hw4.size)
      refine (rsameIcmp_any ty cde rest ty cde rest _ _ zm1 zm1 w6 hB1 hB1 (oR.rd.later l6) ((hM1.below hw6).mono hw6.size)).mono ?_
      rw [smI_self]
      rintro e w7 ⟨rfl, hb7⟩
      have a7 := (hb7.block w1.heap.size (Array.getElem?_eq_some_iff.1 a6).1).trans a6
      have AA := block_cell a7
      clear RR MM
      go_wp2_with fail
      refine (rright_any x0a x1a x3a 1 x5a x6a x2a a7a a8a zo.length c7a (8 + zm1.length) c8a w7 hlo (by omega)).mono ?_
      rw [show (flt zo.length (8 + zm1.length) == 0) = true from by unfold flt; rw [if_neg (by omega), if_neg (by omega)]; rfl]
      rintro e w8 ⟨rfl, hb8⟩
      go_wp2_with fail
      go_meet
      case rel => exact Later.trans l46 (Later.trans hb7 hb8)
    · have hb : (eca == 0) = false := by simp [h0]
      go_wp2_with fail
      go_meet
      case rel => exact Later.refl _
  case rest =>
    have lc := hcut
    clear hcut HC1
    have cc := (lc.block w3.heap.size (Array.getElem?_eq_some_iff.1 c4).1).trans c4
    have fc := (lc.block (w.heap.size + 1 + 1) (Array.getElem?_eq_some_iff.1 f4).1).trans f4
    have hwc := hw4.trans (lc.mono hw4.size)
    by_cases h0 : ecb = 0
    · obtain ⟨hf, hg, ⟨rfl, rfl, rfl, rfl, rfl, rfl, rfl, rfl, rfl⟩, hO, hD⟩ := HC2.out h0
      have hb : (ecb == 0) = true := by simp [h0]
      have hv := flt_fit hf
      have hgn : grn hs ha zm2.length = 8 + ((if hs then 4 else 0) + (if ha then 4 else 0)) + zm2.length := rfl
      have hB := By_grb cl hs ha sq ak zm2 hcl hsq hak hB2
      have hpg := grb_pge cl hs ha sq ak zm2 (by omega)
      obtain ⟨g1, g2, g3, g4, g5, g6⟩ := grb_parts cl hs ha sq ak zm2 hcl.1 hsq.1 hak.1 hg hpg
      have hln := grb_length cl hs ha sq ak zm2
      obtain ⟨gl, HGL⟩ : ∃ gl, Hid (grn hs ha zm2.length = gl) := ⟨_, rfl⟩
      rw [HGL.out] at hv hD hln cc
      have HLN := hide hln
      have CC := block_cell cc
      clear h0 hf HC2 hg hgn hln
      go_wp2_with fail
      refine (parseGre_u x0b x1b x3b 47 x5b x6b x2b _ _ (grb cl hs ha sq ak zm2) wc (hT.below hwc hT.pos) hB (hD.later (Later.trans l4 lc)).rd (by rw [HLN.out]; omega)).mono ?_
      rw [g1, g2, g3, g4, g5, g6, hpg]
      clear g1 g2 g3 g4 g5 g6 hpg CC
      rintro e w5 ⟨hb5, aR, lR, cR, rfl, hlR, oR⟩
      have HLR := hide hlR
      clear hlR
      have r6 := heap_alloc_new w5 (.cells #[.int .u16 cl, .bool hs, .bool ha, .int .u32 sq, .int .u32 ak, .slice aR lR cR] 30)
      have l6 : Later w5 (w5.alloc (.cells #[.int .u16 cl, .bool hs, .bool ha, .int .u32 sq, .int .u32 ak, .slice aR lR cR] 30)) := (Below.refl _ _).alloc (Nat.le_refl _) _
      have l46 := Later.trans hb5 l6
      have m6 := (l46.block (w.heap.size + 1 + 1) (Array.getElem?_eq_some_iff.1 fc).1).trans fc
      have a6 := (l46.block w3.heap.size (Array.getElem?_eq_some_iff.1 cc).1).trans cc
      have RR := block_cell r6
      have MM := block_cell m6
      go_wp2_with fail
      generalize w5.alloc (.cells #[.int .u16 cl, .bool hs, .bool ha, .int .u32 sq, .int .u32 ak, .slice aR lR cR] 30) = w6 at *
      have hw6 := hwc.trans (l46.mono hwc.size)
      refine (rsameGre_any cl sq ak cl sq ak hs ha hs ha _ _ zm2 zm2 w6 hB2 hB2 (oR.rd.later l6) ((hM2.below hw6).mono hw6.size)).mono ?_
      rw [smG_self]
      rintro e w7 ⟨rfl, hb7⟩
      have a7 := (hb7.block w3.heap.size (Array.getElem?_eq_some_iff.1 a6).1).trans a6
      have AA := block_cell a7
      clear RR MM
      go_wp2_with fail
      refine (rright_any x0b x1b x3b 47 x5b x6b x2b a7b a8b zo.length c7b gl c8b w7 hlo (by omega)).mono ?_
      rw [show (flt zo.length gl == 0) = true from by unfold flt; rw [if_neg (by omega), if_neg (by omega)]; rfl]
      rintro e w8 ⟨rfl, hb8⟩
      have l8 := Later.trans l46 (Later.trans hb7 hb8)
      have hw8 := hwc.trans (l8.mono hwc.size)
      go_wp2_with fail
      refine (live4_any w8 (hT.below hw8 hT.pos)).mono ?_
      rintro e w9 ⟨rfl, hb9⟩
      go_wp2
      go_ret
      exact ⟨rfl, hw8.trans (hb9.mono hw8.size)⟩
    · have hb : (ecb == 0) = false := by simp [h0]
      clear h0 HC2
      go_wp2_with fail
      refine (live4_any wc (hT.below hwc hT.pos)).mono ?_
      rintro e w9 ⟨rfl, hb9⟩
      go_wp2
      go_ret
      exact ⟨rfl, hwc.trans (hb9.mono hwc.size)⟩
end Go.Proofs.YtcdeiakeiehaaaaDoor
