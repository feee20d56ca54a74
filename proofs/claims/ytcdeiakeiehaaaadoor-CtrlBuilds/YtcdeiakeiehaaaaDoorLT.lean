/- The walk of the law CtrlBuilds. -/
import Derived.Test.YtcdeiakeiehaaaaDoorVR
import Derived.Test.YtcdeiakeiehaaaaDoorCZ
import Derived.Test.YtcdeiakeiehaaaaDoorCE
namespace Go.Proofs.YtcdeiakeiehaaaaDoor
open Go.RowKit Go.Shelf
set_option maxRecDepth 100000
set_option linter.unusedVariables false
set_option linter.unusedSimpArgs false

theorem smP_self (a b c d e f : Int) (k : Bool) (x y : List Int) : smP a b c d e f a b c d e f k k x y x y = true := by simp [smP]

set_option maxHeartbeats 8000000 in
theorem walk_CtrlBuilds (w : World) (hT : Tb w) (tos id ttl proto src dst : Int) (keep : Bool) (so sd : Value) (zo zd : List Int) (hBo : Mt.By zo) (hBd : Mt.By zd) (hIo : Rd w.heap.size w so zo) (hId : Rd w.heap.size w sd zd) (hlo : zo.length ≤ 140737488355328) (hld : zd.length ≤ 140737488355328)
    (ht : 0 ≤ tos ∧ tos ≤ 255) (hid : 0 ≤ id ∧ id ≤ 65535) (htt : 0 ≤ ttl ∧ ttl ≤ 255) (hpr : 0 ≤ proto ∧ proto ≤ 255) (hsr : 0 ≤ src ∧ src ≤ 4294967295) (hds : 0 ≤ dst ∧ dst ≤ 4294967295)
    (ty cde rest : Int) (sm1 : Value) (zm1 : List Int) (hB1 : Mt.By zm1) (hM1 : Rd w.heap.size w sm1 zm1) (hl1 : zm1.length ≤ 140737488351232) (hty : 0 ≤ ty ∧ ty ≤ 255) (hcd : 0 ≤ cde ∧ cde ≤ 255) (hre : 0 ≤ rest ∧ rest ≤ 4294967295)
    (cl sq ak : Int) (hs ha : Bool) (sm2 : Value) (zm2 : List Int) (hB2 : Mt.By zm2) (hM2 : Rd w.heap.size w sm2 zm2) (hl2 : zm2.length ≤ 140737488351232) (hcl : 0 ≤ cl ∧ cl ≤ 65535) (hsq : 0 ≤ sq ∧ sq ≤ 4294967295) (hak : 0 ≤ ak ∧ ak ≤ 4294967295) :
    Calls Tryd.prog 3 #[.agg #[.int .u8 tos, .int .u16 id, .bool keep, .int .u8 ttl, .int .u8 proto, .int .u32 src, .int .u32 dst, so, sd], .agg #[.int .u8 ty, .int .u8 cde, .int .u32 rest, sm1], .agg #[.int .u16 cl, .bool hs, .bool ha, .int .u32 sq, .int .u32 ak, sm2]] w fun e w' => e = .returned (.bool true) ∧ Below w.heap.size w w' := by
  obtain ⟨ao, co, rfl, _, _⟩ := hIo.slice
  obtain ⟨ad, cd, rfl, _, _⟩ := hId.slice
  obtain ⟨am1, cm1, rfl, _, _⟩ := hM1.slice
  obtain ⟨am2, cm2, rfl, _, _⟩ := hM2.slice
  have hw0 : Below w.heap.size w (((w.alloc (.cells #[.int .u8 tos, .int .u16 id, .bool keep, .int .u8 ttl, .int .u8 proto, .int .u32 src, .int .u32 dst, .slice ao zo.length co, .slice ad zd.length cd] 26)).alloc (.cells #[.int .u8 ty, .int .u8 cde, .int .u32 rest, .slice am1 zm1.length cm1] 28)).alloc (.cells #[.int .u16 cl, .bool hs, .bool ha, .int .u32 sq, .int .u32 ak, .slice am2 zm2.length cm2] 30)) := (((Below.refl _ _).alloc (Nat.le_refl _) _).alloc (by simp) _).alloc (by simp; omega) _
  have p0 : (((w.alloc (.cells #[.int .u8 tos, .int .u16 id, .bool keep, .int .u8 ttl, .int .u8 proto, .int .u32 src, .int .u32 dst, .slice ao zo.length co, .slice ad zd.length cd] 26)).alloc (.cells #[.int .u8 ty, .int .u8 cde, .int .u32 rest, .slice am1 zm1.length cm1] 28)).alloc (.cells #[.int .u16 cl, .bool hs, .bool ha, .int .u32 sq, .int .u32 ak, .slice am2 zm2.length cm2] 30)).heap[w.heap.size]? = some (.cells #[.int .u8 tos, .int .u16 id, .bool keep, .int .u8 ttl, .int .u8 proto, .int .u32 src, .int .u32 dst, .slice ao zo.length co, .slice ad zd.length cd] 26) := (Below.heap_alloc _ _ _ (by simp; omega)).trans ((Below.heap_alloc _ _ _ (by simp)).trans (heap_alloc_new w _))
  have m0 : (((w.alloc (.cells #[.int .u8 tos, .int .u16 id, .bool keep, .int .u8 ttl, .int .u8 proto, .int .u32 src, .int .u32 dst, .slice ao zo.length co, .slice ad zd.length cd] 26)).alloc (.cells #[.int .u8 ty, .int .u8 cde, .int .u32 rest, .slice am1 zm1.length cm1] 28)).alloc (.cells #[.int .u16 cl, .bool hs, .bool ha, .int .u32 sq, .int .u32 ak, .slice am2 zm2.length cm2] 30)).heap[w.heap.size + 1]? = some (.cells #[.int .u8 ty, .int .u8 cde, .int .u32 rest, .slice am1 zm1.length cm1] 28) := by
    have := heap_alloc_new (w.alloc (.cells #[.int .u8 tos, .int .u16 id, .bool keep, .int .u8 ttl, .int .u8 proto, .int .u32 src, .int .u32 dst, .slice ao zo.length co, .slice ad zd.length cd] 26)) (.cells #[.int .u8 ty, .int .u8 cde, .int .u32 rest, .slice am1 zm1.length cm1] 28)
    rw [World.size_alloc] at this
    exact (Below.heap_alloc _ _ _ (by simp)).trans this
  have f0 : (((w.alloc (.cells #[.int .u8 tos, .int .u16 id, .bool keep, .int .u8 ttl, .int .u8 proto, .int .u32 src, .int .u32 dst, .slice ao zo.length co, .slice ad zd.length cd] 26)).alloc (.cells #[.int .u8 ty, .int .u8 cde, .int .u32 rest, .slice am1 zm1.length cm1] 28)).alloc (.cells #[.int .u16 cl, .bool hs, .bool ha, .int .u32 sq, .int .u32 ak, .slice am2 zm2.length cm2] 30)).heap[w.heap.size + 1 + 1]? = some (.cells #[.int .u16 cl, .bool hs, .bool ha, .int .u32 sq, .int .u32 ak, .slice am2 zm2.length cm2] 30) := by
    have := heap_alloc_new ((w.alloc (.cells #[.int .u8 tos, .int .u16 id, .bool keep, .int .u8 ttl, .int .u8 proto, .int .u32 src, .int .u32 dst, .slice ao zo.length co, .slice ad zd.length cd] 26)).alloc (.cells #[.int .u8 ty, .int .u8 cde, .int .u32 rest, .slice am1 zm1.length cm1] 28)) (.cells #[.int .u16 cl, .bool hs, .bool ha, .int .u32 sq, .int .u32 ak, .slice am2 zm2.length cm2] 30)
    simpa using this
  have P0 := hide p0
  have M0 := hide m0
  have F0 := hide f0
  clear p0 m0 f0
  go_enter Tryd.func3, Tryd.ntmps3
  go_wp2_with fail
  generalize ((w.alloc (.cells #[.int .u8 tos, .int .u16 id, .bool keep, .int .u8 ttl, .int .u8 proto, .int .u32 src, .int .u32 dst, .slice ao zo.length co, .slice ad zd.length cd] 26)).alloc (.cells #[.int .u8 ty, .int .u8 cde, .int .u32 rest, .slice am1 zm1.length cm1] 28)).alloc (.cells #[.int .u16 cl, .bool hs, .bool ha, .int .u32 sq, .int .u32 ak, .slice am2 zm2.length cm2] 30) = w0 at *
  have C1 : ∀ v : World, Rd v.heap.size v (.slice ao zo.length co) zo → Rd v.heap.size v (.slice am1 zm1.length cm1) zm1 → _ := fun v x y => buildIcmp_v tos id ttl proto src dst keep _ ad zd.length cd zo ty cde rest _ zm1 v hBo x hB1 y hlo (by omega) ht hid htt hsr hds hty hcd hre
  have C2 : ∀ v : World, Rd v.heap.size v (.slice ao zo.length co) zo → Rd v.heap.size v (.slice am1 zm1.length cm1) zm1 → _ := fun v x y => rbuildIcmp_v tos id ttl proto src dst keep _ ad zd.length cd zo ty cde rest _ zm1 v hBo x hB1 y hlo (by omega) ht hid htt hsr hds hty hcd hre
  have C3 : ∀ v : World, Tb v → Rd v.heap.size v (.slice ao zo.length co) zo → Rd v.heap.size v (.slice am2 zm2.length cm2) zm2 → _ := fun v t x y => buildGre_v tos id ttl proto src dst keep _ ad zd.length cd zo cl sq ak hs ha _ zm2 v t hBo x hB2 y hlo (by omega) ht hid htt hsr hds hcl hsq hak
  have C4 : ∀ v : World, Rd v.heap.size v (.slice ao zo.length co) zo → Rd v.heap.size v (.slice am2 zm2.length cm2) zm2 → _ := fun v x y => rbuildGre_v tos id ttl proto src dst keep _ ad zd.length cd zo cl sq ak hs ha _ zm2 v hBo x hB2 y hlo (by omega) ht hid htt hsr hds hcl hsq hak
  have By1 : Mt.By (zL (flt zo.length (8 + zm1.length)) zo) := By_zL hBo
  have By2 : Mt.By (zL (flt zo.length (8 + zm1.length)) (icm ty cde rest zm1)) := By_zL (By_icm ty cde rest zm1 hty hcd hre hB1)
  have By3 : Mt.By (zL (grE hs ha sq ak zo.length zm2.length) zo) := By_zL hBo
  have By4 : Mt.By (zL (grE hs ha sq ak zo.length zm2.length) (grb cl hs ha sq ak zm2)) := By_zL (By_grb cl hs ha sq ak zm2 hcl hsq hak hB2)
  generalize flt zo.length (8 + zm1.length) = f1 at *
  generalize zI f1 tos = y0x at *
  generalize zI f1 id = y1x at *
  generalize zB f1 keep = y2x at *
  generalize zI f1 ttl = y3x at *
  generalize zI f1 1 = y4x at *
  generalize zI f1 src = y5x at *
  generalize zI f1 dst = y6x at *
  generalize zL f1 zo = zox at *
  generalize zL f1 (icm ty cde rest zm1) = zdx at *
  obtain ⟨lox, HLOx⟩ : ∃ n, Hid (zox.length = n) := ⟨_, rfl⟩
  obtain ⟨ldx, HLDx⟩ : ∃ n, Hid (zdx.length = n) := ⟨_, rfl⟩
  generalize grE hs ha sq ak zo.length zm2.length = f2 at *
  generalize zI f2 tos = y0z at *
  generalize zI f2 id = y1z at *
  generalize zB f2 keep = y2z at *
  generalize zI f2 ttl = y3z at *
  generalize zI f2 47 = y4z at *
  generalize zI f2 src = y5z at *
  generalize zI f2 dst = y6z at *
  generalize zL f2 zo = zoz at *
  generalize zL f2 (grb cl hs ha sq ak zm2) = zdz at *
  obtain ⟨loz, HLOz⟩ : ∃ n, Hid (zoz.length = n) := ⟨_, rfl⟩
  obtain ⟨ldz, HLDz⟩ : ∃ n, Hid (zdz.length = n) := ⟨_, rfl⟩
  have hr : ∀ (v : World) (h : Below w.heap.size w v), Rd v.heap.size v (.slice ao zo.length co) zo := fun v h => (hIo.below h).mono h.size
  have hr1 : ∀ (v : World) (h : Below w.heap.size w v), Rd v.heap.size v (.slice am1 zm1.length cm1) zm1 := fun v h => (hM1.below h).mono h.size
  have hr2 : ∀ (v : World) (h : Below w.heap.size w v), Rd v.heap.size v (.slice am2 zm2.length cm2) zm2 := fun v h => (hM2.below h).mono h.size
  refine (C1 w0 (hr _ hw0) (hr1 _ hw0)).mono ?_
  rw [HLOx.out, HLDx.out]
  rintro e w1 ⟨hbw1, a1, c1, b1, d1, rfl, oa1, ob1⟩
  have k1 := heap_alloc_new w1 (.cells #[.int .u8 y0x, .int .u16 y1x, .bool y2x, .int .u8 y3x, .int .u8 y4x, .int .u32 y5x, .int .u32 y6x, .slice a1 lox c1, .slice b1 ldx d1] 26)
  have l2 : Later w1 (w1.alloc (.cells #[.int .u8 y0x, .int .u16 y1x, .bool y2x, .int .u8 y3x, .int .u8 y4x, .int .u32 y5x, .int .u32 y6x, .slice a1 lox c1, .slice b1 ldx d1] 26)) := (Below.refl _ _).alloc (Nat.le_refl _) _
  have ll2 := Later.trans hbw1 l2
  have hw2 := hw0.trans (ll2.mono hw0.size)
  have p2 := (ll2.block w.heap.size (Array.getElem?_eq_some_iff.1 P0.out).1).trans P0.out
  have m2 := (ll2.block (w.heap.size + 1) (Array.getElem?_eq_some_iff.1 M0.out).1).trans M0.out
  have g2 := (ll2.block (w.heap.size + 1 + 1) (Array.getElem?_eq_some_iff.1 F0.out).1).trans F0.out
  have PP := block_cell p2
  have MM := block_cell m2
  go_wp2_with fail
  generalize w1.alloc (.cells #[.int .u8 y0x, .int .u16 y1x, .bool y2x, .int .u8 y3x, .int .u8 y4x, .int .u32 y5x, .int .u32 y6x, .slice a1 lox c1, .slice b1 ldx d1] 26) = w2 at *
  clear PP MM
  refine (C2 w2 (hr _ hw2) (hr1 _ hw2)).mono ?_
  rw [HLOx.out, HLDx.out]
  rintro e w3 ⟨hbw3, a2, c2, b2, d2, rfl, oa2, ob2⟩
  have k2 := heap_alloc_new w3 (.cells #[.int .u8 y0x, .int .u16 y1x, .bool y2x, .int .u8 y3x, .int .u8 y4x, .int .u32 y5x, .int .u32 y6x, .slice a2 lox c2, .slice b2 ldx d2] 26)
  have l4 : Later w3 (w3.alloc (.cells #[.int .u8 y0x, .int .u16 y1x, .bool y2x, .int .u8 y3x, .int .u8 y4x, .int .u32 y5x, .int .u32 y6x, .slice a2 lox c2, .slice b2 ldx d2] 26)) := (Below.refl _ _).alloc (Nat.le_refl _) _
  have ll4 := Later.trans hbw3 l4
  have hw4 := hw2.trans (ll4.mono hw2.size)
  have p4 := (ll4.block w.heap.size (Array.getElem?_eq_some_iff.1 p2).1).trans p2
  have g4 := (ll4.block (w.heap.size + 1 + 1) (Array.getElem?_eq_some_iff.1 g2).1).trans g2
  have q4 := (ll4.block w1.heap.size (Array.getElem?_eq_some_iff.1 k1).1).trans k1
  have PP := block_cell p4
  have MM := block_cell g4
  go_wp2_with fail
  generalize w3.alloc (.cells #[.int .u8 y0x, .int .u16 y1x, .bool y2x, .int .u8 y3x, .int .u8 y4x, .int .u32 y5x, .int .u32 y6x, .slice a2 lox c2, .slice b2 ldx d2] 26) = w4 at *
  clear PP MM
  refine (C3 w4 (hT.below hw4 hT.pos) (hr _ hw4) (hr2 _ hw4)).mono ?_
  rw [HLOz.out, HLDz.out]
  rintro e w5 ⟨hbw5, a3, c3, b3, d3, rfl, oa3, ob3⟩
  have k3 := heap_alloc_new w5 (.cells #[.int .u8 y0z, .int .u16 y1z, .bool y2z, .int .u8 y3z, .int .u8 y4z, .int .u32 y5z, .int .u32 y6z, .slice a3 loz c3, .slice b3 ldz d3] 26)
  have l6 : Later w5 (w5.alloc (.cells #[.int .u8 y0z, .int .u16 y1z, .bool y2z, .int .u8 y3z, .int .u8 y4z, .int .u32 y5z, .int .u32 y6z, .slice a3 loz c3, .slice b3 ldz d3] 26)) := (Below.refl _ _).alloc (Nat.le_refl _) _
  have ll6 := Later.trans hbw5 l6
  have hw6 := hw4.trans (ll6.mono hw4.size)
  have p6 := (ll6.block w.heap.size (Array.getElem?_eq_some_iff.1 p4).1).trans p4
  have g6 := (ll6.block (w.heap.size + 1 + 1) (Array.getElem?_eq_some_iff.1 g4).1).trans g4
  have q6 := (ll6.block w1.heap.size (Array.getElem?_eq_some_iff.1 q4).1).trans q4
  have s6 := (ll6.block w3.heap.size (Array.getElem?_eq_some_iff.1 k2).1).trans k2
  have PP := block_cell p6
  have MM := block_cell g6
  go_wp2_with fail
  generalize w5.alloc (.cells #[.int .u8 y0z, .int .u16 y1z, .bool y2z, .int .u8 y3z, .int .u8 y4z, .int .u32 y5z, .int .u32 y6z, .slice a3 loz c3, .slice b3 ldz d3] 26) = w6 at *
  clear PP MM
  refine (C4 w6 (hr _ hw6) (hr2 _ hw6)).mono ?_
  rw [HLOz.out, HLDz.out]
  rintro e w7 ⟨hbw7, a4, c4, b4, d4, rfl, oa4, ob4⟩
  have k4 := heap_alloc_new w7 (.cells #[.int .u8 y0z, .int .u16 y1z, .bool y2z, .int .u8 y3z, .int .u8 y4z, .int .u32 y5z, .int .u32 y6z, .slice a4 loz c4, .slice b4 ldz d4] 26)
  have l8 : Later w7 (w7.alloc (.cells #[.int .u8 y0z, .int .u16 y1z, .bool y2z, .int .u8 y3z, .int .u8 y4z, .int .u32 y5z, .int .u32 y6z, .slice a4 loz c4, .slice b4 ldz d4] 26)) := (Below.refl _ _).alloc (Nat.le_refl _) _
  have ll8 := Later.trans hbw7 l8
  have hw8 := hw6.trans (ll8.mono hw6.size)
  have q8 := (ll8.block w1.heap.size (Array.getElem?_eq_some_iff.1 q6).1).trans q6
  have s8 := (ll8.block w3.heap.size (Array.getElem?_eq_some_iff.1 s6).1).trans s6
  have t8 := (ll8.block w5.heap.size (Array.getElem?_eq_some_iff.1 k3).1).trans k3
  go_wp2_with fail
  generalize w7.alloc (.cells #[.int .u8 y0z, .int .u16 y1z, .bool y2z, .int .u8 y3z, .int .u8 y4z, .int .u32 y5z, .int .u32 y6z, .slice a4 loz c4, .slice b4 ldz d4] 26) = w8 at *
  refine (live4_any w8 (hT.below hw8 hT.pos)).mono ?_
  rintro e w9 ⟨rfl, hb9⟩
  have l9 : Later w8 w9 := hb9
  have q9 := block_cell ((l9.block w1.heap.size (Array.getElem?_eq_some_iff.1 q8).1).trans q8)
  have s9 := block_cell ((l9.block w3.heap.size (Array.getElem?_eq_some_iff.1 s8).1).trans s8)
  have hw9 := hw8.trans (l9.mono hw8.size)
  go_wp2_with fail
  have l79 := Later.trans ll8 l9
  have l59 := Later.trans ll6 l79
  have l39 := Later.trans ll4 l59
  refine (rsame_any y0x y1x y3x y4x y5x y6x y0x y1x y3x y4x y5x y6x y2x y2x _ _ _ _ zox zdx zox zdx w9 By1 By2 By1 By2 (oa1.rd.later (Later.trans l2 l39)) (ob1.rd.later (Later.trans l2 l39)) (oa2.rd.later (Later.trans l4 l59)) (ob2.rd.later (Later.trans l4 l59))).mono ?_
  rw [smP_self]
  rintro e w10 ⟨rfl, hb10⟩
  have l10 : Later w9 w10 := hb10
  have l810 := Later.trans l9 l10
  have t10 := block_cell ((l810.block w5.heap.size (Array.getElem?_eq_some_iff.1 t8).1).trans t8)
  have u10 := block_cell ((l810.block w7.heap.size (Array.getElem?_eq_some_iff.1 k4).1).trans k4)
  have hw10 := hw9.trans (l10.mono hw9.size)
  clear q9 s9
  go_wp2_with fail
  refine (rsame_any y0z y1z y3z y4z y5z y6z y0z y1z y3z y4z y5z y6z y2z y2z _ _ _ _ zoz zdz zoz zdz w10 By3 By4 By3 By4 (oa3.rd.later (Later.trans l6 (Later.trans ll8 l810))) (ob3.rd.later (Later.trans l6 (Later.trans ll8 l810))) (oa4.rd.later (Later.trans l8 l810)) (ob4.rd.later (Later.trans l8 l810))).mono ?_
  rw [smP_self]
  rintro e w11 ⟨rfl, hb11⟩
  go_wp2
  go_ret
  exact ⟨rfl, hw10.trans (hb11.mono hw10.size)⟩
end Go.Proofs.YtcdeiakeiehaaaaDoor
