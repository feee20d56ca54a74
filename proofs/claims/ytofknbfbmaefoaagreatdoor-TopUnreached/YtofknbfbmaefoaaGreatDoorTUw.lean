import Derived.Test.YtofknbfbmaefoaaGreatDoorX1
import Derived.Test.YtofknbfbmaefoaaGreatDoorTTb
import Derived.Test.YtofknbfbmaefoaaGreatDoorDHz
import Derived.Lib.SlBytesConst
import Derived.Lib.SmallJoins
namespace Go.Proofs.YtofknbfbmaefoaaGreatDoor
open Go.RowKit Go.Shelf
set_option maxRecDepth 100000
set_option linter.unusedVariables false
set_option linter.unusedSimpArgs false
theorem mq_fd (src : Int) (h : src / 16777216 = 10) : [mqR].find? (mqB src) = some mqR := by
 have hq : mqB src mqR = true := by
  unfold mqB mqR upp
  simp only [decide_true, Bool.true_and]
  rw [show ((8 : Int).toNat) = 8 from rfl]
  simp only [Nat.reduceSub, Int.reducePow]
  simp
  omega
 simp [List.find?, hq]
theorem psB_dg {ttl src y a0 q0 : Int} {zz z : List Int} (hF : DgF ttl src y a0 q0 zz z) {lo hi : Nat} {s2 : Gs} {an : Nat} {qq : Int} : psB (gfS lo hi s2) (zz[1]?.getD 0) (wat zz 4) (zz[8]?.getD 0) (wat4 zz 16) (decide (16384 ≤ wat zz 6 % 32768)) ((zz.take (hl4 zz).toNat).drop 20) ((zz.take (ral false zz).toNat).drop (hl4 zz).toNat) an qq mqR = dgB (ttl - 1) 16909060 y (rwD 17 16909060 y ((tkn lo hi an : Nat) : Int) qq z) := by
 unfold psB
 rw [hF.i1, hF.w4, hF.i8, hF.dst, hF.w6, hF.zo, hF.zd]
 unfold dgB
 rw [rwD_length]
 rfl
theorem rd_mark9 (l : List Int) (e : TypeId) (m : Nat × Nat) (w : World) (hne : l ≠ []) (hm : l.length ≤ 1000) : Rd (w.alloc (.cells (l.map (Value.int .u8)).toArray e m)).heap.size (w.alloc (.cells (l.map (Value.int .u8)).toArray e m)) (.slice (some ⟨w.heap.size, 0, none⟩) l.length l.length) l := by
 refine .inr ⟨w.heap.size, 0, l.length, rfl, hne, Nat.le_refl _, by omega, by simp, fun j hj => ?_⟩
 rw [Nat.zero_add, World.cell?_alloc_mark w _ _ _ j, List.getElem?_toArray, List.getElem?_map, List.getElem?_eq_getElem hj]
 rfl
theorem er_back {src dst a b : Int} {om zd : List Int} (hE : ErF src dst a b om zd) (hB : Mt.By om) (hl : om.length = 31) (t : Tu) (ht : TuB t) :
  ∃ zr : List Int, Mt.By zr ∧ zr.length = 39 ∧ que 1 zr = 0 ∧ quv 1 zr = .agg #[.int .u8 17, .int .u32 t.src, .int .u32 t.dst, .int .u16 t.sp, .int .u16 t.dp] ∧
   ∀ (zz : List Int) (r d : Int), ImF 9 r d zz zd → erB (zz[1]?.getD 0) (wat zz 4) (zz[8]?.getD 0) (wat4 zz 12) (decide (16384 ≤ wat zz 6 % 32768)) ((zz.take (hl4 zz).toNat).drop 20) ((zz.take (ral false zz).toNat).drop (hl4 zz).toNat) t = imB 8 r t.src zr := by
 obtain ⟨q1, q2, q3, _, _⟩ := rqt_quoted hE.by_ hE.qu ht.1 ht.2.1 ht.2.2.1 ht.2.2.2
 have hrl : (rqt (qun (zd.drop 8) t.src t.dst t.sp t.dp) (zd.drop 8)).length = 31 := by
  rw [rqt_length (by rw [hE.dr]; exact hB) (by rw [hE.dr]; exact hE.rt), hE.dr, hl]
 refine ⟨_, q1, by rw [icm_length, hrl], q2, ?_, ?_⟩
 ·rw [q3, hE.dr, hE.qp]
  rfl
 ·intro zz r d hF
  unfold erB
  rw [hF.i1, hF.w4, hF.i8, hF.src, hF.w6, hF.zo, hF.zd]
  unfold imB
  rw [icm_length, hrl, hE.dr, hl]
  rfl
set_option maxRecDepth 100000 in
set_option maxHeartbeats 8000000 in
theorem walk_TopUnreached (w : World) (hT : Tb w) (hz : Dz w) (p : Int) (hp : 0 ≤ p ∧ p ≤ 65535) (q : Int) (hq : 0 ≤ q ∧ q ≤ 65535) (r : Int) (hr : 0 ≤ r ∧ r ≤ 4294967295) :
  Calls Tryz.prog 5 #[.agg #[.int .u16 p, .int .u16 q], .int .u32 r] w fun e w' => e = .returned (.bool true) ∧ Below w.heap.size w w' := by
 obtain ⟨a, rfl⟩ : ∃ a : Nat, p = a := ⟨p.toNat, by omega⟩
 have l0 := later_allocG w (.cells #[.int .u16 (a : Int), .int .u16 q] 53)
 have C0 := hide (heap_alloc_new w (.cells #[.int .u16 (a : Int), .int .u16 q] 53))
 have HT := hide (fun W (k : Later w W) => (⟨hT.later k, hz.later k⟩ : Tb W ∧ Dz W))
 have HZP := hide hz.pos
 clear hT hz
 go_enter Tryz.func5, Tryz.ntmps5
 go_upto_region 1 with fail
 generalize w.alloc (.cells #[.int .u16 (a : Int), .int .u16 q] 53) = w1 at *
 generalize hgx : w.heap.size = gx at C0 ⊢
 go_wp2_with fail
 refine (gateway_now w1).mono ?_
 rintro e w2 ⟨g, s, rfl, l1, h1, hls, hgk, hnw0⟩
 have HNW := hide hnw0
 have H1 := hide h1
 have HLS := hide hls
 have HGK := hide hgk
 have L2 : Later w w2 := l0.trans l1
 clear h1 hls hgk hnw0
 have D0 := hide (later_keep l1 C0.out)
 have kq := block_cell D0.out
 clear C0
 by_cases hq5 : q = 5060
 ·have t1 : (q == 5060) = true := by rw [hq5]; decide
  go_wp2_with fail
  go_ret
  exact ⟨rfl, L2⟩
 have t1 : (q == 5060) = false := by rw [beq_eq_false_iff_ne]; exact hq5
 by_cases hp5 : a = 5060
 ·have t0 : ((a : Int) == 5060) = true := by rw [hp5]; decide
  go_wp2_with fail
  go_ret
  exact ⟨rfl, L2⟩
 have t0 : ((a : Int) == 5060) = false := by rw [beq_eq_false_iff_ne]; omega
 go_upto_region 4 with fail
 have hcv := Lib.run_convert_bytes_const (P := Tryz.prog) w2 31 5 #[.int .u8 97, .int .u8 98, .int .u8 99] 3 3 Tryz.underlying31 Tryz.underlying5
 have la2 := later_alloc' w2 (.cells #[.int .u8 97, .int .u8 98, .int .u8 99] 5 (3, 4))
 have r2 : Rd (w2.alloc (.cells #[.int .u8 97, .int .u8 98, .int .u8 99] 5 (3, 4))).heap.size (w2.alloc (.cells #[.int .u8 97, .int .u8 98, .int .u8 99] 5 (3, 4))) (.slice (some ⟨w2.heap.size, 0, none⟩) 3 3) [97, 98, 99] := rd_mark9 [97, 98, 99] 5 (3, 4) w2 (by decide) (by decide)
 go_wp2_with fail
 clear hcv kq
 generalize hw3 : w2.alloc (.cells _ _ (3, 4)) = w3 at *
 generalize w2.heap.size = gS at *
 refine (tt_build 9 167772162 134744072 (a : Int) q false _ [97, 98, 99] w3 (by omega) (by omega) (by omega) hp hq (fun z hz => by simp at hz; omega) r2 (by simp)).mono ?_
 rintro e w5 ⟨l5, a7, c7, a8, l8, c8, z, rfl, hU, hO, hD⟩
 have l13 : Later w1 w3 := l1.trans la2
 have la := later_allocG w5 (.cells #[.int .u8 0, .int .u16 0, .bool false, .int .u8 9, .int .u8 17, .int .u32 167772162, .int .u32 134744072, .slice a7 0 c7, .slice a8 l8 c8] 56)
 have X1 := hide (heap_alloc_new w5 (.cells #[.int .u8 0, .int .u16 0, .bool false, .int .u8 9, .int .u8 17, .int .u32 167772162, .int .u32 134744072, .slice a7 0 c7, .slice a8 l8 c8] 56))
 have O6 := hide (hO.later la)
 have D6 := hide (hD.later la)
 have L26 : Later w2 (w5.alloc (.cells #[.int .u8 0, .int .u16 0, .bool false, .int .u8 9, .int .u8 17, .int .u32 167772162, .int .u32 134744072, .slice a7 0 c7, .slice a8 l8 c8] 56)) := la2.trans (l5.trans la)
 have L16 : Later w1 (w5.alloc (.cells #[.int .u8 0, .int .u16 0, .bool false, .int .u8 9, .int .u8 17, .int .u32 167772162, .int .u32 134744072, .slice a7 0 c7, .slice a8 l8 c8] 56)) := l13.trans (l5.trans la)
 clear la hO hD l5 la2 r2 hw3 l13
 go_upto_region 5 with fail
 change Code.wp _ _ _ _ (w5.alloc (.cells #[.int .u8 0, .int .u16 0, .bool false, .int .u8 9, .int .u8 17, .int .u32 167772162, .int .u32 134744072, .slice a7 0 c7, .slice a8 l8 c8] 56))
 generalize w5.alloc (.cells #[.int .u8 0, .int .u16 0, .bool false, .int .u8 9, .int .u8 17, .int .u32 167772162, .int .u32 134744072, .slice a7 0 c7, .slice a8 l8 c8] 56) = w6 at *
 have k6 := block_cell X1.out
 have HB2 := hide (tt_bytes 9 167772162 134744072 (a : Int) q (.slice a7 0 c7) (.slice a8 l8 c8) [97, 98, 99] z w6 hU (by simp) O6.out.rd D6.out.rd (by omega) (by omega) (by omega))
 go_wp2_with fail
 refine HB2.out.mono ?_
 rintro e w7 ⟨l7, bv, rfl, hO7⟩
 have l17 : Later w1 w7 := L16.trans l7
 have L27 : Later w2 w7 := L26.trans l7
 have L7 : Later w w7 := l0.trans l17
 have F1 := hide (later_keep l7 X1.out)
 have D7 := hide (D6.out.later l7)
 have H7 := hide (H1.out.later L27)
 have O7 := hide hO7
 have hbs7 : w1.heap.size ≤ w7.heap.size := l17.size
 clear k6 HB2 X1 O6 D6 hO7 l7 H1 D0
 have hF := dg_facts hU (by simp) (show (0 : Int) ≤ 9 ∧ (9 : Int) ≤ 255 by omega) (show (0 : Int) ≤ 167772162 ∧ (167772162 : Int) ≤ 4294967295 by omega) (show (0 : Int) ≤ 134744072 ∧ (134744072 : Int) ≤ 4294967295 by omega)
 have hm5 : ¬ ((134744072 : Int) = mqR.tt) := by decide
 have HP := hide (packet_yes w1.heap.size g w6.heap.size s 1000 1063 1 bv (dgB 9 167772162 134744072 z) a q mqR w7 H7.out HGK.out hbs7 hF.by_ O7.out (by have := hF.len; omega) hF.rd hF.i9 (by rw [hF.i8]; decide)
  (by rw [hF.src, hF.dst, HLS.out]; exact ⟨⟨by simp, fun r hr => by have e := List.mem_singleton.1 hr; rw [e]; exact ⟨mq_wf, by decide +kernel⟩⟩, mq_fd 167772162 (by decide), by omega, by omega, by omega, hq, by decide, by decide, by decide, by decide, t1, t0, by intro h; have h2 : mqR.tt = 16909060 := rfl; omega⟩)
  (by rw [hF.src, hF.dst, hF.zd]; exact hU.2.2.1) (by rw [hF.zd]; exact hU.2.2.2.1) (by rw [hF.zd]; exact hU.2.2.2.2.1) (by rw [hF.zo]; decide) (by rw [hF.zo]; decide) (by rw [hF.zo, hF.zd]; have := hU.2.1; simp; simp at this; omega)
  (fun W k => HT.out W (Below.trans L7 ((k.below hbs7).mono l0.size))) (by have := HZP.out; have := L7.size; omega))
 go_upto_region 6 with fail
 go_wp2_with fail
 refine HP.out.mono ?_
 rintro e w8 ⟨s2, f, pb, ov, hls2, hgk2, hfb, rfl, k8, hbn, hG8, hO8⟩
 rw [hF.src, hF.dst] at hbn
 have hnow2 := hgk2.2.2.1
 have hne : ¬ tuA f.o f.r := by
  rw [hbn.2.1, hbn.2.2.1]
  rintro ⟨_, h2, h3, _⟩
  have h2' : (167772162 : Int) = 134744072 := h2
  omega
 obtain ⟨b1, b2, b3, b4, b5, b6⟩ := bg_facts pb hbn hne hnow2
 obtain ⟨n, hn⟩ : ∃ n, n = tkn 1000 1063 a := ⟨_, rfl⟩
 have hnr : 1000 ≤ n ∧ n ≤ 1063 := by rw [hn]; exact tkn_rng (by decide)
 have hU2 : UG 16909060 134744072 (n : Int) q [97, 98, 99] (rwD 17 16909060 134744072 (n : Int) q z) := ug_rewritten hU (by omega) (by omega) (by omega) hq
 have hob : Ow w7.heap.size w8 ov (dgB 8 16909060 134744072 (rwD 17 16909060 134744072 (n : Int) q z)) := by
  rw [psB_dg hF, ← hn] at hO8
  exact hO8
 have hfo : f.o = ⟨17, 167772162, 134744072, (a : Int), q⟩ := hbn.2.1
 have hfr : f.r = ⟨17, 134744072, 16909060, q, (n : Int)⟩ := by rw [hbn.2.2.1, hn]; rfl
 have HFL := hide (show f.id = 0 ∧ f.side = 0 ∧ f.hp = noh from ⟨hbn.1, hbn.2.2.2.1, hbn.2.2.2.2.2⟩)
 have HBG := hide (show _ ∧ _ ∧ _ ∧ _ ∧ _ from ⟨b1, b2, b3, b4, b5⟩)
 have HNE := hide hne
 have HNO := hide hnow2
 have HFO := hide hfo
 have HFR := hide hfr
 have HNR := hide hnr
 have hF2 := dg_facts hU2 (by simp) (show (0 : Int) ≤ 8 ∧ (8 : Int) ≤ 255 by omega) (show (0 : Int) ≤ 16909060 ∧ (16909060 : Int) ≤ 4294967295 by omega) (show (0 : Int) ≤ 134744072 ∧ (134744072 : Int) ≤ 4294967295 by omega)
 have hE := er_facts hU2 hF2 rfl
 have hom : (dgB 8 16909060 134744072 (rwD 17 16909060 134744072 (n : Int) q z)).length = 31 := by
  unfold dgB
  rw [List.length_append, hdr_len, hU2.2.1]
  simp
 have hBom := hF2.by_
 generalize dgB 8 16909060 134744072 (rwD 17 16909060 134744072 (n : Int) q z) = om at *
 have HE := hide hE
 have HOM := hide hom
 have HBOM := hide hBom
 obtain ⟨ova, ovc, oeq, _, _⟩ := hob.slice
 obtain ⟨oln, rfl⟩ : ∃ oln, ov = .slice ova oln ovc := ⟨_, oeq⟩
 have la := later_allocG w8 (.cells #[.int .i64 0, .int .i64 1, .slice ova oln ovc] 40)
 have X9 := hide (heap_alloc_new w8 (.cells #[.int .i64 0, .int .i64 1, .slice ova oln ovc] 40))
 have K89 : KG w1.heap.size w7 (w8.alloc (.cells #[.int .i64 0, .int .i64 1, .slice ova oln ovc] 40)) := k8.trans (KG.of_later la)
 have G9 := hide (hG8.later la)
 have O9 := hide (hob.later la)
 clear la hn oeq hob hfo hfr hnr hG8 hbn hne hnow2 b1 b2 b3 b4 b5 b6 hO8 hU2 HP k8 hF hls2 hF2 hE hom hBom hm5
 go_upto_region 7 with fail
 change Code.wp _ _ _ _ (w8.alloc (.cells #[.int .i64 0, .int .i64 1, .slice ova oln ovc] 40))
 generalize w8.alloc (.cells #[.int .i64 0, .int .i64 1, .slice ova oln ovc] 40) = w9 at *
 have B9 : Below w.heap.size w w9 := Below.trans L7 ((K89.below hbs7).mono l0.size)
 have M1 := hide (K89.cells F1.out (by decide))
 have D9 := hide (D7.out.kg K89)
 have hbs9 : w1.heap.size ≤ w9.heap.size := Nat.le_trans hbs7 K89.size
 clear F1 D7 H7 O7
 have k9 := block_cell X9.out
 have HP := hide (im_icmp 9 r 16909060 (.slice ova oln ovc) om w9 (by have := HOM.out; omega) HBOM.out O9.out.rd (by omega) hr (by omega))
 go_wp2_with fail
 refine HP.out.mono ?_
 rintro e w10 ⟨l10, b7, d7, b8, m8, d8, rfl, hO, hD⟩
 clear k9 HP
 have la := later_allocG w10 (.cells #[.int .u8 0, .int .u16 0, .bool false, .int .u8 9, .int .u8 1, .int .u32 r, .int .u32 16909060, .slice b7 0 d7, .slice b8 m8 d8] 56)
 have X11 := hide (heap_alloc_new w10 (.cells #[.int .u8 0, .int .u16 0, .bool false, .int .u8 9, .int .u8 1, .int .u32 r, .int .u32 16909060, .slice b7 0 d7, .slice b8 m8 d8] 56))
 have O11 := hide (hO.later la)
 have D11 := hide (hD.later la)
 have LA : Later w9 (w10.alloc (.cells #[.int .u8 0, .int .u16 0, .bool false, .int .u8 9, .int .u8 1, .int .u32 r, .int .u32 16909060, .slice b7 0 d7, .slice b8 m8 d8] 56)) := l10.trans la
 clear la hO hD l10
 go_upto_region 8 with fail
 change Code.wp _ _ _ _ (w10.alloc (.cells #[.int .u8 0, .int .u16 0, .bool false, .int .u8 9, .int .u8 1, .int .u32 r, .int .u32 16909060, .slice b7 0 d7, .slice b8 m8 d8] 56))
 generalize w10.alloc (.cells #[.int .u8 0, .int .u16 0, .bool false, .int .u8 9, .int .u8 1, .int .u32 r, .int .u32 16909060, .slice b7 0 d7, .slice b8 m8 d8] 56) = w11 at *
 have hzl := HE.out.len
 have k11 := block_cell X11.out
 have HB2 := hide (im_bytes 9 r 16909060 (.slice b7 0 d7) (.slice b8 m8 d8) (icm 3 3 0 om) w11 (by rw [hzl, HOM.out]; omega) O11.out.rd D11.out.rd (by omega) hr (by omega))
 generalize icm 3 3 0 om = zd at *
 go_wp2_with fail
 refine HB2.out.mono ?_
 rintro e w12 ⟨l12, cv, rfl, hO12⟩
 have L912 : Later w9 w12 := LA.trans l12
 have B12 : Below w.heap.size w w12 := Below.trans B9 (L912.mono B9.size)
 have N1 := hide (later_keep L912 M1.out)
 have N9 := hide (later_keep L912 X9.out)
 have D12 := hide (D9.out.later L912)
 have G12 := hide (G9.out.later L912)
 have O12 := hide hO12
 have hbs12 : w1.heap.size ≤ w12.heap.size := Nat.le_trans hbs9 L912.size
 clear k11 HB2 X11 O11 D11 LA hO12 l12 M1 X9 G9 O9 D9
 have hG := im_facts (ttl := 9) (src := r) (dst := 16909060) HE.out.by_ (by rw [hzl, HOM.out]; omega) (by omega) hr (by omega)
 obtain ⟨b1, b2, b3, b4, b5⟩ := HBG.out
 obtain ⟨i1, i2, i3⟩ := HFL.out
 have hno := HNO.out
 have hnr := HNR.out
 have hkr := twR_kr f.o f.r 0 (s2.now + 30) (0 + 1 + 1 + 1) (0 + 1 + 1 + 1 + 1) HNE.out
 rw [HFR.out] at hkr b2
 have hTB : TuB f.o := by
  rw [HFO.out]
  exact ⟨by show (0 : Int) ≤ 167772162 ∧ (167772162 : Int) ≤ 4294967295; omega, by show (0 : Int) ≤ 134744072 ∧ (134744072 : Int) ≤ 4294967295; omega, by show 0 ≤ (a : Int) ∧ (a : Int) ≤ 65535; omega, hq⟩
 have hErb : Erb (bgS (gfS 1000 1063 s2) a mqR pb f) (f.at 8 (s2.now + 30)) [] zd 16909060 134744072 (n : Int) q := by
  refine ⟨by rw [b1]; simp, ?_, ⟨_, _, by rw [b2]; exact hkr.1, by rw [b2]; exact hkr.2, i1.symm⟩, by omega, by omega, by omega, hq, ?_, i2, hTB, ?_, HE.out.qu, HE.out.qv, by rw [HE.out.dr]; exact HE.out.qp, ?_⟩
  ·intro u hu v hv _
   rw [b1] at hu hv
   rw [List.mem_singleton.1 hu, List.mem_singleton.1 hv]
  ·show ¬ ((17 : Int) = f.o.pr ∧ (134744072 : Int) = f.o.src ∧ _)
   rw [HFO.out]
   rintro ⟨_, h2, _⟩
   have h2' : (134744072 : Int) = 167772162 := h2
   omega
  ·show f.o.pr = 17
   rw [HFO.out]
  ·rw [HE.out.dr, HOM.out]
   decide
 obtain ⟨zr, hBr, hlr, hqr, hvr, her⟩ := er_back HE.out HBOM.out HOM.out f.o hTB
 have HP := hide (packet_err w1.heap.size g w11.heap.size (bgS (gfS 1000 1063 s2) a mqR pb f) (f.at 8 (s2.now + 30)) 2 cv (imB 9 r 16909060 zd) 16909060 134744072 (n : Int) q w12 G12.out hbs12 hG.by_ O12.out (by have := hG.len; omega) hG.rd hG.i9 (by rw [hG.i8]; decide)
  (by rw [hG.zo, hG.zd]; exact hErb) (by rw [hG.zd]; exact HE.out.oe _ _) (by rw [hG.zo]; decide) (by rw [hG.zo]; decide) (by rw [hG.zo, hG.zd, hzl, HOM.out]; decide) (by rw [hG.zd, hzl]; omega)
  (by rw [b4]; exact hno) b5 (by rw [b2, b4]; intro n' hn'; exact twR_due _ _ _ _ _ _ _ (by omega)) (by rw [b2]; have := twR_all f.o ⟨17, 134744072, 16909060, q, (n : Int)⟩ 0 (s2.now + 30) (0 + 1 + 1 + 1) (0 + 1 + 1 + 1 + 1); omega) (fun W k => (HT.out W (Below.trans B12 ((k.below hbs12).mono l0.size))).1))
 have hes := her _ _ _ hG
 have hos : f.o.src = 167772162 := by rw [HFO.out]
 rw [hos] at hes
 rw [HFO.out] at hvr
 have HES := hide hes
 have HVR := hide hvr
 have HQR := hide hqr
 clear b1 b2 b3 b4 b5 i1 i2 i3 hno hnr hkr hErb hG hes hos hvr hqr her hTB
 go_upto_region 9 with fail
 go_wp2_with fail
 refine HP.out.mono ?_
 rintro e w13 ⟨n2, v2, xv, he, k13, _, hX⟩
 have he' : e = .returned (.agg #[.int .i64 0, .int .i64 0, xv]) := he
 subst he'
 have hX' : Ow w12.heap.size w13 xv (imB 8 r 167772162 zr) := by rw [← HES.out]; exact hX
 obtain ⟨xa, xc, xe, _, _⟩ := hX'.slice
 obtain ⟨xl, rfl⟩ : ∃ xl, xv = .slice xa xl xc := ⟨_, xe⟩
 have la := later_allocG w13 (.cells #[.int .i64 0, .int .i64 0, .slice xa xl xc] 40)
 have X14 := hide (heap_alloc_new w13 (.cells #[.int .i64 0, .int .i64 0, .slice xa xl xc] 40))
 have K14 : KG w1.heap.size w12 (w13.alloc (.cells #[.int .i64 0, .int .i64 0, .slice xa xl xc] 40)) := k13.trans (KG.of_later la)
 have O14 := hide (hX'.later la)
 clear la xe hX hX' he HP k13
 go_upto_region 10 with fail
 change Code.wp _ _ _ _ (w13.alloc (.cells #[.int .i64 0, .int .i64 0, .slice xa xl xc] 40))
 generalize w13.alloc (.cells #[.int .i64 0, .int .i64 0, .slice xa xl xc] 40) = w14 at *
 have S1 := hide (K14.cells N1.out (by decide))
 have S9 := hide (K14.cells N9.out (by decide))
 have D14 := hide (D12.out.kg K14)
 have B14 : Below w.heap.size w w14 := Below.trans B12 ((K14.below hbs12).mono l0.size)
 clear N1 N9 D12 G12 O12 K14 B12
 have k14 := block_cell X14.out
 have HP := hide (im_parse 8 r 167772162 (.slice xa xl xc) zr w14 hBr (by omega) O14.out.rd (by omega) hr (by omega))
 go_wp2_with fail
 refine HP.out.mono ?_
 rintro e w15 ⟨l15, e7, f7, e8, n8, f8, rfl, hO, hD⟩
 clear k14 HP
 have la := later_allocG w15 (.cells #[.int .u8 0, .int .u16 0, .bool false, .int .u8 8, .int .u8 1, .int .u32 r, .int .u32 167772162, .slice e7 0 f7, .slice e8 n8 f8] 56)
 have X16 := hide (heap_alloc_new w15 (.cells #[.int .u8 0, .int .u16 0, .bool false, .int .u8 8, .int .u8 1, .int .u32 r, .int .u32 167772162, .slice e7 0 f7, .slice e8 n8 f8] 56))
 have D16 := hide (hD.later la)
 have L1416 : Later w14 (w15.alloc (.cells #[.int .u8 0, .int .u16 0, .bool false, .int .u8 8, .int .u8 1, .int .u32 r, .int .u32 167772162, .slice e7 0 f7, .slice e8 n8 f8] 56)) := l15.trans la
 clear la hO hD l15
 go_upto_region 11 with fail
 change Code.wp _ _ _ _ (w15.alloc (.cells #[.int .u8 0, .int .u16 0, .bool false, .int .u8 8, .int .u8 1, .int .u32 r, .int .u32 167772162, .slice e7 0 f7, .slice e8 n8 f8] 56))
 generalize w15.alloc (.cells #[.int .u8 0, .int .u16 0, .bool false, .int .u8 8, .int .u8 1, .int .u32 r, .int .u32 167772162, .slice e7 0 f7, .slice e8 n8 f8] 56) = w16 at *
 have B16 : Below w.heap.size w w16 := Below.trans B14 (L1416.mono B14.size)
 have k16 := block_cell X16.out
 have hQ := quoted_any 0 0 8 1 r 167772162 false (.slice e7 0 f7) (.slice e8 n8 f8) zr w16 (HT.out w16 B16).1 hBr D16.out.rd (by omega)
 rw [HVR.out, HQR.out] at hQ
 have HQ := hide hQ
 clear hQ
 go_wp2_with fail
 refine HQ.out.mono ?_
 rintro e w17 ⟨l17', rfl⟩
 have l17'' : Later w16 w17 := l17'
 clear k16 HQ l17'
 have la := later_allocG w17 (.cells #[.int .u8 17, .int .u32 167772162, .int .u32 134744072, .int .u16 (a : Int), .int .u16 q] 68)
 have X18 := hide (heap_alloc_new w17 (.cells #[.int .u8 17, .int .u32 167772162, .int .u32 134744072, .int .u16 (a : Int), .int .u16 q] 68))
 have L1618 : Later w16 (w17.alloc (.cells #[.int .u8 17, .int .u32 167772162, .int .u32 134744072, .int .u16 (a : Int), .int .u16 q] 68)) := l17''.trans la
 clear la l17''
 go_upto_region 12 with fail
 change Code.wp _ _ _ _ (w17.alloc (.cells #[.int .u8 17, .int .u32 167772162, .int .u32 134744072, .int .u16 (a : Int), .int .u16 q] 68))
 generalize w17.alloc (.cells #[.int .u8 17, .int .u32 167772162, .int .u32 134744072, .int .u16 (a : Int), .int .u16 q] 68) = w18 at *
 have L1418 : Later w14 w18 := L1416.trans L1618
 have B18 : Below w.heap.size w w18 := Below.trans B14 (L1418.mono B14.size)
 have k1 := block_cell (later_keep L1418 S1.out)
 have HP := hide (tt_of 9 167772162 134744072 (a : Int) q (.slice a7 0 c7) (.slice a8 l8 c8) [97, 98, 99] z w18 (HT.out w18 B18).1 hU (by simp) ((D14.out.later L1418).rd) (by omega) (by omega))
 go_wp2_with fail
 refine HP.out.mono ?_
 rintro e w19 ⟨l19, rfl⟩
 clear k1 HP
 have la := later_allocG w19 (.cells #[.int .u8 17, .int .u32 167772162, .int .u32 134744072, .int .u16 (a : Int), .int .u16 q] 68)
 have X20 := hide (heap_alloc_new w19 (.cells #[.int .u8 17, .int .u32 167772162, .int .u32 134744072, .int .u16 (a : Int), .int .u16 q] 68))
 have L1820 : Later w18 (w19.alloc (.cells #[.int .u8 17, .int .u32 167772162, .int .u32 134744072, .int .u16 (a : Int), .int .u16 q] 68)) := Later.trans l19 la
 clear la l19
 go_upto_region 13 with fail
 change Code.wp _ _ _ _ (w19.alloc (.cells #[.int .u8 17, .int .u32 167772162, .int .u32 134744072, .int .u16 (a : Int), .int .u16 q] 68))
 generalize w19.alloc (.cells #[.int .u8 17, .int .u32 167772162, .int .u32 134744072, .int .u16 (a : Int), .int .u16 q] 68) = w20 at *
 have L1420 : Later w14 w20 := L1418.trans L1820
 have B20 : Below w.heap.size w w20 := Below.trans B14 (L1420.mono B14.size)
 have ko := block_cell (later_keep L1420 S9.out)
 have kx := block_cell (later_keep L1420 X14.out)
 have kq := block_cell (later_keep (L1618.trans L1820) X16.out)
 have kt := block_cell (later_keep L1820 X18.out)
 have kw := block_cell X20.out
 go_wp2_with fail
 go_ret
 exact ⟨rfl, B20⟩
end Go.Proofs.YtofknbfbmaefoaaGreatDoor
