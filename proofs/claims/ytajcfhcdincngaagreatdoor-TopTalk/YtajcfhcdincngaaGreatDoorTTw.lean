/- TopTalk: the walk. -/
import Derived.Test.YtajcfhcdincngaaGreatDoorTTm
import Derived.Test.YtajcfhcdincngaaGreatDoorX1
import Derived.Test.YtajcfhcdincngaaGreatDoorDHz
namespace Go.Proofs.YtajcfhcdincngaaGreatDoor
open Go.RowKit Go.Shelf
set_option maxRecDepth 100000
set_option linter.unusedVariables false
set_option linter.unusedSimpArgs false

theorem few5_any (n₀ : Nat) (sv : Value) (zs : List Int) (w : World) (hI : Rd n₀ w sv zs) : Calls Tryz.prog 7 #[sv, .int .i64 500] w fun e w' => (∃ v, e = .returned v ∧ Rd n₀ w v (zs.take 500)) ∧ w' = w := by
 obtain ⟨a, cap, rfl, h1, h2⟩ := hI.slice
 go_enter Tryz.func7, Tryz.ntmps7
 by_cases h : zs.length ≤ 500
 ·have h' : ¬ (500 : Int) < (zs.length : Int) := by omega
  go_wp2_with fail
  go_ret
  exact ⟨⟨_, rfl, by rw [List.take_of_length_le h]; exact hI⟩, rfl⟩
 ·have h' : (500 : Int) < (zs.length : Int) := by omega
  have h3 : 500 ≤ cap := by omega
  go_wp2_with fail
  go_ret
  exact ⟨⟨_, rfl, hI.take 500 (by omega)⟩, rfl⟩

theorem mq_fd (src : Int) (h : src / 16777216 = 10) : [mqR].find? (mqB src) = some mqR := by
 have hq : mqB src mqR = true := by
  unfold mqB mqR upp
  simp only [decide_true, Bool.true_and]
  rw [show ((8 : Int).toNat) = 8 from rfl]
  simp only [Nat.reduceSub, Int.reducePow]
  simp
  omega
 simp [List.find?, hq]

theorem rd_back {n₀ : Nat} {A B : World} (h : Below n₀ A B) {sv : Value} {zs : List Int} : Rd n₀ B sv zs → Rd n₀ A sv zs
 | .inl e => .inl e
 | .inr ⟨b, off, cap, e, hne, hl, hm, hb, hc⟩ => .inr ⟨b, off, cap, e, hne, hl, hm, hb, fun j hj => (h.cell (p := ⟨b, off + j, none⟩) hb).symm.trans (hc j hj)⟩
theorem psB_dg {ttl src y a0 q0 : Int} {zz z : List Int} (hF : DgF ttl src y a0 q0 zz z) {lo hi : Nat} {s2 : Gs} {an : Nat} {qq : Int} : psB (gfS lo hi s2) (zz[1]?.getD 0) (wat zz 4) (zz[8]?.getD 0) (wat4 zz 16) (decide (16384 ≤ wat zz 6 % 32768)) ((zz.take (hl4 zz).toNat).drop 20) ((zz.take (ral false zz).toNat).drop (hl4 zz).toNat) an qq mqR = dgB (ttl - 1) 16909060 y (rwD 17 16909060 y ((tkn lo hi an : Nat) : Int) qq z) := by
 unfold psB
 rw [hF.i1, hF.w4, hF.i8, hF.dst, hF.w6, hF.zo, hF.zd]
 unfold dgB
 rw [rwD_length]
 rfl
theorem goB_dg {ttl src y a0 q0 : Int} {zz z : List Int} (hF : DgF ttl src y a0 q0 zz z) (t : Tu) : goB (zz[1]?.getD 0) (wat zz 4) (zz[8]?.getD 0) (decide (16384 ≤ wat zz 6 % 32768)) ((zz.take (hl4 zz).toNat).drop 20) ((zz.take (ral false zz).toNat).drop (hl4 zz).toNat) t = dgB (ttl - 1) t.dst t.src (rwD 17 t.dst t.src t.dp t.sp z) := by
 unfold goB
 rw [hF.i1, hF.w4, hF.i8, hF.w6, hF.zo, hF.zd]
 unfold dgB
 rw [rwD_length]

set_option maxRecDepth 100000 in
set_option maxHeartbeats 8000000 in
theorem walk_TopTalk (w : World) (hT : Tb w) (hz : Dz w) (x y : Int) (hx : 0 ≤ x ∧ x ≤ 4294967295) (hy : 0 ≤ y ∧ y ≤ 4294967295) (p : Int) (hp : 0 ≤ p ∧ p ≤ 65535) (q : Int) (hq : 0 ≤ q ∧ q ≤ 65535) (sv : Value) (zs : List Int) (hB : Mt.By zs) (hI : Rd w.heap.size w sv zs) (hsz : zs.length ≤ 140737488351232) :
  Calls Tryz.prog 3 #[.agg #[.int .u32 x, .int .u32 y], .agg #[.int .u16 p, .int .u16 q], sv] w fun e w' => e = .returned (.bool true) ∧ Below w.heap.size w w' := by
 obtain ⟨a, rfl⟩ : ∃ a : Nat, p = a := ⟨p.toNat, by omega⟩
 obtain ⟨l0, c0, c1⟩ := alloc2 w (.cells #[.int .u32 x, .int .u32 y] 23) (.cells #[.int .u16 (a : Int), .int .u16 q] 25)
 have C0 := hide c0
 have C1 := hide c1
 have HT := hide (fun W (k : Later w W) => (⟨hT.later k, hz.later k⟩ : Tb W ∧ Dz W))
 have HZP := hide hz.pos
 clear c0 c1 hT hz
 go_enter Tryz.func3, Tryz.ntmps3
 go_upto_region 1 with fail
 generalize (w.alloc (.cells #[.int .u32 x, .int .u32 y] 23)).alloc (.cells #[.int .u16 (a : Int), .int .u16 q] 25) = w1 at *
 generalize hgx : w.heap.size = gx at C0 C1 ⊢
 go_wp2_with fail
 refine (gateway_now w1).mono ?_
 rintro e w2 ⟨g, s, rfl, l1, h1, hls, hgk, hnw0⟩
 have HNW := hide hnw0
 clear hnw0
 have H1 := hide h1
 have HLS := hide hls
 have HGK := hide hgk
 have L2 : Later w w2 := l0.trans l1
 clear h1 hls hgk
 go_wp2_with fail
 refine (few5_any w.heap.size sv zs w2 (hI.below L2)).mono ?_
 rintro e w3 ⟨⟨v, rfl, hv⟩, hw3⟩
 subst hw3
 have hBt := hB.take 500
 have hlt : (zs.take 500).length ≤ 500 := by rw [List.length_take]; omega
 generalize zs.take 500 = zt at *
 obtain ⟨va, vc, rfl, _, _⟩ := hv.slice
 clear hB hI hsz
 have hk1 : w1.heap.size ≤ w3.heap.size := l1.size
 have D0 := hide (later_keep l1 C0.out)
 have D1 := hide (later_keep l1 C1.out)
 clear C0 C1
 go_upto_region 3 with fail
 refine anyR_begin (R := Later) Later.pre Later.drew 8 rfl (by kernel_rfl) (fun V0 hV0 => ?_)
 have q0 : ∀ v, Later V0 v → ∀ j, v.cell? ⟨gx, j, none⟩ = #[.int .u32 x, .int .u32 y][j]? := fun v hv => block_cell (later_keep (hV0.trans hv) D0.out)
 refine rV Later.pre 0 rfl rfl ?_; apply Exists.intro; refine ⟨fun v1 hv1 => ?_, ?_⟩; (· (go_simp; rfl)); simp only [Act.put, sA, sB, sC]
 refine rV Later.pre 1 rfl rfl ?_; apply Exists.intro; refine ⟨fun v1 hv1 => ?_, ?_⟩; (· (go_simp; rfl)); simp only [Act.put, sA, sB, sC]
 refine rV Later.pre 2 rfl rfl ?_; apply Exists.intro; refine ⟨fun v1 hv1 => ?_, ?_⟩; (· (go_simp; rfl)); simp only [Act.put, sA, sB, sC]
 refine rV Later.pre 3 rfl rfl ?_; apply Exists.intro; refine ⟨fun v1 hv1 => ?_, ?_⟩; (· (go_simp; rfl)); simp only [Act.put, sA, sB, sC]
 refine rV Later.pre 4 rfl rfl ?_; apply Exists.intro; refine ⟨fun v1 hv1 => ?_, ?_⟩; (· (go_simp; rfl)); simp only [Act.put, sA, sB, sC]
 refine rV Later.pre 5 rfl rfl ?_; apply Exists.intro; refine ⟨fun v1 hv1 => ?_, ?_⟩; (· (go_simp; rfl)); simp only [Act.put, sA, sB, sC]
 refine rV Later.pre 6 rfl rfl ?_; apply Exists.intro; refine ⟨fun v1 hv1 => ?_, ?_⟩; (· (go_simp; rfl)); simp only [Act.put, sA, sB, sC]
 refine rV Later.pre 7 rfl rfl ?_; apply Exists.intro; refine ⟨fun v1 hv1 => ?_, ?_⟩; (· (go_simp; rfl)); simp only [Act.put, sA, sB, sC]
 clear q0
 refine anyR_done (by kernel_rfl) (fun V1 hV1 => ?_)
 go_upto_region 4 with fail
 have hsrc : IntKind.u32.wrap (167772160 + x.tmod 65536) = 167772160 + x % 65536 := by
  rw [Int.tmod_eq_emod_of_nonneg hx.1]
  have h1 : 0 ≤ x % 65536 := Int.emod_nonneg _ (by decide)
  have h2 : x % 65536 < 65536 := Int.emod_lt_of_pos _ (by decide)
  simp [IntKind.wrap, IntKind.signed, IntKind.bits]
  omega
 rw [hsrc]
 have hsr : 0 ≤ 167772160 + x % 65536 ∧ 167772160 + x % 65536 ≤ 4294967295 := by omega
 have hs10 : (167772160 + x % 65536) / 16777216 = 10 := by omega
 clear hsrc
 generalize 167772160 + x % 65536 = src at *
 have l13 : Later w1 V1 := l1.trans (hV0.trans hV1)
 have L3 : Later w V1 := l0.trans l13
 have E0 := hide (later_keep (hV0.trans hV1) D0.out)
 have E1 := hide (later_keep (hV0.trans hV1) D1.out)
 have HV := hide ((hv.below (hV0.trans hV1 |>.mono L2.size)))
 have HVW := hide (rd_back (L2 : Below w.heap.size w w3) hv)
 have H3 := hide (H1.out.later (hV0.trans hV1))
 have hbs : w1.heap.size ≤ V1.heap.size := l13.size
 clear D0 D1 hv H1 hV0 hV1 l1 L2 hk1
 have kq := block_cell E1.out
 have HB1 := hide (tt_build 9 src y (a : Int) q false _ zt V1 (by omega) hsr hy hp hq hBt (HV.out.mono L3.size) hlt)
 go_wp2_with fail
 refine HB1.out.mono ?_
 rintro e w5 ⟨l5, a7, c7, a8, l8, c8, z, rfl, hU, hO, hD⟩
 clear kq HB1
 have la := later_allocG w5 (.cells #[.int .u8 0, .int .u16 0, .bool false, .int .u8 9, .int .u8 17, .int .u32 src, .int .u32 y, .slice a7 0 c7, .slice a8 l8 c8] 31)
 have X1 := hide (heap_alloc_new w5 (.cells #[.int .u8 0, .int .u16 0, .bool false, .int .u8 9, .int .u8 17, .int .u32 src, .int .u32 y, .slice a7 0 c7, .slice a8 l8 c8] 31))
 have O6 := hide (hO.later la)
 have D6 := hide (hD.later la)
 have LA := hide (l5.trans la)
 clear la hO hD l5
 go_upto_region 5 with fail
 change Code.wp _ _ _ _ (w5.alloc (.cells #[.int .u8 0, .int .u16 0, .bool false, .int .u8 9, .int .u8 17, .int .u32 src, .int .u32 y, .slice a7 0 c7, .slice a8 l8 c8] 31))
 generalize w5.alloc (.cells #[.int .u8 0, .int .u16 0, .bool false, .int .u8 9, .int .u8 17, .int .u32 src, .int .u32 y, .slice a7 0 c7, .slice a8 l8 c8] 31) = w6 at *
 have k6 := block_cell X1.out
 have HB2 := hide (tt_bytes 9 src y (a : Int) q (.slice a7 0 c7) (.slice a8 l8 c8) zt z w6 hU hlt O6.out.rd D6.out.rd (by omega) hsr hy)
 go_wp2_with fail
 refine HB2.out.mono ?_
 rintro e w7 ⟨l7, bv, rfl, hO7⟩
 have L37 : Later V1 w7 := LA.out.trans l7
 have l17 : Later w1 w7 := l13.trans L37
 have L7 : Later w w7 := L3.trans L37
 have F0 := hide (later_keep L37 E0.out)
 have F1 := hide (later_keep L37 E1.out)
 have H7 := hide (H3.out.later L37)
 have O7 := hide hO7
 have hbs7 : w1.heap.size ≤ w7.heap.size := l17.size
 clear k6 HB2 X1 O6 D6 LA hO7 l7 E0 E1 H3 hbs
 have kq := block_cell F1.out
 by_cases hp5 : a = 5060
 ·have t0 : ((a : Int) == 5060) = true := by rw [hp5]; decide
  have HN := hide (gnow_any w1.heap.size g s w7 H7.out)
  rw [HNW.out] at HN
  go_wp2_with fail
  refine HN.out.mono ?_
  rintro e w8 ⟨rfl, l8⟩
  go_wp2_with fail
  go_ret
  exact ⟨rfl, L7.trans l8⟩
 have t0 : ((a : Int) == 5060) = false := by rw [beq_eq_false_iff_ne]; omega
 by_cases hq5 : q = 5060
 ·have t1 : (q == 5060) = true := by rw [hq5]; decide
  have HN := hide (gnow_any w1.heap.size g s w7 H7.out)
  rw [HNW.out] at HN
  go_wp2_with fail
  refine HN.out.mono ?_
  rintro e w8 ⟨rfl, l8⟩
  go_wp2_with fail
  go_ret
  exact ⟨rfl, L7.trans l8⟩
 have t1 : (q == 5060) = false := by rw [beq_eq_false_iff_ne]; exact hq5
 have hF := dg_facts hU hlt (show (0 : Int) ≤ 9 ∧ (9 : Int) ≤ 255 by omega) hsr hy
 have HP := hide (packet_yes w1.heap.size g w6.heap.size s 1000 1063 1 bv (dgB 9 src y z) a q mqR w7 H7.out HGK.out hbs7 hF.by_ O7.out (by have := hF.len; omega) hF.rd hF.i9 (by rw [hF.i8]; decide)
  (by rw [hF.src, hF.dst, HLS.out]; exact ⟨⟨by simp, fun r hr => by have e := List.mem_singleton.1 hr; rw [e]; exact ⟨mq_wf, by decide +kernel⟩⟩, mq_fd src hs10, hsr, hy, by omega, hq, by decide, by decide, by decide, by decide, t1, t0, by intro h; have h2 : mqR.tt = 16909060 := rfl; omega⟩)
  (by rw [hF.src, hF.dst, hF.zd]; exact hU.2.2.1) (by rw [hF.zd]; exact hU.2.2.2.1) (by rw [hF.zd]; exact hU.2.2.2.2.1) (by rw [hF.zo]; decide) (by rw [hF.zo]; decide) (by rw [hF.zo, hF.zd]; have := hU.2.1; simp; omega)
  (fun W k => HT.out W (Below.trans L7 ((k.below hbs7).mono l0.size))) (by have := HZP.out; have := L7.size; omega))
 go_upto_region 8 with fail
 clear kq
 go_wp2_with fail
 refine HP.out.mono ?_
 rintro e w8 ⟨s2, f, pb, ov, hls2, hgk2, hfb, rfl, k8, hbn, hG8, hO8⟩
 rw [hF.src, hF.dst] at hbn
 have hnow2 := hgk2.2.2.1
 have hne : ¬ tuA f.o f.r := by
  rw [hbn.2.1, hbn.2.2.1]
  rintro ⟨_, h2, h3, _⟩
  have h2' : src = y := h2
  have h3' : y = 16909060 := h3
  omega
 obtain ⟨b1, b2, b3, b4, b5, b6⟩ := bg_facts pb hbn hne hnow2
 obtain ⟨n, hn⟩ : ∃ n, n = tkn 1000 1063 a := ⟨_, rfl⟩
 have hnr : 1000 ≤ n ∧ n ≤ 1063 := by rw [hn]; exact tkn_rng (by decide)
 have hU2 : UG 16909060 y (n : Int) q zt (rwD 17 16909060 y (n : Int) q z) := ug_rewritten hU (by omega) hy (by omega) hq
 have hob : Ow w7.heap.size w8 ov (dgB 8 16909060 y (rwD 17 16909060 y (n : Int) q z)) := by
  rw [psB_dg hF, ← hn] at hO8
  exact hO8
 have hfo : f.o = ⟨17, src, y, (a : Int), q⟩ := hbn.2.1
 have hfr : f.r = ⟨17, y, 16909060, q, (n : Int)⟩ := by rw [hbn.2.2.1, hn]; rfl
 have HFL := hide (show f.id = 0 ∧ f.side = 0 ∧ f.hp = noh from ⟨hbn.1, hbn.2.2.2.1, hbn.2.2.2.2.2⟩)
 have HBG := hide (show _ ∧ _ ∧ _ ∧ _ ∧ _ from ⟨b1, b2, b3, b4, b5⟩)
 have HNE := hide hne
 have HNO := hide hnow2
 have HFO := hide hfo
 have HFR := hide hfr
 have HU2 := hide hU2
 have HNR := hide hnr
 have G8 := hide hG8
 have O8 := hide hob
 obtain ⟨ova, ovc, oeq, _, _⟩ := hob.slice
 obtain ⟨oln, rfl⟩ : ∃ oln, ov = .slice ova oln ovc := ⟨_, oeq⟩
 have la := later_allocG w8 (.cells #[.int .i64 0, .int .i64 1, .slice ova oln ovc] 43)
 have X9 := hide (heap_alloc_new w8 (.cells #[.int .i64 0, .int .i64 1, .slice ova oln ovc] 43))
 have LA := hide la
 have K8 := hide k8
 clear hn oeq hob hfo hfr hnr hG8 hbn hne hnow2 b1 b2 b3 b4 b5 b6 hO8 hU2 HP k8 la hF hls2
 go_upto_region 9 with fail
 change Code.wp _ _ _ _ (w8.alloc (.cells #[.int .i64 0, .int .i64 1, .slice ova oln ovc] 43))
 generalize w8.alloc (.cells #[.int .i64 0, .int .i64 1, .slice ova oln ovc] 43) = w9 at *
 have k89 : KG w1.heap.size w7 w9 := K8.out.trans (KG.of_later LA.out)
 have B9 : Below w.heap.size w w9 := Below.trans L7 ((k89.below hbs7).mono l0.size)
 have M0 := hide (k89.cells F0.out (by decide))
 have M1 := hide (k89.cells F1.out (by decide))
 have G9 := hide (G8.out.later LA.out)
 have O9 := hide (O8.out.later LA.out)
 have hbs9 : w1.heap.size ≤ w9.heap.size := Nat.le_trans hbs7 k89.size
 clear F0 F1 K8 G8 O8 LA k89 H7 O7
 have k9 := block_cell X9.out
 have hP := tt_parse 8 16909060 y (n : Int) q (.slice ova oln ovc) zt _ w9 HU2.out hlt O9.out.rd (by omega) (by omega) hy
 have HP := hide hP
 clear hP
 go_wp2_with fail
 refine HP.out.mono ?_
 rintro e w10 ⟨l10, b7, d7, b8, m8, d8, rfl, hO, hD⟩
 clear k9 HP
 have la := later_allocG w10 (.cells #[.int .u8 0, .int .u16 0, .bool false, .int .u8 8, .int .u8 17, .int .u32 16909060, .int .u32 y, .slice b7 0 d7, .slice b8 m8 d8] 31)
 have X11 := hide (heap_alloc_new w10 (.cells #[.int .u8 0, .int .u16 0, .bool false, .int .u8 8, .int .u8 17, .int .u32 16909060, .int .u32 y, .slice b7 0 d7, .slice b8 m8 d8] 31))
 have D11 := hide (hD.later la)
 have LA := hide (l10.trans la)
 clear la hO hD l10
 go_upto_region 10 with fail
 change Code.wp _ _ _ _ (w10.alloc (.cells #[.int .u8 0, .int .u16 0, .bool false, .int .u8 8, .int .u8 17, .int .u32 16909060, .int .u32 y, .slice b7 0 d7, .slice b8 m8 d8] 31))
 generalize w10.alloc (.cells #[.int .u8 0, .int .u16 0, .bool false, .int .u8 8, .int .u8 17, .int .u32 16909060, .int .u32 y, .slice b7 0 d7, .slice b8 m8 d8] 31) = w11 at *
 have k11 := block_cell X11.out
 have B11 : Below w.heap.size w w11 := Below.trans B9 (LA.out.mono B9.size)
 have HP := hide (tt_of 8 16909060 y (n : Int) q (.slice b7 0 d7) (.slice b8 m8 d8) zt _ w11 (HT.out w11 B11).1 HU2.out hlt D11.out.rd (by omega) hy)
 go_wp2_with fail
 refine HP.out.mono ?_
 rintro e w12 ⟨l12, rfl⟩
 clear k11 HP
 have la := later_allocG w12 (.cells #[.int .u8 17, .int .u32 16909060, .int .u32 y, .int .u16 (n : Int), .int .u16 q] 47)
 have X13 := hide (heap_alloc_new w12 (.cells #[.int .u8 17, .int .u32 16909060, .int .u32 y, .int .u16 (n : Int), .int .u16 q] 47))
 have L913 : Later w9 (w12.alloc (.cells #[.int .u8 17, .int .u32 16909060, .int .u32 y, .int .u16 (n : Int), .int .u16 q] 47)) := Later.trans LA.out (Later.trans l12 la)
 clear la l12
 go_upto_region 11 with fail
 change Code.wp _ _ _ _ (w12.alloc (.cells #[.int .u8 17, .int .u32 16909060, .int .u32 y, .int .u16 (n : Int), .int .u16 q] 47))
 generalize w12.alloc (.cells #[.int .u8 17, .int .u32 16909060, .int .u32 y, .int .u16 (n : Int), .int .u16 q] 47) = w13 at *
 have N0 := hide (later_keep L913 M0.out)
 have N1 := hide (later_keep L913 M1.out)
 have N9 := hide (later_keep L913 X9.out)
 have G13 := hide (G9.out.later L913)
 have B13 : Below w.heap.size w w13 := Below.trans B9 (L913.mono B9.size)
 have hbs13 : w1.heap.size ≤ w13.heap.size := Nat.le_trans hbs9 L913.size
 clear M0 M1 X9 G9 O9 D11 X11 LA B11 L913
 have kq := block_cell N1.out
 have ko := block_cell N9.out
 have kt := block_cell X13.out
 have hn1 : ¬ (n : Int) < 1000 := by have := HNR.out; omega
 have hn2 : ¬ (1063 : Int) < (n : Int) := by have := HNR.out; omega
 go_upto_region 13 with fail
 go_upto_region 15 with fail
 clear ko hn1 hn2
 have HB1 := hide (tt_build 9 y 16909060 q (n : Int) false _ zt w13 (by omega) hy (by omega) hq (by have := HNR.out; omega) hBt ((HVW.out.below B13).mono B13.size) hlt)
 go_wp2_with fail
 refine HB1.out.mono ?_
 rintro e w14 ⟨l14, e7, f7, e8, n8, f8, z3, rfl, hU3, hO, hD⟩
 clear kq kt HB1
 have la := later_allocG w14 (.cells #[.int .u8 0, .int .u16 0, .bool false, .int .u8 9, .int .u8 17, .int .u32 y, .int .u32 16909060, .slice e7 0 f7, .slice e8 n8 f8] 31)
 have X15 := hide (heap_alloc_new w14 (.cells #[.int .u8 0, .int .u16 0, .bool false, .int .u8 9, .int .u8 17, .int .u32 y, .int .u32 16909060, .slice e7 0 f7, .slice e8 n8 f8] 31))
 have O15 := hide (hO.later la)
 have D15 := hide (hD.later la)
 have LA := hide (l14.trans la)
 clear la hO hD l14
 go_upto_region 16 with fail
 change Code.wp _ _ _ _ (w14.alloc (.cells #[.int .u8 0, .int .u16 0, .bool false, .int .u8 9, .int .u8 17, .int .u32 y, .int .u32 16909060, .slice e7 0 f7, .slice e8 n8 f8] 31))
 generalize w14.alloc (.cells #[.int .u8 0, .int .u16 0, .bool false, .int .u8 9, .int .u8 17, .int .u32 y, .int .u32 16909060, .slice e7 0 f7, .slice e8 n8 f8] 31) = w15 at *
 have k15 := block_cell X15.out
 have HB2 := hide (tt_bytes 9 y 16909060 q (n : Int) (.slice e7 0 f7) (.slice e8 n8 f8) zt z3 w15 hU3 hlt O15.out.rd D15.out.rd (by omega) hy (by omega))
 go_wp2_with fail
 refine HB2.out.mono ?_
 rintro e w16 ⟨l16, cv, rfl, hO16⟩
 have L1316 : Later w13 w16 := Later.trans LA.out l16
 have B16 : Below w.heap.size w w16 := Below.trans B13 (L1316.mono B13.size)
 have R0 := hide (later_keep L1316 N0.out)
 have R1 := hide (later_keep L1316 N1.out)
 have G16 := hide (G13.out.later L1316)
 have O16 := hide hO16
 have hbs16 : w1.heap.size ≤ w16.heap.size := Nat.le_trans hbs13 L1316.size
 have HU3 := hide hU3
 clear k15 HB2 X15 O15 D15 LA hO16 l16 N0 N1 N9 G13 X13 L1316 B13
 have hF3 := dg_facts HU3.out hlt (show (0 : Int) ≤ 9 ∧ (9 : Int) ≤ 255 by omega) hy (show (0 : Int) ≤ 16909060 ∧ (16909060 : Int) ≤ 4294967295 by omega)
 obtain ⟨b1, b2, b3, b4, b5⟩ := HBG.out
 obtain ⟨i1, i2, i3⟩ := HFL.out
 have hno := HNO.out
 have hnr := HNR.out
 have hkr := twR_kr f.o f.r 0 (s2.now + 30) (0 + 1 + 1 + 1) (0 + 1 + 1 + 1 + 1) HNE.out
 rw [HFR.out] at hkr b2
 have hBel : Bel (bgS (gfS 1000 1063 s2) a mqR pb f) (f.at 8 (s2.now + 30)) true 1 y 16909060 q (n : Int) := by
  refine ⟨by rw [b1]; simp, ?_, ?_, ⟨_, _, by rw [b2]; exact hkr.1, by rw [b2]; exact hkr.2, i1.symm⟩, hy, by omega, hq, by omega, ?_, i2, .inl ⟨rfl, rfl⟩, ?_, ?_, ?_, ?_, i3, by rw [b3]; omega, by rw [b4]; exact hno⟩
  ·intro u hu v hv _
   rw [b1] at hu hv
   rw [List.mem_singleton.1 hu, List.mem_singleton.1 hv]
  ·intro u hu _
   rw [b1] at hu
   exact List.mem_singleton.1 hu
  ·refine ⟨fun _ => ?_, fun _ => rfl⟩
   show ¬ ((17 : Int) = f.o.pr ∧ y = f.o.src ∧ 16909060 = f.o.dst ∧ _)
   rw [HFO.out]
   rintro ⟨_, h2, h3, _⟩
   have h2' : y = src := h2
   have h3' : 16909060 = y := h3
   omega
  ·show TuB f.o
   rw [HFO.out]
   exact ⟨hsr, hy, by show 0 ≤ (a : Int) ∧ (a : Int) ≤ 65535; omega, hq⟩
  ·show TuB f.r
   rw [HFR.out]
   exact ⟨hy, by show (0 : Int) ≤ 16909060 ∧ (16909060 : Int) ≤ 4294967295; omega, hq, by show 0 ≤ (n : Int) ∧ (n : Int) ≤ 65535; omega⟩
  ·show f.o.pr = 17
   rw [HFO.out]
  ·show f.r.pr = 17
   rw [HFR.out]
 have HP := hide (packet_back w1.heap.size g w15.heap.size (bgS (gfS 1000 1063 s2) a mqR pb f) (f.at 8 (s2.now + 30)) true 1 2 cv (dgB 9 y 16909060 z3) q (n : Int) w16 G16.out hbs16 hF3.by_ O16.out (by have := hF3.len; omega) hF3.rd hF3.i9 (by rw [hF3.i8]; decide)
  (by rw [hF3.src, hF3.dst]; exact hBel) (by rw [hF3.src, hF3.dst, hF3.zd]; exact HU3.out.2.2.1) (by rw [hF3.zd]; exact HU3.out.2.2.2.1) (by rw [hF3.zd]; exact HU3.out.2.2.2.2.1) (by rw [hF3.zo]; decide) (by rw [hF3.zo]; decide) (by rw [hF3.zo, hF3.zd]; have := HU3.out.2.1; simp; omega)
  b5 (by rw [b2, b4]; intro n' hn'; exact twR_due _ _ _ _ _ _ _ (by omega)) (by rw [b2]; have := twR_all f.o ⟨17, y, 16909060, q, (n : Int)⟩ 0 (s2.now + 30) (0 + 1 + 1 + 1) (0 + 1 + 1 + 1 + 1); omega) (fun W k => (HT.out W (Below.trans B16 ((k.below hbs16).mono l0.size))).1))
 have HF3 := hide hF3
 clear b1 b2 b3 b4 b5 i1 i2 i3 hno hnr hkr hBel hF3
 go_wp2_with fail
 refine HP.out.mono ?_
 rintro e w17 ⟨n2, v2, xv, _, _, _, he, k17, _, hX⟩
 have he' : e = .returned (.agg #[.int .i64 0, .int .i64 0, xv]) := he
 subst he'
 rw [goB_dg HF3.out, show oth (f.at 8 (s2.now + 30)) true = f.o from rfl, HFO.out] at hX
 have hX' : Ow w16.heap.size w17 xv (dgB 8 y src (rwD 17 y src q (a : Int) z3)) := hX
 have HU4 := hide (show UG y src q (a : Int) zt (rwD 17 y src q (a : Int) z3) from ug_rewritten HU3.out hy hsr hq (by omega))
 obtain ⟨xa, xc, xe, _, _⟩ := hX'.slice
 obtain ⟨xl, rfl⟩ : ∃ xl, xv = .slice xa xl xc := ⟨_, xe⟩
 have la := later_allocG w17 (.cells #[.int .i64 0, .int .i64 0, .slice xa xl xc] 43)
 have X18 := hide (heap_alloc_new w17 (.cells #[.int .i64 0, .int .i64 0, .slice xa xl xc] 43))
 have K18 : KG w1.heap.size w16 (w17.alloc (.cells #[.int .i64 0, .int .i64 0, .slice xa xl xc] 43)) := k17.trans (KG.of_later la)
 have O18 := hide (hX'.later la)
 clear la xe hX hX' he HP k17
 go_upto_region 18 with fail
 change Code.wp _ _ _ _ (w17.alloc (.cells #[.int .i64 0, .int .i64 0, .slice xa xl xc] 43))
 generalize w17.alloc (.cells #[.int .i64 0, .int .i64 0, .slice xa xl xc] 43) = w18 at *
 have S0 := hide (K18.cells R0.out (by decide))
 have S1 := hide (K18.cells R1.out (by decide))
 have B18 : Below w.heap.size w w18 := Below.trans B16 ((K18.below hbs16).mono l0.size)
 clear R0 R1 G16 O16 K18 B16
 have k18 := block_cell X18.out
 have hP := tt_parse 8 y src q (a : Int) (.slice xa xl xc) zt _ w18 HU4.out hlt O18.out.rd (by omega) hy hsr
 have HP := hide hP
 clear hP
 go_wp2_with fail
 refine HP.out.mono ?_
 rintro e w19 ⟨l19, g7, h7, g8, o8, h8, rfl, hO, hD⟩
 clear k18 HP
 have la := later_allocG w19 (.cells #[.int .u8 0, .int .u16 0, .bool false, .int .u8 8, .int .u8 17, .int .u32 y, .int .u32 src, .slice g7 0 h7, .slice g8 o8 h8] 31)
 have X20 := hide (heap_alloc_new w19 (.cells #[.int .u8 0, .int .u16 0, .bool false, .int .u8 8, .int .u8 17, .int .u32 y, .int .u32 src, .slice g7 0 h7, .slice g8 o8 h8] 31))
 have D20 := hide (hD.later la)
 have L1820 := hide (l19.trans la)
 clear la hO hD l19
 go_upto_region 19 with fail
 change Code.wp _ _ _ _ (w19.alloc (.cells #[.int .u8 0, .int .u16 0, .bool false, .int .u8 8, .int .u8 17, .int .u32 y, .int .u32 src, .slice g7 0 h7, .slice g8 o8 h8] 31))
 generalize w19.alloc (.cells #[.int .u8 0, .int .u16 0, .bool false, .int .u8 8, .int .u8 17, .int .u32 y, .int .u32 src, .slice g7 0 h7, .slice g8 o8 h8] 31) = w20 at *
 have k20 := block_cell X20.out
 have HP := hide (tt_parseU 8 y src q (a : Int) (.slice g7 0 h7) (.slice g8 o8 h8) zt _ w20 HU4.out hlt D20.out.rd hy hsr)
 go_wp2_with fail
 refine HP.out.mono ?_
 rintro e w21 ⟨l21, k6, dd, dl, dc, rfl, hDD⟩
 clear k20 HP
 have la := later_allocG w21 (.cells #[.int .u16 q, .int .u16 (a : Int), .bool k6, .slice dd dl dc] 36)
 have X22 := hide (heap_alloc_new w21 (.cells #[.int .u16 q, .int .u16 (a : Int), .bool k6, .slice dd dl dc] 36))
 have L2022 := hide (l21.trans la)
 have DD := hide (hDD.later la)
 clear la hDD l21
 go_upto_region 20 with fail
 change Code.wp _ _ _ _ (w21.alloc (.cells #[.int .u16 q, .int .u16 (a : Int), .bool k6, .slice dd dl dc] 36))
 generalize w21.alloc (.cells #[.int .u16 q, .int .u16 (a : Int), .bool k6, .slice dd dl dc] 36) = w22 at *
 have L22 : Later w18 w22 := Later.trans L1820.out L2022.out
 have B22 : Below w.heap.size w w22 := Below.trans B18 (L22.mono B18.size)
 have kq := block_cell (later_keep L22 S1.out)
 have ko := block_cell (later_keep L22 X18.out)
 have kp := block_cell (later_keep L2022.out X20.out)
 have kd := block_cell X22.out
 have hc1 : (convert 26 9 (.slice dd dl dc)).run Tryz.prog w22 = .ok (.string (strOfNums zt)) w22 := conv_rd 26 9 5 Tryz.underlying26 Tryz.underlying5 Tryz.underlying9 DD.out.rd
 have hc2 : (convert 26 9 (.slice va zt.length vc)).run Tryz.prog w22 = .ok (.string (strOfNums zt)) w22 := conv_rd 26 9 5 Tryz.underlying26 Tryz.underlying5 Tryz.underlying9 (HVW.out.below B22)
 go_wp2_with fail
 go_ret
 exact ⟨rfl, B22⟩
end Go.Proofs.YtajcfhcdincngaaGreatDoor
