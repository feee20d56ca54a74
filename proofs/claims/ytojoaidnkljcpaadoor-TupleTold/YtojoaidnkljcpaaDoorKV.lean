/- What is built of ports tells these: the walk of TupleTold. -/
import Derived.Test.YtojoaidnkljcpaaDoorX1
import Derived.Test.YtojoaidnkljcpaaDoorX5
namespace Go.Proofs.YtojoaidnkljcpaaDoor
open Go.RowKit Go.Shelf
set_option maxRecDepth 100000
set_option linter.unusedVariables false
set_option linter.unusedSimpArgs false

theorem ok_nil : obOk ([] : List Opt) := by decide

theorem bt_tcp (tos id ttl proto src dst a b : Int) (keep : Bool) (so : Value) (ad : Option Addr) (ld cd : Nat) (zo : List Int) (w : World) (hIo : Rd w.heap.size w so zo) (h40 : zo.length ≤ 40) (h4 : zo.length % 4 = 0) (hsr : 0 ≤ src ∧ src ≤ 4294967295) (hds : 0 ≤ dst ∧ dst ≤ 4294967295) (ha : 0 ≤ a ∧ a ≤ 65535) (hb : 0 ≤ b ∧ b ≤ 65535) :
    Calls Tryd.prog 20 #[.agg #[.int .u8 tos, .int .u16 id, .bool keep, .int .u8 ttl, .int .u8 proto, .int .u32 src, .int .u32 dst, so, .slice ad ld cd], .agg #[.int .u16 a, .int .u16 b, .int .u32 0, .int .u32 0, .int .u8 0, .int .u16 0, .int .u16 0, .slice none 0 0, .slice none 0 0]] w fun e w' => Below w.heap.size w w' ∧ ∃ a7 l7 c7 a8 l8 c8 z, e = .returned (.tuple #[.agg #[.int .u8 tos, .int .u16 id, .bool keep, .int .u8 ttl, .int .u8 6, .int .u32 src, .int .u32 dst, .slice a7 l7 c7, .slice a8 l8 c8], .int .i64 0]) ∧ Mt.By z ∧ Ow w.heap.size w' (.slice a8 l8 c8) z ∧ z.length ≤ 100 ∧ ofe 6 src dst z = 0 ∧ ofa 6 z = a ∧ ofb 6 z = b := by
  refine (rbuildTcp_any tos id ttl proto src dst a b 0 0 0 0 0 keep so _ _ ad ld cd zo [] [] w hIo Mt.By.nil (rd_zero w) (fun o h => by simp at h) (.inl ⟨none, 0, rfl, rfl, by omega, fun _ => rfl⟩) (by omega) (by simp) hsr hds ha hb (by omega) (by omega) (by omega) (by omega) (by omega)).mono ?_
  have hok : obOk ([] : List Opt) := ok_nil
  have hpd : (pad (obs ([] : List Opt))) = [] := by decide
  have HZ : bte ([] : List Opt) zo.length ([] : List Int).length = 0 := by unfold bte; rw [if_pos hok, hpd]; unfold flt; rw [if_neg (by omega), if_neg (by simp; omega)]
  rintro e w' ⟨hb1, ⟨hx, _⟩ | ⟨_, a7, c7, a8, c8, rfl, _, hD⟩⟩
  · exact absurd HZ hx
  · have hB0 : Mt.By (tcp0 a b 0 0 0 0 0 (pad (obs ([] : List Opt))) []) := by rw [hpd]; exact By_tcp0 a b 0 0 0 0 0 [] [] ha hb (by omega) (by omega) (by omega) (by omega) (by omega) (by simp) Mt.By.nil Mt.By.nil
    refine ⟨hb1, _, _, _, _, _, _, _, rfl, By_tcp _ _ _ _ _ _ _ _ _ _ _ hB0, hD, ?_, (tcp_pte a b 0 0 0 0 0 [] src dst [] hok hsr hds hB0).1, tcp_w0 _ _ _ _ _ _ _ _ _ _ _, tcp_w2 _ _ _ _ _ _ _ _ _ _ _⟩
    have := tcp_split a b 0 0 0 0 0 (pad (obs ([] : List Opt))) src dst []
    rw [this, List.length_append, hd20_length, hpd]
    simp

theorem bt_udp (tos id ttl proto src dst a b : Int) (keep : Bool) (so : Value) (ad : Option Addr) (ld cd : Nat) (zo : List Int) (w : World) (hIo : Rd w.heap.size w so zo) (h40 : zo.length ≤ 40) (h4 : zo.length % 4 = 0) (hsr : 0 ≤ src ∧ src ≤ 4294967295) (hds : 0 ≤ dst ∧ dst ≤ 4294967295) (ha : 0 ≤ a ∧ a ≤ 65535) (hb : 0 ≤ b ∧ b ≤ 65535) :
    Calls Tryd.prog 21 #[.agg #[.int .u8 tos, .int .u16 id, .bool keep, .int .u8 ttl, .int .u8 proto, .int .u32 src, .int .u32 dst, so, .slice ad ld cd], .agg #[.int .u16 a, .int .u16 b, .bool false, .slice none 0 0]] w fun e w' => Below w.heap.size w w' ∧ ∃ a7 l7 c7 a8 l8 c8 z, e = .returned (.tuple #[.agg #[.int .u8 tos, .int .u16 id, .bool keep, .int .u8 ttl, .int .u8 17, .int .u32 src, .int .u32 dst, .slice a7 l7 c7, .slice a8 l8 c8], .int .i64 0]) ∧ Mt.By z ∧ Ow w.heap.size w' (.slice a8 l8 c8) z ∧ z.length ≤ 100 ∧ ofe 17 src dst z = 0 ∧ ofa 17 z = a ∧ ofb 17 z = b := by
  refine (rbuildUdp_any tos id ttl proto src dst a b keep false so _ ad ld cd zo [] w hIo Mt.By.nil (rd_zero w) (by omega) (by simp) hsr hds ha hb).mono ?_
  have HZ : flt zo.length (8 + ([] : List Int).length) = 0 := by unfold flt; rw [if_neg (by omega), if_neg (by simp; omega)]
  rintro e w' ⟨hb1, ⟨hx, _⟩ | ⟨_, a7, c7, a8, c8, rfl, _, hD⟩⟩
  · exact absurd HZ hx
  · have hB0 : Mt.By (udp0 a b []) := By_udp0 a b [] ha hb Mt.By.nil
    refine ⟨hb1, _, _, _, _, _, _, _, rfl, By_udp a b false src dst [] ha hb Mt.By.nil, hD, ?_, ?_, udp_w0 _ _ _ _ _ _, udp_w2 _ _ _ _ _ _⟩
    · have h8 := hD.slice
      obtain ⟨_, _, e, _⟩ := h8
      simp at e
      omega
    · rw [show ofe 17 src dst (udp a b false src dst []) = pue 17 src dst (udp a b false src dst []) from rfl, udp_pue _ _ _ _ _ _ 17 rfl src dst (by simp), if_neg]
      intro h
      exact h.2 (udp_good a b src dst [] hsr hds hB0)

theorem bt_icmp (tos id ttl proto src dst a b : Int) (keep : Bool) (so : Value) (ad : Option Addr) (ld cd : Nat) (zo : List Int) (w : World) (hIo : Rd w.heap.size w so zo) (h40 : zo.length ≤ 40) (h4 : zo.length % 4 = 0) (hsr : 0 ≤ src ∧ src ≤ 4294967295) (hds : 0 ≤ dst ∧ dst ≤ 4294967295) (ha : 0 ≤ a ∧ a ≤ 65535) (hb : 0 ≤ b ∧ b ≤ 65535) :
    Calls Tryd.prog 22 #[.agg #[.int .u8 tos, .int .u16 id, .bool keep, .int .u8 ttl, .int .u8 proto, .int .u32 src, .int .u32 dst, so, .slice ad ld cd], .agg #[.int .u8 8, .int .u8 0, .int .u32 (a * 65536), .slice none 0 0]] w fun e w' => Below w.heap.size w w' ∧ ∃ a7 l7 c7 a8 l8 c8 z, e = .returned (.tuple #[.agg #[.int .u8 tos, .int .u16 id, .bool keep, .int .u8 ttl, .int .u8 1, .int .u32 src, .int .u32 dst, .slice a7 l7 c7, .slice a8 l8 c8], .int .i64 0]) ∧ Mt.By z ∧ Ow w.heap.size w' (.slice a8 l8 c8) z ∧ z.length ≤ 100 ∧ ofe 1 src dst z = 0 ∧ ofa 1 z = a ∧ ofb 1 z = a := by
  refine (rbuildIcmp_any tos id ttl proto src dst 8 0 (a * 65536) keep so _ ad ld cd zo [] w hIo Mt.By.nil (rd_zero w) (by omega) (by simp) (by omega) (by omega) (by omega)).mono ?_
  have HZ : flt zo.length (8 + ([] : List Int).length) = 0 := by unfold flt; rw [if_neg (by omega), if_neg (by simp; omega)]
  rintro e w' ⟨hb1, ⟨hx, _⟩ | ⟨_, a7, c7, a8, c8, rfl, _, hD⟩⟩
  · exact absurd HZ hx
  · have hp := icm_pie 8 0 (a * 65536) [] (by omega) (by omega) (by omega) Mt.By.nil
    have hw : wat (icm 8 0 (a * 65536) []) 4 = a := by simp [icm, Mt.put2, icm0, wat]; omega
    refine ⟨hb1, _, _, _, _, _, _, _, rfl, By_icm 8 0 (a * 65536) [] (by omega) (by omega) (by omega) Mt.By.nil, hD, ?_, ?_, hw, hw⟩
    · have h8 := hD.slice
      obtain ⟨_, _, e, _⟩ := h8
      simp at e
      omega
    · rw [show ofe 1 src dst (icm 8 0 (a * 65536) []) = oie (icm 8 0 (a * 65536) []) from rfl]
      unfold oie
      rw [if_neg (fun h => h hp), if_pos]
      rw [icm_0, icm_1]
      rfl

theorem bt_gre (tos id ttl proto src dst a b : Int) (keep : Bool) (so : Value) (ad : Option Addr) (ld cd : Nat) (zo : List Int) (w : World) (hIo : Rd w.heap.size w so zo) (h40 : zo.length ≤ 40) (h4 : zo.length % 4 = 0) (hsr : 0 ≤ src ∧ src ≤ 4294967295) (hds : 0 ≤ dst ∧ dst ≤ 4294967295) (ha : 0 ≤ a ∧ a ≤ 65535) (hb : 0 ≤ b ∧ b ≤ 65535) :
    Calls Tryd.prog 23 #[.agg #[.int .u8 tos, .int .u16 id, .bool keep, .int .u8 ttl, .int .u8 proto, .int .u32 src, .int .u32 dst, so, .slice ad ld cd], .agg #[.int .u16 b, .bool false, .bool false, .int .u32 0, .int .u32 0, .slice none 0 0]] w fun e w' => Below w.heap.size w w' ∧ ∃ a7 l7 c7 a8 l8 c8 z, e = .returned (.tuple #[.agg #[.int .u8 tos, .int .u16 id, .bool keep, .int .u8 ttl, .int .u8 47, .int .u32 src, .int .u32 dst, .slice a7 l7 c7, .slice a8 l8 c8], .int .i64 0]) ∧ Mt.By z ∧ Ow w.heap.size w' (.slice a8 l8 c8) z ∧ z.length ≤ 100 ∧ ofe 47 src dst z = 0 ∧ ofa 47 z = 0 ∧ ofb 47 z = b := by
  refine (rbuildGre_any tos id ttl proto src dst b 0 0 keep false false so _ ad ld cd zo [] w hIo Mt.By.nil (rd_zero w) (by omega) (by simp) hb (by omega) (by omega) rfl).mono ?_
  have HZ : flt zo.length (grn false false ([] : List Int).length) = 0 := by unfold flt; rw [if_neg (by omega), if_neg (by simp [grn]; omega)]
  rintro e w' ⟨hb1, ⟨hx, _⟩ | ⟨_, a7, c7, a8, c8, rfl, _, hD⟩⟩
  · exact absurd HZ hx
  · have hp := grb_pge b false false 0 0 [] (by simp)
    have hc := (grb_parts b false false 0 0 [] hb.1 (by omega) (by omega) rfl hp).1
    refine ⟨hb1, _, _, _, _, _, _, _, rfl, By_grb b false false 0 0 [] hb (by omega) (by omega) Mt.By.nil, hD, ?_, hp, rfl, ?_⟩
    · have h8 := hD.slice
      obtain ⟨_, _, e, _⟩ := h8
      simp [grn] at e
      omega
    · unfold gcl at hc
      rw [if_pos hp] at hc
      exact hc

set_option maxHeartbeats 16000000 in
theorem walk_TupleTold (w : World) (hT : Tb w) (tos id ttl proto src dst : Int) (keep : Bool) (so sd : Value) (zo zd : List Int) (hBo : Mt.By zo) (hBd : Mt.By zd) (hIo : Rd w.heap.size w so zo) (hId : Rd w.heap.size w sd zd) (hlo : zo.length ≤ 140737488355328) (hld : zd.length ≤ 140737488355328)
    (ht : 0 ≤ tos ∧ tos ≤ 255) (hid : 0 ≤ id ∧ id ≤ 65535) (htt : 0 ≤ ttl ∧ ttl ≤ 255) (hpr : 0 ≤ proto ∧ proto ≤ 255) (hsr : 0 ≤ src ∧ src ≤ 4294967295) (hds : 0 ≤ dst ∧ dst ≤ 4294967295) (a : Int) (ha : 0 ≤ a ∧ a ≤ 65535) (b : Int) (hb : 0 ≤ b ∧ b ≤ 65535) :
    Calls Tryd.prog 7 #[.agg #[.int .u8 tos, .int .u16 id, .bool keep, .int .u8 ttl, .int .u8 proto, .int .u32 src, .int .u32 dst, so, sd], .int .u16 a, .int .u16 b] w fun e w' => e = .returned (.bool true) ∧ Below w.heap.size w w' := by
  obtain ⟨ao, co, rfl, hoc, hoc2⟩ := hIo.slice
  obtain ⟨ad, cd, rfl, _, _⟩ := hId.slice
  have hwW0 : Below w.heap.size w (w.alloc (.cells #[.int .u8 tos, .int .u16 id, .bool keep, .int .u8 ttl, .int .u8 proto, .int .u32 src, .int .u32 dst, .slice ao zo.length co, .slice ad zd.length cd] 26)) := (Below.refl _ _).alloc (Nat.le_refl _) _
  have pW0 := heap_alloc_new w (.cells #[.int .u8 tos, .int .u16 id, .bool keep, .int .u8 ttl, .int .u8 proto, .int .u32 src, .int .u32 dst, .slice ao zo.length co, .slice ad zd.length cd] 26)
  have hlo' : (zo.length : Int) ≤ 9223372036854775807 := by omega
  by_cases h40 : zo.length ≤ 40
  · by_cases h4 : zo.length % 4 = 0
    · have t40 : ¬ (40 : Int) < zo.length := by omega
      have t4 : ((zo.length : Int).tmod 4 != 0) = false := by rw [Int.tmod_eq_emod_of_nonneg (by omega)]; simp; omega
      have t4' : ((zo.length : Int) % 4 != 0) = false := by simp; omega
      have HP := hide pW0
      clear pW0
      go_enter Tryd.func7, Tryd.ntmps7
      go_wp2_with fail
      clear t40 t4 t4'
      have pW0 := HP.out
      clear HP
      generalize w.alloc (.cells #[.int .u8 tos, .int .u16 id, .bool keep, .int .u8 ttl, .int .u8 proto, .int .u32 src, .int .u32 dst, .slice ao zo.length co, .slice ad zd.length cd] 26) = W0 at *
      refine (bt_tcp tos id ttl proto src dst a b keep _ ad zd.length cd zo W0 ((hIo.below hwW0).mono hwW0.size) h40 h4 hsr hds ha hb).mono ?_
      rintro e u1 ⟨hbu1, a71, l71, c71, a81, l81, c81, z1, rfl, hBz1, hDz1, hlz1, he1, hx1, hy1⟩
      have lu1 : Later W0 u1 := hbu1
      have la1 : Later u1 (u1.alloc (.cells #[.int .u8 tos, .int .u16 id, .bool keep, .int .u8 ttl, .int .u8 6, .int .u32 src, .int .u32 dst, .slice a71 l71 c71, .slice a81 l81 c81] 26)) := (Below.refl _ _).alloc (Nat.le_refl _) _
      have L1 := lu1.trans la1
      have q1 := heap_alloc_new u1 (.cells #[.int .u8 tos, .int .u16 id, .bool keep, .int .u8 ttl, .int .u8 6, .int .u32 src, .int .u32 dst, .slice a71 l71 c71, .slice a81 l81 c81] 26)
      have hwN := hwW0.trans (L1.mono hwW0.size)
      have pN := later_keep L1 pW0
      have hDN := hDz1.ck (CK.of la1)
      have Q1 := hide q1
      have HE1 := hide he1
      have HX1 := hide hx1
      have HY1 := hide hy1
      clear q1 he1 hx1 hy1
      have kp := block_cell pN
      go_wp2_with fail
      generalize u1.alloc (.cells #[.int .u8 tos, .int .u16 id, .bool keep, .int .u8 ttl, .int .u8 6, .int .u32 src, .int .u32 dst, .slice a71 l71 c71, .slice a81 l81 c81] 26) = U1 at *
      generalize u1.heap.size = g1 at *
      have hwU1 := hwN
      have pU1 := pN
      have hDU1 := hDN
      clear kp hwN pN hDN hDz1
      refine (bt_udp tos id ttl proto src dst a b keep _ ad zd.length cd zo U1 ((hIo.below hwU1).mono hwU1.size) h40 h4 hsr hds ha hb).mono ?_
      rintro e u2 ⟨hbu2, a72, l72, c72, a82, l82, c82, z2, rfl, hBz2, hDz2, hlz2, he2, hx2, hy2⟩
      have lu2 : Later U1 u2 := hbu2
      have la2 : Later u2 (u2.alloc (.cells #[.int .u8 tos, .int .u16 id, .bool keep, .int .u8 ttl, .int .u8 17, .int .u32 src, .int .u32 dst, .slice a72 l72 c72, .slice a82 l82 c82] 26)) := (Below.refl _ _).alloc (Nat.le_refl _) _
      have L2 := lu2.trans la2
      have q2 := heap_alloc_new u2 (.cells #[.int .u8 tos, .int .u16 id, .bool keep, .int .u8 ttl, .int .u8 17, .int .u32 src, .int .u32 dst, .slice a72 l72 c72, .slice a82 l82 c82] 26)
      have hwN := hwU1.trans (L2.mono hwU1.size)
      have pN := later_keep L2 pU1
      have hDN := hDz2.ck (CK.of la2)
      have Q2 := hide q2
      have HE2 := hide he2
      have HX2 := hide hx2
      have HY2 := hide hy2
      clear q2 he2 hx2 hy2
      have kp := block_cell pN
      go_wp2_with fail
      generalize u2.alloc (.cells #[.int .u8 tos, .int .u16 id, .bool keep, .int .u8 ttl, .int .u8 17, .int .u32 src, .int .u32 dst, .slice a72 l72 c72, .slice a82 l82 c82] 26) = U2 at *
      generalize u2.heap.size = g2 at *
      have hwU2 := hwN
      have pU2 := pN
      have hDU2 := hDN
      clear kp hwN pN hDN hDz2
      refine (bt_icmp tos id ttl proto src dst a b keep _ ad zd.length cd zo U2 ((hIo.below hwU2).mono hwU2.size) h40 h4 hsr hds ha hb).mono ?_
      rintro e u3 ⟨hbu3, a73, l73, c73, a83, l83, c83, z3, rfl, hBz3, hDz3, hlz3, he3, hx3, hy3⟩
      have lu3 : Later U2 u3 := hbu3
      have la3 : Later u3 (u3.alloc (.cells #[.int .u8 tos, .int .u16 id, .bool keep, .int .u8 ttl, .int .u8 1, .int .u32 src, .int .u32 dst, .slice a73 l73 c73, .slice a83 l83 c83] 26)) := (Below.refl _ _).alloc (Nat.le_refl _) _
      have L3 := lu3.trans la3
      have q3 := heap_alloc_new u3 (.cells #[.int .u8 tos, .int .u16 id, .bool keep, .int .u8 ttl, .int .u8 1, .int .u32 src, .int .u32 dst, .slice a73 l73 c73, .slice a83 l83 c83] 26)
      have hwN := hwU2.trans (L3.mono hwU2.size)
      have pN := later_keep L3 pU2
      have hDN := hDz3.ck (CK.of la3)
      have Q3 := hide q3
      have HE3 := hide he3
      have HX3 := hide hx3
      have HY3 := hide hy3
      clear q3 he3 hx3 hy3
      have kp := block_cell pN
      go_wp2_with fail
      generalize u3.alloc (.cells #[.int .u8 tos, .int .u16 id, .bool keep, .int .u8 ttl, .int .u8 1, .int .u32 src, .int .u32 dst, .slice a73 l73 c73, .slice a83 l83 c83] 26) = U3 at *
      generalize u3.heap.size = g3 at *
      have hwU3 := hwN
      have pU3 := pN
      have hDU3 := hDN
      clear kp hwN pN hDN hDz3
      refine (bt_gre tos id ttl proto src dst a b keep _ ad zd.length cd zo U3 ((hIo.below hwU3).mono hwU3.size) h40 h4 hsr hds ha hb).mono ?_
      rintro e u4 ⟨hbu4, a74, l74, c74, a84, l84, c84, z4, rfl, hBz4, hDz4, hlz4, he4, hx4, hy4⟩
      have lu4 : Later U3 u4 := hbu4
      have la4 : Later u4 (u4.alloc (.cells #[.int .u8 tos, .int .u16 id, .bool keep, .int .u8 ttl, .int .u8 47, .int .u32 src, .int .u32 dst, .slice a74 l74 c74, .slice a84 l84 c84] 26)) := (Below.refl _ _).alloc (Nat.le_refl _) _
      have L4 := lu4.trans la4
      have q4 := heap_alloc_new u4 (.cells #[.int .u8 tos, .int .u16 id, .bool keep, .int .u8 ttl, .int .u8 47, .int .u32 src, .int .u32 dst, .slice a74 l74 c74, .slice a84 l84 c84] 26)
      have hwN := hwU3.trans (L4.mono hwU3.size)
      have pN := later_keep L4 pU3
      have hDN := hDz4.ck (CK.of la4)
      have Q4 := hide q4
      have HE4 := hide he4
      have HX4 := hide hx4
      have HY4 := hide hy4
      clear q4 he4 hx4 hy4
      have kp := block_cell pN
      go_upto_region 7 with fail
      generalize u4.alloc (.cells #[.int .u8 tos, .int .u16 id, .bool keep, .int .u8 ttl, .int .u8 47, .int .u32 src, .int .u32 dst, .slice a74 l74 c74, .slice a84 l84 c84] 26) = U4 at *
      generalize u4.heap.size = g4 at *
      have hwU4 := hwN
      have pU4 := pN
      have hDU4 := hDN
      clear kp hwN pN hDN hDz4
      have L12 : Later U1 U2 := L2
      have LA2 := L3.trans L4
      have LA1 := L2.trans LA2
      have lt : Later U4 (U4.alloc (.cells #[.int .u8 0, .int .u32 src, .int .u32 dst, .int .u16 0, .int .u16 0] 28)) := (Below.refl _ _).alloc (Nat.le_refl _) _
      have tq := heap_alloc_new U4 (.cells #[.int .u8 0, .int .u32 src, .int .u32 dst, .int .u16 0, .int .u16 0] 28)
      have x1 := later_keep (LA1.trans lt) Q1.out
      have x2 := later_keep (LA2.trans lt) Q2.out
      have x3 := later_keep (L4.trans lt) Q3.out
      have x4 := later_keep lt Q4.out
      have D1 := hDU1.ck (CK.of (LA1.trans lt))
      have D2 := hDU2.ck (CK.of (LA2.trans lt))
      have D3 := hDU3.ck (CK.of (L4.trans lt))
      have D4 := hDU4.ck (CK.of lt)
      have hw5 := hwU4.trans (lt.mono hwU4.size)
      have X1 := hide x1
      have X2 := hide x2
      have X3 := hide x3
      have X4 := hide x4
      have TQ := hide tq
      have kp := block_cell pU4
      have k1 := block_cell x1
      clear x1 x2 x3 x4 tq hDU1 hDU2 hDU3 hDU4
      go_wp2_with fail
      clear kp k1
      have hgw : w.heap.size ≤ U4.heap.size := hwU4.size
      generalize U4.alloc (.cells #[.int .u8 0, .int .u32 src, .int .u32 dst, .int .u16 0, .int .u16 0] 28) = W5 at *
      generalize U4.heap.size = gt at *
      have ht5 : gt < W5.heap.size := (Array.getElem?_eq_some_iff.1 TQ.out).1
      refine (of_any tos id ttl 6 src dst keep _ _ z1 W5 (hT.below hw5 hT.pos) hBz1 D1.rd (by omega) hsr hds).mono ?_
      rw [HE1.out, HX1.out, HY1.out, otv_ok]
      rintro e v1 ⟨hbv1, rfl⟩
      have lv1 : Later W5 v1 := hbv1
      have lw1 : Later v1 (v1.alloc (.cells #[.int .u8 6, .int .u32 src, .int .u32 dst, .int .u16 a, .int .u16 b] 28)) := (Below.refl _ _).alloc (Nat.le_refl _) _
      have M1 := lv1.trans lw1
      have R1 := hide (heap_alloc_new v1 (.cells #[.int .u8 6, .int .u32 src, .int .u32 dst, .int .u16 a, .int .u16 b] 28))
      have hw6 := hw5.trans (M1.mono hw5.size)
      have hg1 : gt < v1.heap.size := Nat.lt_of_lt_of_le ht5 lv1.size
      have ht6 : gt < (v1.alloc (.cells #[.int .u8 6, .int .u32 src, .int .u32 dst, .int .u16 a, .int .u16 b] 28)).heap.size := Nat.lt_of_lt_of_le ht5 M1.size
      have E2 := D2.ck (CK.of M1)
      clear D2
      have D2 := E2
      clear E2
      have Y2 := hide (later_keep M1 X2.out)
      clear X2
      have X2 := Y2
      clear Y2
      have E3 := D3.ck (CK.of M1)
      clear D3
      have D3 := E3
      clear E3
      have Y3 := hide (later_keep M1 X3.out)
      clear X3
      have X3 := Y3
      clear Y3
      have E4 := D4.ck (CK.of M1)
      clear D4
      have D4 := E4
      clear E4
      have Y4 := hide (later_keep M1 X4.out)
      clear X4
      have X4 := Y4
      clear Y4
      have k1 := block_cell X2.out
      go_wp2_with fail
      clear k1
      generalize v1.alloc (.cells #[.int .u8 6, .int .u32 src, .int .u32 dst, .int .u16 a, .int .u16 b] 28) = W6 at *
      generalize v1.heap.size = r1 at *
      refine (of_any tos id ttl 17 src dst keep _ _ z2 W6 (hT.below hw6 hT.pos) hBz2 D2.rd (by omega) hsr hds).mono ?_
      rw [HE2.out, HX2.out, HY2.out, otv_ok]
      rintro e v2 ⟨hbv2, rfl⟩
      have lv2 : Later W6 v2 := hbv2
      have lw2 : Later v2 (v2.alloc (.cells #[.int .u8 17, .int .u32 src, .int .u32 dst, .int .u16 a, .int .u16 b] 28)) := (Below.refl _ _).alloc (Nat.le_refl _) _
      have M2 := lv2.trans lw2
      have R2 := hide (heap_alloc_new v2 (.cells #[.int .u8 17, .int .u32 src, .int .u32 dst, .int .u16 a, .int .u16 b] 28))
      have hw7 := hw6.trans (M2.mono hw6.size)
      have hg2 : gt < v2.heap.size := Nat.lt_of_lt_of_le ht6 lv2.size
      have ht7 : gt < (v2.alloc (.cells #[.int .u8 17, .int .u32 src, .int .u32 dst, .int .u16 a, .int .u16 b] 28)).heap.size := Nat.lt_of_lt_of_le ht6 M2.size
      have E3 := D3.ck (CK.of M2)
      clear D3
      have D3 := E3
      clear E3
      have Y3 := hide (later_keep M2 X3.out)
      clear X3
      have X3 := Y3
      clear Y3
      have E4 := D4.ck (CK.of M2)
      clear D4
      have D4 := E4
      clear E4
      have Y4 := hide (later_keep M2 X4.out)
      clear X4
      have X4 := Y4
      clear Y4
      have k2 := block_cell X3.out
      go_wp2_with fail
      clear k2
      generalize v2.alloc (.cells #[.int .u8 17, .int .u32 src, .int .u32 dst, .int .u16 a, .int .u16 b] 28) = W7 at *
      generalize v2.heap.size = r2 at *
      refine (of_any tos id ttl 1 src dst keep _ _ z3 W7 (hT.below hw7 hT.pos) hBz3 D3.rd (by omega) hsr hds).mono ?_
      rw [HE3.out, HX3.out, HY3.out, otv_ok]
      rintro e v3 ⟨hbv3, rfl⟩
      have lv3 : Later W7 v3 := hbv3
      have lw3 : Later v3 (v3.alloc (.cells #[.int .u8 1, .int .u32 src, .int .u32 dst, .int .u16 a, .int .u16 a] 28)) := (Below.refl _ _).alloc (Nat.le_refl _) _
      have M3 := lv3.trans lw3
      have R3 := hide (heap_alloc_new v3 (.cells #[.int .u8 1, .int .u32 src, .int .u32 dst, .int .u16 a, .int .u16 a] 28))
      have hw8 := hw7.trans (M3.mono hw7.size)
      have hg3 : gt < v3.heap.size := Nat.lt_of_lt_of_le ht7 lv3.size
      have ht8 : gt < (v3.alloc (.cells #[.int .u8 1, .int .u32 src, .int .u32 dst, .int .u16 a, .int .u16 a] 28)).heap.size := Nat.lt_of_lt_of_le ht7 M3.size
      have E4 := D4.ck (CK.of M3)
      clear D4
      have D4 := E4
      clear E4
      have Y4 := hide (later_keep M3 X4.out)
      clear X4
      have X4 := Y4
      clear Y4
      have k3 := block_cell X4.out
      go_wp2_with fail
      clear k3
      generalize v3.alloc (.cells #[.int .u8 1, .int .u32 src, .int .u32 dst, .int .u16 a, .int .u16 a] 28) = W8 at *
      generalize v3.heap.size = r3 at *
      refine (of_any tos id ttl 47 src dst keep _ _ z4 W8 (hT.below hw8 hT.pos) hBz4 D4.rd (by omega) hsr hds).mono ?_
      rw [HE4.out, HX4.out, HY4.out, otv_ok]
      rintro e v4 ⟨hbv4, rfl⟩
      have lv4 : Later W8 v4 := hbv4
      have lw4 : Later v4 (v4.alloc (.cells #[.int .u8 47, .int .u32 src, .int .u32 dst, .int .u16 0, .int .u16 b] 28)) := (Below.refl _ _).alloc (Nat.le_refl _) _
      have M4 := lv4.trans lw4
      have R4 := hide (heap_alloc_new v4 (.cells #[.int .u8 47, .int .u32 src, .int .u32 dst, .int .u16 0, .int .u16 b] 28))
      have hw9 := hw8.trans (M4.mono hw8.size)
      have hg4 : gt < v4.heap.size := Nat.lt_of_lt_of_le ht8 lv4.size
      have ht9 : gt < (v4.alloc (.cells #[.int .u8 47, .int .u32 src, .int .u32 dst, .int .u16 0, .int .u16 b] 28)).heap.size := Nat.lt_of_lt_of_le ht8 M4.size
      have e7 : ((0 : Int) != 0) = false := by decide
      go_upto_region 14 with fail
      clear e7
      generalize v4.alloc (.cells #[.int .u8 47, .int .u32 src, .int .u32 dst, .int .u16 0, .int .u16 b] 28) = W9 at *
      generalize v4.heap.size = r4 at *
      have tq := later_keep (M1.trans (M2.trans (M3.trans M4))) TQ.out
      have rr1 := later_keep (M2.trans (M3.trans M4)) R1.out
      have rr2 := later_keep (M3.trans M4) R2.out
      have rr3 := later_keep M4 R3.out
      have rr4 := R4.out
      have n1 : r1 ≠ gt := by omega
      have n2 : r2 ≠ gt := by omega
      have n3 : r3 ≠ gt := by omega
      have n4 : r4 ≠ gt := by omega
      clear hg1 hg2 hg3 hg4
      have hwA := hw9
      generalize W9 = A at *
      have kt := block_cell tq
      have ft := block_frozen tq
      go_upto_region 15 with fail
      generalize hV : ((A.setCell ⟨gt, 0, none⟩ (.int .u8 6)).setCell ⟨gt, 3, none⟩ (.int .u16 a)).setCell ⟨gt, 4, none⟩ (.int .u16 b) = B at *
      have hbN : But (fun b => b = gt) A B := by rw [← hV]; exact (((But.refl (fun b => b = gt) A).setCell (p := ⟨gt, 0, none⟩) rfl (.int .u8 6)).setCell (p := ⟨gt, 3, none⟩) rfl (.int .u16 a)).setCell (p := ⟨gt, 4, none⟩) rfl (.int .u16 b)
      have tN := heap_set1 (heap_set1 (heap_set1 (tq) 0 (.int .u8 6)) 3 (.int .u16 a)) 4 (.int .u16 b)
      rw [hV] at tN
      simp only [List.setIfInBounds_toArray, List.set_cons_zero, List.set_cons_succ] at tN
      clear hV kt ft tq
      have tq := tN
      clear tN
      replace rr1 := (hbN.block r1 (Array.getElem?_eq_some_iff.1 rr1).1 n1).trans rr1
      replace rr2 := (hbN.block r2 (Array.getElem?_eq_some_iff.1 rr2).1 n2).trans rr2
      replace rr3 := (hbN.block r3 (Array.getElem?_eq_some_iff.1 rr3).1 n3).trans rr3
      replace rr4 := (hbN.block r4 (Array.getElem?_eq_some_iff.1 rr4).1 n4).trans rr4
      have hwB : Below w.heap.size w B := hwA.trans (hbN.below hwA.size (fun k hk e => by omega))
      clear hbN
      have kr := block_cell rr1
      have kt := block_cell tq
      have ft := block_frozen tq
      go_upto_region 16 with fail
      clear kr kt ft
      have kt := block_cell tq
      have ft := block_frozen tq
      go_upto_region 17 with fail
      generalize hV : B.setCell ⟨gt, 0, none⟩ (.int .u8 17) = C at *
      have hbN : But (fun b => b = gt) B C := by rw [← hV]; exact (But.refl (fun b => b = gt) B).setCell (p := ⟨gt, 0, none⟩) rfl (.int .u8 17)
      have tN := heap_set1 (tq) 0 (.int .u8 17)
      rw [hV] at tN
      simp only [List.setIfInBounds_toArray, List.set_cons_zero, List.set_cons_succ] at tN
      clear hV kt ft tq
      have tq := tN
      clear tN
      replace rr1 := (hbN.block r1 (Array.getElem?_eq_some_iff.1 rr1).1 n1).trans rr1
      replace rr2 := (hbN.block r2 (Array.getElem?_eq_some_iff.1 rr2).1 n2).trans rr2
      replace rr3 := (hbN.block r3 (Array.getElem?_eq_some_iff.1 rr3).1 n3).trans rr3
      replace rr4 := (hbN.block r4 (Array.getElem?_eq_some_iff.1 rr4).1 n4).trans rr4
      have hwC : Below w.heap.size w C := hwB.trans (hbN.below hwB.size (fun k hk e => by omega))
      clear hbN
      have kr := block_cell rr2
      have kt := block_cell tq
      go_upto_region 18 with fail
      clear kr kt
      have kt := block_cell tq
      have ft := block_frozen tq
      go_upto_region 19 with fail
      generalize hV : (C.setCell ⟨gt, 0, none⟩ (.int .u8 1)).setCell ⟨gt, 4, none⟩ (.int .u16 a) = D at *
      have hbN : But (fun b => b = gt) C D := by rw [← hV]; exact ((But.refl (fun b => b = gt) C).setCell (p := ⟨gt, 0, none⟩) rfl (.int .u8 1)).setCell (p := ⟨gt, 4, none⟩) rfl (.int .u16 a)
      have tN := heap_set1 (heap_set1 (tq) 0 (.int .u8 1)) 4 (.int .u16 a)
      rw [hV] at tN
      simp only [List.setIfInBounds_toArray, List.set_cons_zero, List.set_cons_succ] at tN
      clear hV kt ft tq
      have tq := tN
      clear tN
      replace rr1 := (hbN.block r1 (Array.getElem?_eq_some_iff.1 rr1).1 n1).trans rr1
      replace rr2 := (hbN.block r2 (Array.getElem?_eq_some_iff.1 rr2).1 n2).trans rr2
      replace rr3 := (hbN.block r3 (Array.getElem?_eq_some_iff.1 rr3).1 n3).trans rr3
      replace rr4 := (hbN.block r4 (Array.getElem?_eq_some_iff.1 rr4).1 n4).trans rr4
      have hwD : Below w.heap.size w D := hwC.trans (hbN.below hwC.size (fun k hk e => by omega))
      clear hbN
      have kr := block_cell rr3
      have kt := block_cell tq
      go_upto_region 20 with fail
      clear kr kt
      have kt := block_cell tq
      have ft := block_frozen tq
      go_upto_region 21 with fail
      generalize hV : ((D.setCell ⟨gt, 0, none⟩ (.int .u8 47)).setCell ⟨gt, 3, none⟩ (.int .u16 0)).setCell ⟨gt, 4, none⟩ (.int .u16 b) = E at *
      have hbN : But (fun b => b = gt) D E := by rw [← hV]; exact (((But.refl (fun b => b = gt) D).setCell (p := ⟨gt, 0, none⟩) rfl (.int .u8 47)).setCell (p := ⟨gt, 3, none⟩) rfl (.int .u16 0)).setCell (p := ⟨gt, 4, none⟩) rfl (.int .u16 b)
      have tN := heap_set1 (heap_set1 (heap_set1 (tq) 0 (.int .u8 47)) 3 (.int .u16 0)) 4 (.int .u16 b)
      rw [hV] at tN
      simp only [List.setIfInBounds_toArray, List.set_cons_zero, List.set_cons_succ] at tN
      clear hV kt ft tq
      have tq := tN
      clear tN
      replace rr1 := (hbN.block r1 (Array.getElem?_eq_some_iff.1 rr1).1 n1).trans rr1
      replace rr2 := (hbN.block r2 (Array.getElem?_eq_some_iff.1 rr2).1 n2).trans rr2
      replace rr3 := (hbN.block r3 (Array.getElem?_eq_some_iff.1 rr3).1 n3).trans rr3
      replace rr4 := (hbN.block r4 (Array.getElem?_eq_some_iff.1 rr4).1 n4).trans rr4
      have hwE : Below w.heap.size w E := hwD.trans (hbN.below hwD.size (fun k hk e => by omega))
      clear hbN
      go_wp2_with fail
      refine (live5_any E).mono ?_
      rintro e F ⟨rfl, hbF⟩
      have lF : Later E F := hbF
      have kr := block_cell (later_keep lF rr4)
      have kt := block_cell (later_keep lF tq)
      have hwF := hwE.trans (hbF.mono hwE.size)
      go_wp2_with fail
      go_ret
      exact ⟨by simp, hwF⟩
    · have t40 : ¬ (40 : Int) < zo.length := by omega
      have t4 : ((zo.length : Int).tmod 4 != 0) = true := by rw [Int.tmod_eq_emod_of_nonneg (by omega)]; simp; omega
      have t4' : ((zo.length : Int) % 4 != 0) = true := by simp; omega
      go_enter Tryd.func7, Tryd.ntmps7
      go_wp2_with fail
      refine (live5_any _).mono ?_
      rintro e w1 ⟨rfl, hb1⟩
      go_wp2_with fail
      go_ret
      exact ⟨rfl, hwW0.trans (hb1.mono hwW0.size)⟩
  · have t40 : (40 : Int) < zo.length := by omega
    go_enter Tryd.func7, Tryd.ntmps7
    go_wp2_with fail
    refine (live5_any _).mono ?_
    rintro e w1 ⟨rfl, hb1⟩
    go_wp2_with fail
    go_ret
    exact ⟨rfl, hwW0.trans (hb1.mono hwW0.size)⟩
end Go.Proofs.YtojoaidnkljcpaaDoor
