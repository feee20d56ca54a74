/- A bare datagram is taken from any addresses, one with a sum only from its own. -/
import Derived.Test.YtcjigldianobgabMp
import Derived.Test.YtcjigldianobgabSS
namespace Go.Proofs.Ytcjigldianobgab
open Go.RowKit Go.Shelf
set_option maxRecDepth 100000
set_option linter.unusedVariables false
set_option linter.unusedSimpArgs false

set_option maxHeartbeats 8000000 in
theorem walk_SegsBare (w : World) (tos id ttl proto src dst : Int) (keep : Bool) (so sd : Value) (zo zd : List Int) (hBo : Mt.By zo) (hBd : Mt.By zd) (hIo : Rd w.heap.size w so zo) (hId : Rd w.heap.size w sd zd) (h1 : zo.length ≤ 140737488351232) (h2 : zd.length ≤ 140737488351232) (ht : 0 ≤ tos ∧ tos ≤ 255) (hid : 0 ≤ id ∧ id ≤ 65535) (htt : 0 ≤ ttl ∧ ttl ≤ 255) (hpr : 0 ≤ proto ∧ proto ≤ 255) (hsr : 0 ≤ src ∧ src ≤ 4294967295) (hds : 0 ≤ dst ∧ dst ≤ 4294967295)
    (sp dp : Int) (bare : Bool) (sm : Value) (zm : List Int) (hBm : Mt.By zm) (hIm : Rd w.heap.size w sm zm) (hlm : zm.length ≤ 140737488351232) (hsp : 0 ≤ sp ∧ sp ≤ 65535) (hdp : 0 ≤ dp ∧ dp ≤ 65535) (bit : Int) (hbit : 0 ≤ bit ∧ bit ≤ 255) :
    Calls Try.prog 6 #[.agg #[.int .u8 tos, .int .u16 id, .bool keep, .int .u8 ttl, .int .u8 proto, .int .u32 src, .int .u32 dst, so, sd], .agg #[.int .u16 sp, .int .u16 dp, .bool bare, sm], .int .u8 bit] w fun e w' => e = .returned (.bool true) ∧ Below w.heap.size w w' := by
  obtain ⟨ao, co, rfl, _, _⟩ := hIo.slice
  obtain ⟨ad, cd, rfl, _, _⟩ := hId.slice
  obtain ⟨am, cm, rfl, _, _⟩ := hIm.slice
  have hb0 : Below w.heap.size w ((w.alloc (.cells #[.int .u8 tos, .int .u16 id, .bool keep, .int .u8 ttl, .int .u8 proto, .int .u32 src, .int .u32 dst, .slice ao zo.length co, .slice ad zd.length cd] 36)).alloc (.cells #[.int .u16 sp, .int .u16 dp, .bool bare, .slice am zm.length cm] 29)) := ((Below.refl _ _).alloc (Nat.le_refl _) _).alloc (by simp) _
  have p0 : ((w.alloc (.cells #[.int .u8 tos, .int .u16 id, .bool keep, .int .u8 ttl, .int .u8 proto, .int .u32 src, .int .u32 dst, .slice ao zo.length co, .slice ad zd.length cd] 36)).alloc (.cells #[.int .u16 sp, .int .u16 dp, .bool bare, .slice am zm.length cm] 29)).heap[w.heap.size]? = some (.cells #[.int .u8 tos, .int .u16 id, .bool keep, .int .u8 ttl, .int .u8 proto, .int .u32 src, .int .u32 dst, .slice ao zo.length co, .slice ad zd.length cd] 36) := (Below.heap_alloc _ _ _ (by simp)).trans (heap_alloc_new w _)
  have d0 : ((w.alloc (.cells #[.int .u8 tos, .int .u16 id, .bool keep, .int .u8 ttl, .int .u8 proto, .int .u32 src, .int .u32 dst, .slice ao zo.length co, .slice ad zd.length cd] 36)).alloc (.cells #[.int .u16 sp, .int .u16 dp, .bool bare, .slice am zm.length cm] 29)).heap[w.heap.size + 1]? = some (.cells #[.int .u16 sp, .int .u16 dp, .bool bare, .slice am zm.length cm] 29) := by have := heap_alloc_new (w.alloc (.cells #[.int .u8 tos, .int .u16 id, .bool keep, .int .u8 ttl, .int .u8 proto, .int .u32 src, .int .u32 dst, .slice ao zo.length co, .slice ad zd.length cd] 36)) (.cells #[.int .u16 sp, .int .u16 dp, .bool bare, .slice am zm.length cm] 29); simpa only [World.size_alloc] using this
  have hs0 : ((w.alloc (.cells #[.int .u8 tos, .int .u16 id, .bool keep, .int .u8 ttl, .int .u8 proto, .int .u32 src, .int .u32 dst, .slice ao zo.length co, .slice ad zd.length cd] 36)).alloc (.cells #[.int .u16 sp, .int .u16 dp, .bool bare, .slice am zm.length cm] 29)).heap.size = w.heap.size + 1 + 1 := by simp
  have P0 := hide p0
  have D0 := hide d0
  have HS0 := hide hs0
  clear p0 d0 hs0
  go_enter Try.func6, Try.ntmps6
  go_upto_region 1 with fail
  generalize (w.alloc (.cells #[.int .u8 tos, .int .u16 id, .bool keep, .int .u8 ttl, .int .u8 proto, .int .u32 src, .int .u32 dst, .slice ao zo.length co, .slice ad zd.length cd] 36)).alloc (.cells #[.int .u16 sp, .int .u16 dp, .bool bare, .slice am zm.length cm] 29) = W0 at *
  have K0 := block_cell D0.out
  have F0 := block_frozen D0.out
  go_upto_region 2 with fail
  have d1 : (W0.setCell ⟨w.heap.size + 1, 2, none⟩ (.bool true)).heap[w.heap.size + 1]? = some (.cells #[.int .u16 sp, .int .u16 dp, .bool true, .slice am zm.length cm] 29 (0, 0)) := heap_set1 D0.out 2 _
  have p1 : (W0.setCell ⟨w.heap.size + 1, 2, none⟩ (.bool true)).heap[w.heap.size]? = some (.cells #[.int .u8 tos, .int .u16 id, .bool keep, .int .u8 ttl, .int .u8 proto, .int .u32 src, .int .u32 dst, .slice ao zo.length co, .slice ad zd.length cd] 36 (0, 0)) := (Below.heap_setCell W0 _ _ w.heap.size (by simp)).trans P0.out
  have hb1 : Below w.heap.size w (W0.setCell ⟨w.heap.size + 1, 2, none⟩ (.bool true)) := hb0.setCell (p := ⟨w.heap.size + 1, 2, none⟩) (Nat.le_succ _) _
  have hs1 : (W0.setCell ⟨w.heap.size + 1, 2, none⟩ (.bool true)).heap.size = w.heap.size + 1 + 1 := by rw [World.size_setCell]; exact HS0.out
  have HS1 := hide hs1
  clear K0 F0 P0 D0 HS0 hb0 hs1
  generalize W0.setCell ⟨w.heap.size + 1, 2, none⟩ (.bool true) = V1 at *
  have KP := block_cell p1
  have KD := block_cell d1
  go_wp2_with fail
  refine (buildUdp_any tos id ttl proto src dst sp dp keep true _ _ _ zo zm V1 hBo ((hIo.below hb1).mono hb1.size) hBm ((hIm.below hb1).mono hb1.size) (by omega) (by omega) ht hid htt hsr hds hsp hdp).mono ?_
  rintro e w1 ⟨hl1, h3⟩
  have p2 := later_keep hl1 p1
  have d2 := later_keep hl1 d1
  have hw1 := hb1.trans (hl1.mono hb1.size)
  have hs2 : w.heap.size + 1 + 1 ≤ w1.heap.size := by have := hl1.size; have := HS1.out; omega
  clear KP KD p1 d1 hb1 HS1
  rcases h3 with ⟨hf, rfl⟩ | ⟨hf, a1, c1, a2, c2, rfl, hO1, hO2⟩
  · have t1 : (flt zo.length (8 + zm.length) != 0) = true := by simp [hf]
    have HF := hide hf
    clear hf
    go_upto_region 3 with fail
    generalize hV : w1.alloc _ = W2
    have l2 : Later w1 W2 := by rw [← hV]; exact (Below.refl _ w1).alloc (Nat.le_refl _) _
    clear hV
    have hw2 := hw1.trans (l2.mono hw1.size)
    have p3 := later_keep l2 p2
    have d3 := later_keep l2 d2
    have hs3 : w.heap.size + 1 + 1 ≤ W2.heap.size := Nat.le_trans hs2 l2.size
    have K3 := block_cell d3
    have F3 := block_frozen d3
    go_upto_region 4 with fail
    have d4 := heap_set1 d3 2 (.bool false)
    have p4 := (Below.heap_setCell W2 ⟨w.heap.size + 1, 2, none⟩ (.bool false) w.heap.size (by simp)).trans p3
    have hw4 : Below w.heap.size w (W2.setCell ⟨w.heap.size + 1, 2, none⟩ (.bool false)) := hw2.setCell (p := ⟨w.heap.size + 1, 2, none⟩) (Nat.le_succ _) _
    clear K3 F3 d3 p3 hw2 d2 p2
    generalize W2.setCell ⟨w.heap.size + 1, 2, none⟩ (.bool false) = V4 at *
    have KP := block_cell p4
    have KD := block_cell d4
    simp at KD
    go_wp2_with fail
    refine (buildUdp_any tos id ttl proto src dst sp dp keep false _ _ _ zo zm V4 hBo ((hIo.below hw4).mono hw4.size) hBm ((hIm.below hw4).mono hw4.size) (by omega) (by omega) ht hid htt hsr hds hsp hdp).mono ?_
    rintro e w5 ⟨hl5, ⟨_, rfl⟩ | ⟨h0, _⟩⟩
    · have hw5 := hw4.trans (hl5.mono hw4.size)
      clear KP KD
      go_upto_region 6 with fail
      generalize hV : w5.alloc _ = W6
      have hw6 := hw5.trans ((show Later w5 W6 by rw [← hV]; exact (Below.refl _ w5).alloc (Nat.le_refl _) _).mono hw5.size)
      clear hV
      go_wp2_with fail
      refine (live3_any _).mono ?_
      rintro e w7 ⟨rfl, hb7⟩
      have hw7 := hw6.trans (hb7.mono hw6.size)
      go_wp2_with fail
      go_ret
      exact ⟨by simp, hw7⟩
    · exact absurd h0 HF.out
  · have HF := hide hf
    obtain ⟨_, _, hall⟩ := flt_fit2 hf
    have h8 : 8 + zm.length ≤ 65535 := by omega
    have hB0 := By_udp0 sp dp zm hsp hdp hBm
    clear hf hall
    go_upto_region 3 with fail
    generalize hV : w1.alloc _ = W2
    have l2 : Later w1 W2 := by rw [← hV]; exact (Below.refl _ w1).alloc (Nat.le_refl _) _
    have q2 : W2.heap[w1.heap.size]? = some (.cells #[.int .u8 tos, .int .u16 id, .bool keep, .int .u8 ttl, .int .u8 17, .int .u32 src, .int .u32 dst, .slice a1 zo.length c1, .slice a2 (8 + zm.length) c2] 36 (0, 0)) := by rw [← hV]; exact heap_alloc_new w1 _
    clear hV
    have hw2 := hw1.trans (l2.mono hw1.size)
    have p3 := later_keep l2 p2
    have d3 := later_keep l2 d2
    replace hO2 := hO2.later l2
    have hs3 : w1.heap.size + 1 ≤ W2.heap.size := (Array.getElem?_eq_some_iff.1 q2).1
    have K3 := block_cell d3
    have F3 := block_frozen d3
    go_upto_region 4 with fail
    have d4 : (W2.setCell ⟨w.heap.size + 1, 2, none⟩ (.bool false)).heap[w.heap.size + 1]? = some (.cells #[.int .u16 sp, .int .u16 dp, .bool false, .slice am zm.length cm] 29 (0, 0)) := heap_set1 d3 2 _
    have E4 : But (fun b => b = w.heap.size + 1) W2 (W2.setCell ⟨w.heap.size + 1, 2, none⟩ (.bool false)) := (But.refl (fun b => b = w.heap.size + 1) W2).setCell (p := ⟨w.heap.size + 1, 2, none⟩) rfl _
    have hO4 := hO2.aside d3 (by decide) E4
    generalize W2.setCell ⟨w.heap.size + 1, 2, none⟩ (.bool false) = V4 at *
    have p4 := (E4.block w.heap.size (by omega) (by omega)).trans p3
    have q4 := (E4.block w1.heap.size (by omega) (by omega)).trans q2
    have hw4 : Below w.heap.size w V4 := hw2.trans (E4.below hw2.size (fun k h e => by omega))
    clear K3 F3 d3 p3 hw2 d2 p2 hO2 q2
    have KP := block_cell p4
    have KD := block_cell d4
    go_wp2_with fail
    refine (buildUdp_any tos id ttl proto src dst sp dp keep false _ _ _ zo zm V4 hBo ((hIo.below hw4).mono hw4.size) hBm ((hIm.below hw4).mono hw4.size) (by omega) (by omega) ht hid htt hsr hds hsp hdp).mono ?_
    rintro e w5 ⟨hl5, ⟨h0, _⟩ | ⟨_, a5, c5, a6, c6, rfl, hO5, hO6⟩⟩
    · exact absurd HF.out h0
    have hw5 := hw4.trans (hl5.mono hw4.size)
    have q5 := later_keep hl5 q4
    have d5 := later_keep hl5 d4
    have hOa5 := hO4.later hl5
    have hs5 : w1.heap.size + 1 ≤ w5.heap.size := Nat.lt_of_lt_of_le (Array.getElem?_eq_some_iff.1 q4).1 hl5.size
    clear KP KD p4 d4 q4 hO4
    go_upto_region 7 with fail
    generalize hV : w5.alloc _ = W6
    have l6 : Later w5 W6 := by rw [← hV]; exact (Below.refl _ w5).alloc (Nat.le_refl _) _
    have b6 : W6.heap[w5.heap.size]? = some (.cells #[.int .u8 tos, .int .u16 id, .bool keep, .int .u8 ttl, .int .u8 17, .int .u32 src, .int .u32 dst, .slice a5 zo.length c5, .slice a6 (8 + zm.length) c6] 36 (0, 0)) := by rw [← hV]; exact heap_alloc_new w5 _
    clear hV
    have hw6 := hw5.trans (l6.mono hw5.size)
    have q6 := later_keep l6 q5
    have d6 := later_keep l6 d5
    have hOa6 := hOa5.later l6
    have hOb6 := hO6.later l6
    clear q5 d5 hOa5 hO5 hO6
    obtain ⟨r, hr⟩ : ∃ r : Nat, bit % 32 = (r : Int) := ⟨(bit % 32).toNat, by omega⟩
    have hr32 : r < 32 := by omega
    obtain ⟨pw, HPW⟩ : ∃ pw : Int, Hid (pw = ((2 ^ r : Nat) : Int)) := ⟨_, rfl⟩
    have HSH : Hid (IntKind.u32.wrap (2 ^ r) = pw) := by
      show _ = _
      rw [HPW.out, IntKind.wrap_u32, Int.emod_eq_of_lt (Int.le_of_lt (Int.pow_pos (by omega)))]
      · simp
      · have h2 : 2 ^ r < 2 ^ 32 := Nat.pow_lt_pow_right (a := 2) (by omega) hr32
        have h3 : ((2 ^ r : Nat) : Int) < ((2 ^ 32 : Nat) : Int) := by exact_mod_cast h2
        simpa using h3
    obtain ⟨x, hxe, hxl, hxb, hxr⟩ := u32_bit src hsr r hr32 pw HPW.out
    have HBX := hide hxb
    have HXE := hide hxe
    clear hxb hxe
    obtain ⟨src2, HY⟩ : ∃ y, Hid (bits .xor .u32 src pw = y) := ⟨_, rfl⟩
    rw [HY.out] at hxr
    have hsz6 := (Array.getElem?_eq_some_iff.1 b6).1
    have hne : w1.heap.size ≠ w5.heap.size := by omega
    have hne' : w5.heap.size ≠ w1.heap.size := by omega
    have A2 := block_cell q6
    have F2 := block_frozen q6
    have A6 := block_cell b6
    have F6 := block_frozen b6
    have q7 : (W6.setCell ⟨w1.heap.size, 5, none⟩ (.int .u32 src2)).heap[w1.heap.size]? = some (.cells #[.int .u8 tos, .int .u16 id, .bool keep, .int .u8 ttl, .int .u8 17, .int .u32 src2, .int .u32 dst, .slice a1 zo.length c1, .slice a2 (8 + zm.length) c2] 36 (0, 0)) := heap_set1 q6 5 _
    have E7 : But (fun b => b = w1.heap.size) W6 (W6.setCell ⟨w1.heap.size, 5, none⟩ (.int .u32 src2)) := (But.refl (fun b => b = w1.heap.size) W6).setCell (p := ⟨w1.heap.size, 5, none⟩) rfl _
    have b7 := (E7.block w5.heap.size hsz6 hne').trans b6
    have hOa7 := hOa6.aside q6 (by decide) E7
    have hOb7 := hOb6.aside q6 (by decide) E7
    have d7 := (E7.block (w.heap.size + 1) (by omega) (by omega)).trans d6
    have hw7 : Below w.heap.size w (W6.setCell ⟨w1.heap.size, 5, none⟩ (.int .u32 src2)) := hw6.trans (E7.below hw6.size (fun k h e => by omega))
    have hs7 := E7.size
    have b8 : ((W6.setCell ⟨w1.heap.size, 5, none⟩ (.int .u32 src2)).setCell ⟨w5.heap.size, 5, none⟩ (.int .u32 src2)).heap[w5.heap.size]? = some (.cells #[.int .u8 tos, .int .u16 id, .bool keep, .int .u8 ttl, .int .u8 17, .int .u32 src2, .int .u32 dst, .slice a5 zo.length c5, .slice a6 (8 + zm.length) c6] 36 (0, 0)) := heap_set1 b7 5 _
    have E8 : But (fun b => b = w5.heap.size) (W6.setCell ⟨w1.heap.size, 5, none⟩ (.int .u32 src2)) ((W6.setCell ⟨w1.heap.size, 5, none⟩ (.int .u32 src2)).setCell ⟨w5.heap.size, 5, none⟩ (.int .u32 src2)) := (But.refl (fun b => b = w5.heap.size) _).setCell (p := ⟨w5.heap.size, 5, none⟩) rfl _
    have hOa8 := hOa7.aside b7 (by decide) E8
    have hOb8 := hOb7.aside b7 (by decide) E8
    have q8 := (E8.block w1.heap.size (by omega) hne).trans q7
    have d8 := (E8.block (w.heap.size + 1) (by omega) (by omega)).trans d7
    have hw8 : Below w.heap.size w ((W6.setCell ⟨w1.heap.size, 5, none⟩ (.int .u32 src2)).setCell ⟨w5.heap.size, 5, none⟩ (.int .u32 src2)) := hw7.trans (E8.below hw7.size (fun k h e => by omega))
    have Q8 := hide q8
    have B8 := hide b8
    have D8 := hide d8
    have OA8 := hide hOa8
    have OB8 := hide hOb8
    have HW8 := hide hw8
    clear q7 E7 b7 hOa7 hOb7 d7 hw7 hs7 b8 E8 hOa8 hOb8 q8 d8 hw8
    have A8 := block_cell Q8.out
    go_wp2_with (first | (refine wpList_valD 45 rfl rfl (.int .u32 pw) (by go_simp; rw [HSH.out]) ?_) | (refine wpList_valD 46 rfl rfl (.int .u32 src2) (by go_simp; rw [HY.out]) ?_) | (refine wpList_valD 52 rfl rfl (.int .u32 pw) (by go_simp; rw [HSH.out]) ?_) | (refine wpList_valD 53 rfl rfl (.int .u32 src2) (by go_simp; rw [HY.out]) ?_))
    have q8 := Q8.out
    have b8 := B8.out
    have d8 := D8.out
    have hOa8 := OA8.out
    have hOb8 := OB8.out
    have hw8 := HW8.out
    clear Q8 B8 D8 OA8 OB8 HW8 A2 F2 A6 F6 q6 b6 d6 hOa6 hOb6 hw6
    generalize (W6.setCell ⟨w1.heap.size, 5, none⟩ (.int .u32 src2)).setCell ⟨w5.heap.size, 5, none⟩ (.int .u32 src2) = W8 at *
    clear A8
    have hpa : pue 17 src2 dst (udp sp dp true src dst zm) = 0 := by rw [udp_pue _ _ _ _ _ _ 17 rfl src2 dst h8, if_neg (by simp)]
    have hcz := psd_bad (psd_src x r hxl hr32 dst 17 ((8 + zm.length) : Nat)) (by rw [← HXE.out]; exact udp_good sp dp src dst zm hsr hds hB0)
    rw [← HBX.out, HY.out] at hcz
    have hpb : pue 17 src2 dst (udp sp dp false src dst zm) = 5 := by rw [udp_pue _ _ _ _ _ _ 17 rfl src2 dst h8, if_pos ⟨rfl, hcz⟩]
    have hlu := udp_length sp dp true src dst zm
    refine (parseUdp_any tos id ttl 17 src2 dst keep _ _ (udp sp dp true src dst zm) W8 (By_udp sp dp true src dst zm hsp hdp hBm) hOa8.rd (by rw [hlu]; omega) hxr hds).mono ?_
    rw [hpa, udp_w0, udp_w2, udp_w6, udp_drop, hlu, Nat.add_sub_cancel_left]
    rintro e w9 ⟨hl9, ⟨h0, _⟩ | ⟨_, a9, c9, rfl, hO9⟩⟩
    · exact absurd rfl h0
    have hw9 := hw8.trans (hl9.mono hw8.size)
    have b9 := later_keep hl9 b8
    have d9 := later_keep hl9 d8
    have hOb9 := hOb8.later hl9
    clear q8 b8 d8 hOa8 hOb8 hpa
    go_upto_region 10 with fail
    generalize hV : w9.alloc _ = Wa
    have la : Later w9 Wa := by rw [← hV]; exact (Below.refl _ w9).alloc (Nat.le_refl _) _
    have xa : Wa.heap[w9.heap.size]? = some (.cells #[.int .u16 sp, .int .u16 dp, .bool true, .slice a9 zm.length c9] 29 (0, 0)) := by rw [← hV]; exact heap_alloc_new w9 _
    clear hV
    have hwa := hw9.trans (la.mono hw9.size)
    have ba := later_keep la b9
    have da := later_keep la d9
    have hOba := hOb9.later la
    have hOxa := hO9.later la
    clear b9 d9 hOb9 hO9
    have Ba := block_cell ba
    go_wp2_with fail
    have hlu2 := udp_length sp dp false src dst zm
    refine (parseUdp_any tos id ttl 17 src2 dst keep _ _ (udp sp dp false src dst zm) Wa (By_udp sp dp false src dst zm hsp hdp hBm) hOba.rd (by rw [hlu2]; omega) hxr hds).mono ?_
    rw [hpb]
    rintro e wb ⟨hlb, ⟨_, rfl⟩ | ⟨h0, _⟩⟩
    · have hwb := hwa.trans (hlb.mono hwa.size)
      have xb := later_keep hlb xa
      have db := later_keep hlb da
      have hOxb := hOxa.later hlb
      clear Ba ba xa da hOxa hpb hOba
      go_upto_region 11 with fail
      generalize hV : wb.alloc _ = Wc
      have lc : Later wb Wc := by rw [← hV]; exact (Below.refl _ wb).alloc (Nat.le_refl _) _
      clear hV
      have hwc := hwb.trans (lc.mono hwb.size)
      have xc := later_keep lc xb
      have dc := later_keep lc db
      have hOxc := hOxb.later lc
      go_wp2_with fail
      refine (live3_any _).mono ?_
      rintro e we ⟨rfl, hle⟩
      have hwe := hwc.trans (hle.mono hwc.size)
      have Xe := block_cell (later_keep hle xc)
      have De := block_cell (later_keep hle dc)
      have c1 := conv_rd 25 9 5 Try.underlying25 Try.underlying5 Try.underlying9 (hOxc.later hle).rd
      have c2 := conv_rd 25 9 5 Try.underlying25 Try.underlying5 Try.underlying9 (hIm.below hwe)
      go_wp2_with fail
      go_ret
      exact ⟨by simp, hwe⟩
    · exact absurd h0 (by decide)
end Go.Proofs.Ytcjigldianobgab
