/- One bit of an address turned: a segment is refused by its check sum. -/
import Derived.Test.YtcjigldianobgabMp
import Derived.Test.YtcjigldianobgabSS
namespace Go.Proofs.Ytcjigldianobgab
open Go.RowKit Go.Shelf
set_option maxRecDepth 100000
set_option linter.unusedVariables false
set_option linter.unusedSimpArgs false

set_option maxHeartbeats 8000000 in
theorem walk_SegsWhere (w : World) (tos id ttl proto src dst : Int) (keep : Bool) (so sd : Value) (zo zd : List Int) (hBo : Mt.By zo) (hBd : Mt.By zd) (hIo : Rd w.heap.size w so zo) (hId : Rd w.heap.size w sd zd) (h1 : zo.length ≤ 140737488351232) (h2 : zd.length ≤ 140737488351232) (ht : 0 ≤ tos ∧ tos ≤ 255) (hid : 0 ≤ id ∧ id ≤ 65535) (htt : 0 ≤ ttl ∧ ttl ≤ 255) (hpr : 0 ≤ proto ∧ proto ≤ 255) (hsr : 0 ≤ src ∧ src ≤ 4294967295) (hds : 0 ≤ dst ∧ dst ≤ 4294967295)
    (sp dp sq ak fl wn ur : Int) (sO sm : Value) (os : List Opt) (zm : List Int) (hBO : ByO os) (hBm : Mt.By zm) (hIO : RdO w.heap.size w sO os) (hIm : Rd w.heap.size w sm zm) (hlO : ∀ o ∈ os, o.2.length ≤ 140737488351232) (hlm : zm.length ≤ 140737488351232) (hsp : 0 ≤ sp ∧ sp ≤ 65535) (hdp : 0 ≤ dp ∧ dp ≤ 65535) (hsq : 0 ≤ sq ∧ sq ≤ 4294967295) (hak : 0 ≤ ak ∧ ak ≤ 4294967295) (hfl : 0 ≤ fl ∧ fl ≤ 255) (hwn : 0 ≤ wn ∧ wn ≤ 65535) (hur : 0 ≤ ur ∧ ur ≤ 65535) (bit : Int) (hbit : 0 ≤ bit ∧ bit ≤ 255) :
    Calls Try.prog 5 #[.agg #[.int .u8 tos, .int .u16 id, .bool keep, .int .u8 ttl, .int .u8 proto, .int .u32 src, .int .u32 dst, so, sd], .agg #[.int .u16 sp, .int .u16 dp, .int .u32 sq, .int .u32 ak, .int .u8 fl, .int .u16 wn, .int .u16 ur, sO, sm], .int .u8 bit] w fun e w' => e = .returned (.bool true) ∧ Below w.heap.size w w' := by
  obtain ⟨ao, co, rfl, _, _⟩ := hIo.slice
  obtain ⟨ad, cd, rfl, _, _⟩ := hId.slice
  obtain ⟨aO, cO, rfl, _, _⟩ := hIO.slice
  obtain ⟨am, cm, rfl, _, _⟩ := hIm.slice
  have hb0 : Below w.heap.size w ((w.alloc (.cells #[.int .u8 tos, .int .u16 id, .bool keep, .int .u8 ttl, .int .u8 proto, .int .u32 src, .int .u32 dst, .slice ao zo.length co, .slice ad zd.length cd] 36)).alloc (.cells #[.int .u16 sp, .int .u16 dp, .int .u32 sq, .int .u32 ak, .int .u8 fl, .int .u16 wn, .int .u16 ur, .slice aO os.length cO, .slice am zm.length cm] 27)) := ((Below.refl _ _).alloc (Nat.le_refl _) _).alloc (by simp) _
  go_enter Try.func5, Try.ntmps5
  go_wp2_with fail
  generalize (w.alloc (.cells #[.int .u8 tos, .int .u16 id, .bool keep, .int .u8 ttl, .int .u8 proto, .int .u32 src, .int .u32 dst, .slice ao zo.length co, .slice ad zd.length cd] 36)).alloc (.cells #[.int .u16 sp, .int .u16 dp, .int .u32 sq, .int .u32 ak, .int .u8 fl, .int .u16 wn, .int .u16 ur, .slice aO os.length cO, .slice am zm.length cm] 27) = W0 at *
  refine (buildTcp_any tos id ttl proto src dst sp dp sq ak fl wn ur keep _ _ _ _ zo zm os W0 hBo ((hIo.below hb0).mono hb0.size) hBm ((hIm.below hb0).mono hb0.size) hBO ((hIO.below hb0).mono hb0.size) (fun o ho => by have := hlO o ho; omega) (by omega) (by omega) ht hid htt hsr hds hsp hdp hsq hak hfl hwn hur).mono ?_
  rintro e w1 ⟨hb1, ⟨hf, rfl⟩ | ⟨hf, a7, c7, a8, c8, rfl, hO, hD⟩⟩
  · have hw1 := hb0.trans (hb1.mono hb0.size)
    have t1 : (bte os zo.length zm.length != 0) = true := by simp [hf]
    have HF := hide hf
    clear hf
    go_upto_region 3 with fail
    generalize hV : w1.alloc _ = W1
    have hw2 := hw1.trans ((show Later w1 W1 by rw [← hV]; exact (Below.refl _ w1).alloc (Nat.le_refl _) _).mono hw1.size)
    clear hV
    go_wp2_with fail
    refine (live3_any _).mono ?_
    rintro e w2 ⟨rfl, hb2⟩
    have hw3 := hw2.trans (hb2.mono hw2.size)
    go_wp2_with fail
    go_ret
    exact ⟨rfl, hw3⟩
  · have hw1 := hb0.trans (hb1.mono hb0.size)
    obtain ⟨hok, hlo, hlm4, hall⟩ := bte_fit hf
    have hB0 := By_tcp0 sp dp sq ak fl wn ur (pad (obs os)) zm hsp hdp hsq hak hfl hwn hur (pad_le _ hok.2) (By_pad _ (By_obs os hBO hok.2)) hBm
    have hBT := By_tcp sp dp sq ak fl wn ur (pad (obs os)) src dst zm hB0
    have hgd := tcp_good sp dp sq ak fl wn ur (pad (obs os)) src dst zm hsr hds hB0
    have HF := hide hf
    clear hf
    go_upto_region 4 with fail
    generalize hV : w1.alloc _ = W1
    have l1 : Later w1 W1 := by rw [← hV]; exact (Below.refl _ w1).alloc (Nat.le_refl _) _
    have a2 : W1.heap[w1.heap.size]? = some (.cells #[.int .u8 tos, .int .u16 id, .bool keep, .int .u8 ttl, .int .u8 6, .int .u32 src, .int .u32 dst, .slice a7 zo.length c7, .slice a8 (20 + (pad (obs os)).length + zm.length) c8] 36 (0, 0)) := by rw [← hV]; exact heap_alloc_new w1 _
    clear hV
    have hwW := hw1.trans (l1.mono hw1.size)
    replace hD := hD.later l1
    have hs1 := hw1.size
    obtain ⟨r, hr⟩ : ∃ r : Nat, bit % 32 = (r : Int) := ⟨(bit % 32).toNat, by omega⟩
    have hr32 : r < 32 := by omega
    obtain ⟨pw, HPW⟩ : ∃ pw : Int, Hid (pw = ((2 ^ r : Nat) : Int)) := ⟨_, rfl⟩
    have HSH : Hid (IntKind.u32.wrap (2 ^ r) = pw) := by
      show _ = _
      rw [HPW.out, IntKind.wrap_u32, Int.emod_eq_of_lt (Int.le_of_lt (Int.pow_pos (by omega)))]
      · simp
      · have h2 : 2 ^ r < 2 ^ 32 := Nat.pow_lt_pow_right (a := 2) (by omega) hr32
        have h3 : ((2 ^ r : Nat) : Int) < ((2 ^ 32 : Nat) : Int) := by exact_mod_cast h2
        simpa using h3
    by_cases hc : bit % 64 < 32
    · skip
      obtain ⟨x, hxe, hxl, hxb, hxr⟩ := u32_bit src hsr r hr32 pw HPW.out
      have HBX := hide hxb
      have HXE := hide hxe
      clear hxb hxe
      obtain ⟨src2, HY⟩ : ∃ y, Hid (bits .xor .u32 src pw = y) := ⟨_, rfl⟩
      rw [HY.out] at hxr
      have A2 := block_cell a2
      have F2 := block_frozen a2
      go_wp2_with (first | (refine wpList_valD 27 rfl rfl (.int .u32 pw) (by go_simp; rw [HSH.out]) ?_) | (refine wpList_valD 28 rfl rfl (.int .u32 src2) (by go_simp; rw [HY.out]) ?_))
      have a3 : (W1.setCell ⟨w1.heap.size, 5, none⟩ (.int .u32 src2)).heap[w1.heap.size]? = some (.cells #[.int .u8 tos, .int .u16 id, .bool keep, .int .u8 ttl, .int .u8 6, .int .u32 src2, .int .u32 dst, .slice a7 zo.length c7, .slice a8 (20 + (pad (obs os)).length + zm.length) c8] 36 (0, 0)) := heap_set1 a2 5 _
      have E3 : But (fun b => b = w1.heap.size) W1 (W1.setCell ⟨w1.heap.size, 5, none⟩ (.int .u32 src2)) := (But.refl (fun b => b = w1.heap.size) W1).setCell (p := ⟨w1.heap.size, 5, none⟩) rfl _
      generalize W1.setCell ⟨w1.heap.size, 5, none⟩ (.int .u32 src2) = W3 at *
      have hw3 : Below w.heap.size w W3 := hwW.trans (E3.below hwW.size (fun k h e => by omega))
      have hD3 := hD.aside a2 (by decide) E3
      have hcz := psd_bad (psd_src x r hxl hr32 dst 6 ((20 + (pad (obs os)).length + zm.length) : Nat)) (by rw [← HXE.out]; exact hgd)
      rw [← HBX.out, HY.out] at hcz
      have hpe : pte 6 src2 dst (tcp sp dp sq ak fl wn ur (pad (obs os)) src dst zm) = 5 := by
        have h5 : ptc 6 src2 dst (tcp sp dp sq ak fl wn ur (pad (obs os)) src dst zm) = 5 := by rw [tcp_ptc _ _ _ _ _ _ _ _ _ _ _ 6 rfl src2 dst (pad_mod _) (pad_le _ hok.2), if_pos hcz]
        unfold pte
        rw [h5]
        rfl
      clear A2 F2 a2
      refine (parseTcp_any tos id ttl 6 src2 dst keep _ _ (tcp sp dp sq ak fl wn ur (pad (obs os)) src dst zm) W3 hBT (by exact hD3.rd) (by rw [tcp_length]; omega) hxr hds).mono ?_
      rw [hpe]
      rintro e w4 ⟨hb4, ⟨_, rfl⟩ | ⟨h5, _⟩⟩
      · have l5 : Later w4 (w4.alloc (.cells zsg.toArray 27)) := (Below.refl _ _).alloc (Nat.le_refl _) _
        have hw5 := hw3.trans ((Later.trans hb4 l5).mono hw3.size)
        clear hpe
        go_wp2_with fail
        refine (live3_any _).mono ?_
        rintro e w6 ⟨rfl, hb6⟩
        have hw6 := hw5.trans (hb6.mono hw5.size)
        go_wp2_with fail
        go_ret
        exact ⟨rfl, hw6⟩
      · exact absurd h5 (by decide)
    · skip
      obtain ⟨x, hxe, hxl, hxb, hxr⟩ := u32_bit dst hds r hr32 pw HPW.out
      have HBX := hide hxb
      have HXE := hide hxe
      clear hxb hxe
      obtain ⟨dst2, HY⟩ : ∃ y, Hid (bits .xor .u32 dst pw = y) := ⟨_, rfl⟩
      rw [HY.out] at hxr
      have A2 := block_cell a2
      have F2 := block_frozen a2
      go_wp2_with (first | (refine wpList_valD 34 rfl rfl (.int .u32 pw) (by go_simp; rw [HSH.out]) ?_) | (refine wpList_valD 35 rfl rfl (.int .u32 dst2) (by go_simp; rw [HY.out]) ?_))
      have a3 : (W1.setCell ⟨w1.heap.size, 6, none⟩ (.int .u32 dst2)).heap[w1.heap.size]? = some (.cells #[.int .u8 tos, .int .u16 id, .bool keep, .int .u8 ttl, .int .u8 6, .int .u32 src, .int .u32 dst2, .slice a7 zo.length c7, .slice a8 (20 + (pad (obs os)).length + zm.length) c8] 36 (0, 0)) := heap_set1 a2 6 _
      have E3 : But (fun b => b = w1.heap.size) W1 (W1.setCell ⟨w1.heap.size, 6, none⟩ (.int .u32 dst2)) := (But.refl (fun b => b = w1.heap.size) W1).setCell (p := ⟨w1.heap.size, 6, none⟩) rfl _
      generalize W1.setCell ⟨w1.heap.size, 6, none⟩ (.int .u32 dst2) = W3 at *
      have hw3 : Below w.heap.size w W3 := hwW.trans (E3.below hwW.size (fun k h e => by omega))
      have hD3 := hD.aside a2 (by decide) E3
      have hcz := psd_bad (psd_dst x r hxl hr32 src 6 ((20 + (pad (obs os)).length + zm.length) : Nat)) (by rw [← HXE.out]; exact hgd)
      rw [← HBX.out, HY.out] at hcz
      have hpe : pte 6 src dst2 (tcp sp dp sq ak fl wn ur (pad (obs os)) src dst zm) = 5 := by
        have h5 : ptc 6 src dst2 (tcp sp dp sq ak fl wn ur (pad (obs os)) src dst zm) = 5 := by rw [tcp_ptc _ _ _ _ _ _ _ _ _ _ _ 6 rfl src dst2 (pad_mod _) (pad_le _ hok.2), if_pos hcz]
        unfold pte
        rw [h5]
        rfl
      clear A2 F2 a2
      refine (parseTcp_any tos id ttl 6 src dst2 keep _ _ (tcp sp dp sq ak fl wn ur (pad (obs os)) src dst zm) W3 hBT (by exact hD3.rd) (by rw [tcp_length]; omega) hsr hxr).mono ?_
      rw [hpe]
      rintro e w4 ⟨hb4, ⟨_, rfl⟩ | ⟨h5, _⟩⟩
      · have l5 : Later w4 (w4.alloc (.cells zsg.toArray 27)) := (Below.refl _ _).alloc (Nat.le_refl _) _
        have hw5 := hw3.trans ((Later.trans hb4 l5).mono hw3.size)
        clear hpe
        go_wp2_with fail
        refine (live3_any _).mono ?_
        rintro e w6 ⟨rfl, hb6⟩
        have hw6 := hw5.trans (hb6.mono hw5.size)
        go_wp2_with fail
        go_ret
        exact ⟨rfl, hw6⟩
      · exact absurd h5 (by decide)
end Go.Proofs.Ytcjigldianobgab
