/- The walk of SegsBack. -/
import Derived.Test.YtcjigldianobgaaMp
import Derived.Test.YtcjigldianobgaaTB
import Derived.Test.YtcjigldianobgaaTD
import Derived.Test.YtcjigldianobgaaTE
import Derived.Test.YtcjigldianobgaaSS
namespace Go.Proofs.Ytcjigldianobgaa
open Go.RowKit Go.Shelf
set_option maxRecDepth 100000
set_option linter.unusedVariables false
set_option linter.unusedSimpArgs false


set_option maxHeartbeats 16000000 in
theorem walk_SegsBack (w : World) (tos id ttl proto src dst : Int) (keep : Bool) (so sd : Value) (zo zd : List Int) (hBo : Mt.By zo) (hBd : Mt.By zd) (hIo : Rd w.heap.size w so zo) (hId : Rd w.heap.size w sd zd) (h1 : zo.length ≤ 140737488351232) (h2 : zd.length ≤ 140737488351232) (ht : 0 ≤ tos ∧ tos ≤ 255) (hid : 0 ≤ id ∧ id ≤ 65535) (htt : 0 ≤ ttl ∧ ttl ≤ 255) (hpr : 0 ≤ proto ∧ proto ≤ 255) (hsr : 0 ≤ src ∧ src ≤ 4294967295) (hds : 0 ≤ dst ∧ dst ≤ 4294967295)
    (sp dp sq ak fl wn ur : Int) (sO sm : Value) (os : List Opt) (zm : List Int) (hBO : ByO os) (hBm : Mt.By zm) (hIO : RdO w.heap.size w sO os) (hIm : Rd w.heap.size w sm zm) (hlO : ∀ o ∈ os, o.2.length ≤ 140737488351232) (hlm : zm.length ≤ 140737488351232) (hsp : 0 ≤ sp ∧ sp ≤ 65535) (hdp : 0 ≤ dp ∧ dp ≤ 65535) (hsq : 0 ≤ sq ∧ sq ≤ 4294967295) (hak : 0 ≤ ak ∧ ak ≤ 4294967295) (hfl : 0 ≤ fl ∧ fl ≤ 255) (hwn : 0 ≤ wn ∧ wn ≤ 65535) (hur : 0 ≤ ur ∧ ur ≤ 65535)
    (ep gp : Int) (bare : Bool) (sn : Value) (zn : List Int) (hBn : Mt.By zn) (hIn : Rd w.heap.size w sn zn) (hln : zn.length ≤ 140737488351232) (hep : 0 ≤ ep ∧ ep ≤ 65535) (hgp : 0 ≤ gp ∧ gp ≤ 65535) :
    Calls Try.prog 6 #[.agg #[.int .u8 tos, .int .u16 id, .bool keep, .int .u8 ttl, .int .u8 proto, .int .u32 src, .int .u32 dst, so, sd], .agg #[.int .u16 sp, .int .u16 dp, .int .u32 sq, .int .u32 ak, .int .u8 fl, .int .u16 wn, .int .u16 ur, sO, sm], .agg #[.int .u16 ep, .int .u16 gp, .bool bare, sn]] w fun e w' => e = .returned (.bool true) ∧ Below w.heap.size w w' := by
  obtain ⟨ao, co, rfl, _, _⟩ := hIo.slice
  obtain ⟨ad, cd, rfl, _, _⟩ := hId.slice
  obtain ⟨aO, cO, rfl, _, _⟩ := hIO.slice
  obtain ⟨am, cm, rfl, _, _⟩ := hIm.slice
  obtain ⟨an, cn, rfl, _, _⟩ := hIn.slice
  have hb0 : Below w.heap.size w (((w.alloc (.cells #[.int .u8 tos, .int .u16 id, .bool keep, .int .u8 ttl, .int .u8 proto, .int .u32 src, .int .u32 dst, .slice ao zo.length co, .slice ad zd.length cd] 26)).alloc (.cells #[.int .u16 sp, .int .u16 dp, .int .u32 sq, .int .u32 ak, .int .u8 fl, .int .u16 wn, .int .u16 ur, .slice aO os.length cO, .slice am zm.length cm] 29)).alloc (.cells #[.int .u16 ep, .int .u16 gp, .bool bare, .slice an zn.length cn] 37)) := (((Below.refl _ _).alloc (Nat.le_refl _) _).alloc (by simp) _).alloc (by simp <;> omega) _
  have p0 : (((w.alloc (.cells #[.int .u8 tos, .int .u16 id, .bool keep, .int .u8 ttl, .int .u8 proto, .int .u32 src, .int .u32 dst, .slice ao zo.length co, .slice ad zd.length cd] 26)).alloc (.cells #[.int .u16 sp, .int .u16 dp, .int .u32 sq, .int .u32 ak, .int .u8 fl, .int .u16 wn, .int .u16 ur, .slice aO os.length cO, .slice am zm.length cm] 29)).alloc (.cells #[.int .u16 ep, .int .u16 gp, .bool bare, .slice an zn.length cn] 37)).heap[w.heap.size]? = some (.cells #[.int .u8 tos, .int .u16 id, .bool keep, .int .u8 ttl, .int .u8 proto, .int .u32 src, .int .u32 dst, .slice ao zo.length co, .slice ad zd.length cd] 26) := (Below.heap_alloc _ _ _ (by simp <;> omega)).trans ((Below.heap_alloc _ _ _ (by simp)).trans (heap_alloc_new w _))
  have s0 : (((w.alloc (.cells #[.int .u8 tos, .int .u16 id, .bool keep, .int .u8 ttl, .int .u8 proto, .int .u32 src, .int .u32 dst, .slice ao zo.length co, .slice ad zd.length cd] 26)).alloc (.cells #[.int .u16 sp, .int .u16 dp, .int .u32 sq, .int .u32 ak, .int .u8 fl, .int .u16 wn, .int .u16 ur, .slice aO os.length cO, .slice am zm.length cm] 29)).alloc (.cells #[.int .u16 ep, .int .u16 gp, .bool bare, .slice an zn.length cn] 37)).heap[w.heap.size + 1]? = some (.cells #[.int .u16 sp, .int .u16 dp, .int .u32 sq, .int .u32 ak, .int .u8 fl, .int .u16 wn, .int .u16 ur, .slice aO os.length cO, .slice am zm.length cm] 29) := by
    have := heap_alloc_new (w.alloc (.cells #[.int .u8 tos, .int .u16 id, .bool keep, .int .u8 ttl, .int .u8 proto, .int .u32 src, .int .u32 dst, .slice ao zo.length co, .slice ad zd.length cd] 26)) (.cells #[.int .u16 sp, .int .u16 dp, .int .u32 sq, .int .u32 ak, .int .u8 fl, .int .u16 wn, .int .u16 ur, .slice aO os.length cO, .slice am zm.length cm] 29)
    rw [World.size_alloc] at this
    exact (Below.heap_alloc _ _ _ (by simp)).trans this
  have d0 : (((w.alloc (.cells #[.int .u8 tos, .int .u16 id, .bool keep, .int .u8 ttl, .int .u8 proto, .int .u32 src, .int .u32 dst, .slice ao zo.length co, .slice ad zd.length cd] 26)).alloc (.cells #[.int .u16 sp, .int .u16 dp, .int .u32 sq, .int .u32 ak, .int .u8 fl, .int .u16 wn, .int .u16 ur, .slice aO os.length cO, .slice am zm.length cm] 29)).alloc (.cells #[.int .u16 ep, .int .u16 gp, .bool bare, .slice an zn.length cn] 37)).heap[w.heap.size + 1 + 1]? = some (.cells #[.int .u16 ep, .int .u16 gp, .bool bare, .slice an zn.length cn] 37) := by
    have := heap_alloc_new ((w.alloc (.cells #[.int .u8 tos, .int .u16 id, .bool keep, .int .u8 ttl, .int .u8 proto, .int .u32 src, .int .u32 dst, .slice ao zo.length co, .slice ad zd.length cd] 26)).alloc (.cells #[.int .u16 sp, .int .u16 dp, .int .u32 sq, .int .u32 ak, .int .u8 fl, .int .u16 wn, .int .u16 ur, .slice aO os.length cO, .slice am zm.length cm] 29)) (.cells #[.int .u16 ep, .int .u16 gp, .bool bare, .slice an zn.length cn] 37)
    simpa only [World.size_alloc] using this
  have P0 := hide p0
  have S0 := hide s0
  have D0 := hide d0
  clear p0 s0 d0
  go_enter Try.func6, Try.ntmps6
  go_wp2_with fail
  generalize ((w.alloc (.cells #[.int .u8 tos, .int .u16 id, .bool keep, .int .u8 ttl, .int .u8 proto, .int .u32 src, .int .u32 dst, .slice ao zo.length co, .slice ad zd.length cd] 26)).alloc (.cells #[.int .u16 sp, .int .u16 dp, .int .u32 sq, .int .u32 ak, .int .u8 fl, .int .u16 wn, .int .u16 ur, .slice aO os.length cO, .slice am zm.length cm] 29)).alloc (.cells #[.int .u16 ep, .int .u16 gp, .bool bare, .slice an zn.length cn] 37) = W0 at *
  refine (buildTcp_any tos id ttl proto src dst sp dp sq ak fl wn ur keep _ _ _ _ zo zm os W0 hBo ((hIo.below hb0).mono hb0.size) hBm ((hIm.below hb0).mono hb0.size) hBO ((hIO.below hb0).mono hb0.size) (fun o ho => by have := hlO o ho; omega) (by omega) (by omega) ht hid htt hsr hds hsp hdp hsq hak hfl hwn hur).mono ?_
  rintro e w1 ⟨hb1, hT⟩
  have hw1 := hb0.trans (hb1.mono hb0.size)
  have p1 := later_keep hb1 P0.out
  have s1 := later_keep hb1 S0.out
  have d1 := later_keep hb1 D0.out
  clear P0 S0 D0
  rcases hT with ⟨hf, rfl⟩ | ⟨hf, a7, c7, a8, c8, rfl, hO, hD⟩
  · have t1 : (bte os zo.length zm.length == 0) = false := by simp [hf]
    clear hf
    go_upto_region 2 with fail
    generalize hV : w1.alloc _ = W2
    have l2 : Later w1 W2 := by rw [← hV]; exact (Below.refl _ w1).alloc (Nat.le_refl _) _
    have a3 : W2.heap[w1.heap.size]? = some (.cells zcc.toArray 26 (0, 0)) := by rw [← hV]; exact heap_alloc_new w1 _
    clear hV
    have hw2 := hw1.trans (l2.mono hw1.size)
    have p3 := later_keep l2 p1
    have s3 := later_keep l2 s1
    have d3 := later_keep l2 d1
    have K2 := block_cell p3
    have KD := block_cell d3
    go_wp2_with fail
    clear K2 KD
    refine (buildUdp_any tos id ttl proto src dst ep gp keep bare _ _ _ zo zn W2 hBo ((hIo.below hw2).mono hw2.size) hBn ((hIn.below hw2).mono hw2.size) (by omega) (by omega) ht hid htt hsr hds hep hgp).mono ?_
    rintro e u1 ⟨hbu, hU⟩
    have hwu := hw2.trans (hbu.mono hw2.size)
    have pu := later_keep hbu p3
    have su := later_keep hbu s3
    have du := later_keep hbu d3
    have au := later_keep hbu a3
    rcases hU with ⟨hfu, rfl⟩ | ⟨hfu, b7, d7, b8, d8, rfl, hOb, hDb⟩
    · have tu : (flt zo.length (8 + zn.length) == 0) = false := by simp [hfu]
      clear hfu
      go_upto_region 3 with fail
      generalize hV : u1.alloc _ = U2
      have lU2 : Later u1 U2 := by rw [← hV]; exact (Below.refl _ u1).alloc (Nat.le_refl _) _
      have bv : U2.heap[u1.heap.size]? = some (.cells zcc.toArray 26 (0, 0)) := by rw [← hV]; exact heap_alloc_new u1 _
      clear hV
      have hU2 := hwu.trans (lU2.mono hwu.size)
      have pv := later_keep lU2 pu
      have sv := later_keep lU2 su
      have dv := later_keep lU2 du
      have av := later_keep lU2 au
      go_upto_region 7 with fail
      go_wp2_with fail
      refine (live3_any _).mono ?_
      rintro e z9 ⟨rfl, hb9⟩
      have hz9 := hU2.trans (hb9.mono hU2.size)
      go_wp2_with fail
      go_ret
      exact ⟨rfl, hz9⟩
    · have tu : ((0 : Int) == 0) = true := rfl
      obtain ⟨_, _, hallu⟩ := flt_fit2 hfu
      have h8 : 8 + zn.length ≤ 65535 := by omega
      have hBU0 := By_udp0 ep gp zn hep hgp hBn
      have hPU : pue 17 src dst (udp ep gp bare src dst zn) = 0 := by
        rw [udp_pue _ _ _ _ _ _ 17 rfl src dst h8]
        cases bare with
        | true => rw [if_neg (by simp)]
        | false => rw [if_neg (by rw [udp_good _ _ _ _ _ hsr hds hBU0]; simp)]
      have HW6 : Hid ((wat (udp ep gp bare src dst zn) 6 == 0) = bare) := by
        show _ = _
        rw [udp_w6]
        have := usm_bd src dst 17 (udp0 ep gp zn)
        cases bare with
        | true => rfl
        | false => simp; omega
      have HFU : Hid ((flt zo.length (8 + zn.length) == 0) = true) := by show _ = _; simp [hfu]
      clear hfu
      go_upto_region 3 with fail
      generalize hV : u1.alloc _ = U2
      have lU2 : Later u1 U2 := by rw [← hV]; exact (Below.refl _ u1).alloc (Nat.le_refl _) _
      have bv : U2.heap[u1.heap.size]? = some (.cells #[.int .u8 tos, .int .u16 id, .bool keep, .int .u8 ttl, .int .u8 17, .int .u32 src, .int .u32 dst, .slice b7 zo.length d7, .slice b8 (8 + zn.length) d8] 26 (0, 0)) := by rw [← hV]; exact heap_alloc_new u1 _
      clear hV
      have hU2 := hwu.trans (lU2.mono hwu.size)
      have pv := later_keep lU2 pu
      have sv := later_keep lU2 su
      have dv := later_keep lU2 du
      have av := later_keep lU2 au
      have hDb2 := hDb.later lU2
      go_upto_region 7 with fail
      have B1 := block_cell bv
      go_wp2_with fail
      refine (parseUdp_any tos id ttl 17 src dst keep _ _ (udp ep gp bare src dst zn) U2 (By_udp ep gp bare src dst zn hep hgp hBn) (by exact hDb2.rd) (by rw [udp_length]; omega) hsr hds).mono ?_
      rw [hPU, udp_w0, udp_w2, udp_drop, udp_length, Nat.add_sub_cancel_left, HW6.out]
      rintro e y1 ⟨hby, ⟨h0, _⟩ | ⟨_, aR, cR, rfl, hRD⟩⟩
      · exact absurd rfl h0
      have hy1 := hU2.trans (hby.mono hU2.size)
      have py1 := later_keep hby pv
      have dy1 := later_keep hby dv
      have by1 := later_keep hby bv
      clear B1
      go_upto_region 9 with fail
      generalize hV : y1.alloc _ = Y2
      have lY2 : Later y1 Y2 := by rw [← hV]; exact (Below.refl _ y1).alloc (Nat.le_refl _) _
      have r2 : Y2.heap[y1.heap.size]? = some (.cells #[.int .u16 ep, .int .u16 gp, .bool bare, .slice aR zn.length cR] 37 (0, 0)) := by rw [← hV]; exact heap_alloc_new y1 _
      clear hV
      have hy2 := hy1.trans (lY2.mono hy1.size)
      have R2 := block_cell r2
      have D2 := block_cell (later_keep lY2 dy1)
      go_wp2_with fail
      refine (rsameUdp_any ep gp bare ep gp bare _ _ zn zn Y2 hBn hBn (hRD.later lY2).rd ((hIn.below hy2).mono hy2.size)).mono ?_
      rw [smU_self]
      rintro e y3 ⟨rfl, hb3⟩
      have hy3 := hy2.trans (hb3.mono hy2.size)
      have by3 := later_keep hb3 (later_keep lY2 by1)
      have B3 := block_cell by3
      clear R2 D2
      go_wp2_with fail
      refine (rright3_any tos id ttl 17 src dst keep _ _ _ _ _ _ y3 (by omega) (by omega)).mono ?_
      rw [HFU.out]
      rintro e y4 ⟨rfl, hb4⟩
      have hy4 := hy3.trans (hb4.mono hy3.size)
      have B4 := block_cell (later_keep hb4 by3)
      have P4 := block_cell (later_keep hb4 (later_keep hb3 (later_keep lY2 py1)))
      have e1 : (ttl != ttl) = false := by simp
      clear B3
      go_wp2_with fail
      refine (live3_any _).mono ?_
      rintro e z9 ⟨rfl, hb9⟩
      have hz9 := hy4.trans (hb9.mono hy4.size)
      clear e1
      go_wp2_with fail
      go_ret
      exact ⟨rfl, hz9⟩
  · obtain ⟨hok, hlo, hlm4, hall⟩ := bte_fit hf
    have hB0 := By_tcp0 sp dp sq ak fl wn ur (pad (obs os)) zm hsp hdp hsq hak hfl hwn hur (pad_le _ hok.2) (By_pad _ (By_obs os hBO hok.2)) hBm
    have hBT := By_tcp sp dp sq ak fl wn ur (pad (obs os)) src dst zm hB0
    have hPT := tcp_pte sp dp sq ak fl wn ur os src dst zm hok hsr hds hB0
    have HTH : Hid ((thd (tcp sp dp sq ak fl wn ur (pad (obs os)) src dst zm)).toNat = 20 + (pad (obs os)).length) := by show _ = _; rw [tcp_thd _ _ _ _ _ _ _ _ _ _ _ (pad_mod _)]; omega
    have HFT : Hid ((flt zo.length (20 + (pad (obs os)).length + zm.length) == 0) = true) := by
      show _ = _
      unfold bte at hf
      rw [if_pos hok] at hf
      simp [hf]
    clear hf
    go_upto_region 2 with fail
    generalize hV : w1.alloc _ = W2
    have l2 : Later w1 W2 := by rw [← hV]; exact (Below.refl _ w1).alloc (Nat.le_refl _) _
    have a3 : W2.heap[w1.heap.size]? = some (.cells #[.int .u8 tos, .int .u16 id, .bool keep, .int .u8 ttl, .int .u8 6, .int .u32 src, .int .u32 dst, .slice a7 zo.length c7, .slice a8 (20 + (pad (obs os)).length + zm.length) c8] 26 (0, 0)) := by rw [← hV]; exact heap_alloc_new w1 _
    clear hV
    replace hD := hD.later l2
    have hw2 := hw1.trans (l2.mono hw1.size)
    have p3 := later_keep l2 p1
    have s3 := later_keep l2 s1
    have d3 := later_keep l2 d1
    have K2 := block_cell p3
    have KD := block_cell d3
    go_wp2_with fail
    clear K2 KD
    refine (buildUdp_any tos id ttl proto src dst ep gp keep bare _ _ _ zo zn W2 hBo ((hIo.below hw2).mono hw2.size) hBn ((hIn.below hw2).mono hw2.size) (by omega) (by omega) ht hid htt hsr hds hep hgp).mono ?_
    rintro e u1 ⟨hbu, hU⟩
    have hwu := hw2.trans (hbu.mono hw2.size)
    have pu := later_keep hbu p3
    have su := later_keep hbu s3
    have du := later_keep hbu d3
    have au := later_keep hbu a3
    rcases hU with ⟨hfu, rfl⟩ | ⟨hfu, b7, d7, b8, d8, rfl, hOb, hDb⟩
    · have tu : (flt zo.length (8 + zn.length) == 0) = false := by simp [hfu]
      clear hfu
      go_upto_region 3 with fail
      generalize hV : u1.alloc _ = U2
      have lU2 : Later u1 U2 := by rw [← hV]; exact (Below.refl _ u1).alloc (Nat.le_refl _) _
      have bv : U2.heap[u1.heap.size]? = some (.cells zcc.toArray 26 (0, 0)) := by rw [← hV]; exact heap_alloc_new u1 _
      clear hV
      have hU2 := hwu.trans (lU2.mono hwu.size)
      have pv := later_keep lU2 pu
      have sv := later_keep lU2 su
      have dv := later_keep lU2 du
      have av := later_keep lU2 au
      have hDv := (hD.later hbu).later lU2
      go_upto_region 4 with fail
      have A1 := block_cell av
      go_wp2_with fail
      refine (parseTcp_any tos id ttl 6 src dst keep _ _ (tcp sp dp sq ak fl wn ur (pad (obs os)) src dst zm) U2 hBT (by exact hDv.rd) (by rw [tcp_length]; omega) hsr hds).mono ?_
      rw [hPT.1, hPT.2, tcp_w0, tcp_w2, tcp_w4, tcp_w8, tcp_13, tcp_w14, tcp_w18, tcp_length, HTH.out, tcp_drop _ _ _ _ _ _ _ _ _ _ _ _ rfl, show 20 + (pad (obs os)).length + zm.length - (20 + (pad (obs os)).length) = zm.length from by omega]
      rintro e v1 ⟨hbv, ⟨h0, _⟩ | ⟨_, os', aR, cR, aS, cS, hos, rfl, hRO, hRD⟩⟩
      · exact absurd rfl h0
      cases hos
      have hv1 := hU2.trans (hbv.mono hU2.size)
      have pv1 := later_keep hbv pv
      have sv1 := later_keep hbv sv
      have dv1 := later_keep hbv dv
      have av1 := later_keep hbv av
      have bv1 := later_keep hbv bv
      clear A1
      go_upto_region 5 with fail
      generalize hV : v1.alloc _ = V2
      have lV2 : Later v1 V2 := by rw [← hV]; exact (Below.refl _ v1).alloc (Nat.le_refl _) _
      have r2 : V2.heap[v1.heap.size]? = some (.cells #[.int .u16 sp, .int .u16 dp, .int .u32 sq, .int .u32 ak, .int .u8 fl, .int .u16 wn, .int .u16 ur, .slice aR os.length cR, .slice aS zm.length cS] 29 (0, 0)) := by rw [← hV]; exact heap_alloc_new v1 _
      clear hV
      have hv2 := hv1.trans (lV2.mono hv1.size)
      have sv2 := later_keep lV2 sv1
      have R2 := block_cell r2
      have S2 := block_cell sv2
      go_wp2_with fail
      refine (rsameTcp_yes sp dp sq ak fl wn ur _ _ _ _ os zm V2 (hRO.later lV2).rd ((hIO.below hv2).mono hv2.size) (hRD.later lV2).rd ((hIm.below hv2).mono hv2.size)).mono ?_
      rintro e v3 ⟨rfl, hb3⟩
      have hv3 := hv2.trans (hb3.mono hv2.size)
      have av3 := later_keep hb3 (later_keep lV2 av1)
      have A3 := block_cell av3
      clear R2 S2
      go_wp2_with fail
      refine (rright3_any tos id ttl 6 src dst keep _ _ _ _ _ _ v3 (by omega) (by omega)).mono ?_
      rw [HFT.out]
      rintro e v4 ⟨rfl, hb4⟩
      have hv4 := hv3.trans (hb4.mono hv3.size)
      have A4 := block_cell (later_keep hb4 av3)
      have P4 := block_cell (later_keep hb4 (later_keep hb3 (later_keep lV2 pv1)))
      have PV4 := later_keep hb4 (later_keep hb3 (later_keep lV2 pv1))
      have DV4 := later_keep hb4 (later_keep hb3 (later_keep lV2 dv1))
      have BV4 := later_keep hb4 (later_keep hb3 (later_keep lV2 bv1))
      have L4 : Later U2 v4 := Later.trans (Later.trans (Later.trans hbv lV2) hb3) hb4
      have e1 : (src != src) = false := by simp
      have e2 : (dst != dst) = false := by simp
      have e3 : (id != id) = false := by simp
      clear A3 av3 r2 sv2 sv1 pv1 dv1 av1 bv1
      go_upto_region 7 with fail
      clear e1 e2 e3 A4 P4
      go_wp2_with fail
      refine (live3_any _).mono ?_
      rintro e z9 ⟨rfl, hb9⟩
      have hz9 := hv4.trans (hb9.mono hv4.size)
      go_wp2_with fail
      go_ret
      exact ⟨rfl, hz9⟩
    · have tu : ((0 : Int) == 0) = true := rfl
      obtain ⟨_, _, hallu⟩ := flt_fit2 hfu
      have h8 : 8 + zn.length ≤ 65535 := by omega
      have hBU0 := By_udp0 ep gp zn hep hgp hBn
      have hPU : pue 17 src dst (udp ep gp bare src dst zn) = 0 := by
        rw [udp_pue _ _ _ _ _ _ 17 rfl src dst h8]
        cases bare with
        | true => rw [if_neg (by simp)]
        | false => rw [if_neg (by rw [udp_good _ _ _ _ _ hsr hds hBU0]; simp)]
      have HW6 : Hid ((wat (udp ep gp bare src dst zn) 6 == 0) = bare) := by
        show _ = _
        rw [udp_w6]
        have := usm_bd src dst 17 (udp0 ep gp zn)
        cases bare with
        | true => rfl
        | false => simp; omega
      have HFU : Hid ((flt zo.length (8 + zn.length) == 0) = true) := by show _ = _; simp [hfu]
      clear hfu
      go_upto_region 3 with fail
      generalize hV : u1.alloc _ = U2
      have lU2 : Later u1 U2 := by rw [← hV]; exact (Below.refl _ u1).alloc (Nat.le_refl _) _
      have bv : U2.heap[u1.heap.size]? = some (.cells #[.int .u8 tos, .int .u16 id, .bool keep, .int .u8 ttl, .int .u8 17, .int .u32 src, .int .u32 dst, .slice b7 zo.length d7, .slice b8 (8 + zn.length) d8] 26 (0, 0)) := by rw [← hV]; exact heap_alloc_new u1 _
      clear hV
      have hU2 := hwu.trans (lU2.mono hwu.size)
      have pv := later_keep lU2 pu
      have sv := later_keep lU2 su
      have dv := later_keep lU2 du
      have av := later_keep lU2 au
      have hDb2 := hDb.later lU2
      have hDv := (hD.later hbu).later lU2
      go_upto_region 4 with fail
      have A1 := block_cell av
      go_wp2_with fail
      refine (parseTcp_any tos id ttl 6 src dst keep _ _ (tcp sp dp sq ak fl wn ur (pad (obs os)) src dst zm) U2 hBT (by exact hDv.rd) (by rw [tcp_length]; omega) hsr hds).mono ?_
      rw [hPT.1, hPT.2, tcp_w0, tcp_w2, tcp_w4, tcp_w8, tcp_13, tcp_w14, tcp_w18, tcp_length, HTH.out, tcp_drop _ _ _ _ _ _ _ _ _ _ _ _ rfl, show 20 + (pad (obs os)).length + zm.length - (20 + (pad (obs os)).length) = zm.length from by omega]
      rintro e v1 ⟨hbv, ⟨h0, _⟩ | ⟨_, os', aR, cR, aS, cS, hos, rfl, hRO, hRD⟩⟩
      · exact absurd rfl h0
      cases hos
      have hv1 := hU2.trans (hbv.mono hU2.size)
      have pv1 := later_keep hbv pv
      have sv1 := later_keep hbv sv
      have dv1 := later_keep hbv dv
      have av1 := later_keep hbv av
      have bv1 := later_keep hbv bv
      clear A1
      go_upto_region 5 with fail
      generalize hV : v1.alloc _ = V2
      have lV2 : Later v1 V2 := by rw [← hV]; exact (Below.refl _ v1).alloc (Nat.le_refl _) _
      have r2 : V2.heap[v1.heap.size]? = some (.cells #[.int .u16 sp, .int .u16 dp, .int .u32 sq, .int .u32 ak, .int .u8 fl, .int .u16 wn, .int .u16 ur, .slice aR os.length cR, .slice aS zm.length cS] 29 (0, 0)) := by rw [← hV]; exact heap_alloc_new v1 _
      clear hV
      have hv2 := hv1.trans (lV2.mono hv1.size)
      have sv2 := later_keep lV2 sv1
      have R2 := block_cell r2
      have S2 := block_cell sv2
      go_wp2_with fail
      refine (rsameTcp_yes sp dp sq ak fl wn ur _ _ _ _ os zm V2 (hRO.later lV2).rd ((hIO.below hv2).mono hv2.size) (hRD.later lV2).rd ((hIm.below hv2).mono hv2.size)).mono ?_
      rintro e v3 ⟨rfl, hb3⟩
      have hv3 := hv2.trans (hb3.mono hv2.size)
      have av3 := later_keep hb3 (later_keep lV2 av1)
      have A3 := block_cell av3
      clear R2 S2
      go_wp2_with fail
      refine (rright3_any tos id ttl 6 src dst keep _ _ _ _ _ _ v3 (by omega) (by omega)).mono ?_
      rw [HFT.out]
      rintro e v4 ⟨rfl, hb4⟩
      have hv4 := hv3.trans (hb4.mono hv3.size)
      have A4 := block_cell (later_keep hb4 av3)
      have P4 := block_cell (later_keep hb4 (later_keep hb3 (later_keep lV2 pv1)))
      have PV4 := later_keep hb4 (later_keep hb3 (later_keep lV2 pv1))
      have DV4 := later_keep hb4 (later_keep hb3 (later_keep lV2 dv1))
      have BV4 := later_keep hb4 (later_keep hb3 (later_keep lV2 bv1))
      have L4 : Later U2 v4 := Later.trans (Later.trans (Later.trans hbv lV2) hb3) hb4
      have e1 : (src != src) = false := by simp
      have e2 : (dst != dst) = false := by simp
      have e3 : (id != id) = false := by simp
      clear A3 av3 r2 sv2 sv1 pv1 dv1 av1 bv1
      go_upto_region 7 with fail
      clear e1 e2 e3 A4 P4
      have B1 := block_cell BV4
      go_wp2_with fail
      refine (parseUdp_any tos id ttl 17 src dst keep _ _ (udp ep gp bare src dst zn) v4 (By_udp ep gp bare src dst zn hep hgp hBn) (by exact (hDb2.later L4).rd) (by rw [udp_length]; omega) hsr hds).mono ?_
      rw [hPU, udp_w0, udp_w2, udp_drop, udp_length, Nat.add_sub_cancel_left, HW6.out]
      rintro e y1 ⟨hby, ⟨h0, _⟩ | ⟨_, aR, cR, rfl, hRD⟩⟩
      · exact absurd rfl h0
      have hy1 := hv4.trans (hby.mono hv4.size)
      have py1 := later_keep hby PV4
      have dy1 := later_keep hby DV4
      have by1 := later_keep hby BV4
      clear B1
      go_upto_region 9 with fail
      generalize hV : y1.alloc _ = Y2
      have lY2 : Later y1 Y2 := by rw [← hV]; exact (Below.refl _ y1).alloc (Nat.le_refl _) _
      have r2 : Y2.heap[y1.heap.size]? = some (.cells #[.int .u16 ep, .int .u16 gp, .bool bare, .slice aR zn.length cR] 37 (0, 0)) := by rw [← hV]; exact heap_alloc_new y1 _
      clear hV
      have hy2 := hy1.trans (lY2.mono hy1.size)
      have R2 := block_cell r2
      have D2 := block_cell (later_keep lY2 dy1)
      go_wp2_with fail
      refine (rsameUdp_any ep gp bare ep gp bare _ _ zn zn Y2 hBn hBn (hRD.later lY2).rd ((hIn.below hy2).mono hy2.size)).mono ?_
      rw [smU_self]
      rintro e y3 ⟨rfl, hb3⟩
      have hy3 := hy2.trans (hb3.mono hy2.size)
      have by3 := later_keep hb3 (later_keep lY2 by1)
      have B3 := block_cell by3
      clear R2 D2
      go_wp2_with fail
      refine (rright3_any tos id ttl 17 src dst keep _ _ _ _ _ _ y3 (by omega) (by omega)).mono ?_
      rw [HFU.out]
      rintro e y4 ⟨rfl, hb4⟩
      have hy4 := hy3.trans (hb4.mono hy3.size)
      have B4 := block_cell (later_keep hb4 by3)
      have P4 := block_cell (later_keep hb4 (later_keep hb3 (later_keep lY2 py1)))
      have e1 : (ttl != ttl) = false := by simp
      clear B3
      go_wp2_with fail
      refine (live3_any _).mono ?_
      rintro e z9 ⟨rfl, hb9⟩
      have hz9 := hy4.trans (hb9.mono hy4.size)
      clear e1
      go_wp2_with fail
      go_ret
      exact ⟨rfl, hz9⟩
end Go.Proofs.Ytcjigldianobgaa
