/- The walk of the law Ipv4Fragments, and its function 'fixed'. -/
import Derived.Test.YtiigmhddnaocoacV5
import Derived.Test.YtiigmhddnaocoacMg
namespace Go.Proofs.Ytiigmhddnaocoac
open Go.RowKit Go.Shelf
set_option linter.unusedVariables false
set_option linter.unusedSimpArgs false

theorem ow_set {base : Nat} {W : World} {g n cap : Nat} {zs : List Int} (h : Ow base W (.slice (some ⟨g, 0, none⟩) n cap) zs) (j : Nat) (hj : j < zs.length) (v : Int) : Ow base (W.setCell ⟨g, j, none⟩ (.int .u8 v)) (.slice (some ⟨g, 0, none⟩) n cap) (zs.set j v) := by
  obtain ⟨g', hg, hn, _, _, hs⟩ := h.at (by omega)
  cases hg
  exact hs j v hj

/-- Other flags, and the sum that fits. -/
def fx0 (zs : List Int) (f : Int) : List Int := (((zs.set 6 (f / 256)).set 7 (f % 256)).set 10 0).set 11 0
def fxd (zs : List Int) (f : Int) (head : Nat) : List Int :=
  ((fx0 zs f).set 10 ((65535 - Mt.fd (Mt.tw true ((fx0 zs f).take head))) / 256)).set 11 ((65535 - Mt.fd (Mt.tw true ((fx0 zs f).take head))) % 256)
theorem fx0_length (zs : List Int) (f : Int) : (fx0 zs f).length = zs.length := by simp [fx0]
theorem fx0_by {zs : List Int} (h : Mt.By zs) {f : Int} (hf : 0 ≤ f ∧ f ≤ 65535) : Mt.By (fx0 zs f) := (((h.set 6 (by omega)).set 7 (by omega)).set 10 (by omega)).set 11 (by omega)

set_option maxHeartbeats 4000000 in
theorem fixed_any (sv : Value) (zs : List Int) (f : Int) (head : Nat) (w : World) (hB : Mt.By zs) (hl : zs.length ≤ 65535) (hI : Rd w.heap.size w sv zs) (hf : 0 ≤ f ∧ f ≤ 65535) (hh : head ≤ zs.length) (hev : head % 2 = 0) (h12 : 12 ≤ head) :
    Calls Try.prog 17 #[sv, .int .u16 f, .int .i64 head] w fun e w' => ∃ v, e = .returned v ∧ Ow w.heap.size w' v (fxd zs f head) ∧ Below w.heap.size w w' := by
  obtain ⟨i0, hi, hz0, hz1, hz2⟩ := info_parts info_u8
  obtain ⟨a, cap, rfl, hl1, hm1⟩ := hI.slice
  have hR1 : Rd w.heap.size (w.alloc (.cells #[] 5)) (.slice a zs.length cap) zs := hI.below ((Below.refl _ w).alloc (Nat.le_refl _) _)
  have hb0 : Below w.heap.size w (w.alloc (.cells #[] 5)) := (Below.refl _ w).alloc (Nat.le_refl _) _
  have i11 : (11 : Int) < zs.length := by omega
  have i10 : (10 : Int) < zs.length := by omega
  have i7 : (7 : Int) < zs.length := by omega
  have i6 : (6 : Int) < zs.length := by omega
  go_enter Try.func17, Try.ntmps17
  go_wp2_with (at_builtin; refine wpList_app _ rfl (.tmp 10) (.tmp 11) 24 rfl w.heap.size 5 i0 Try.underlying24 hi hz0 hz1 hz2 _ [] rfl (own_empty w _) w.heap.size _ zs rfl hR1 (by simp; omega) (by simp) ?_; intro v0 w0 hown0 hg0; have hbw0 := below_app hb0 (own_empty w _) hg0 (Nat.le_refl _) hb0.size; clear hg0; have hO0 := Ow.of_row hown0; clear hown0; simp only [List.nil_append] at hO0; obtain ⟨a0, cap0, rfl, hp0, hm0⟩ := hO0.slice; obtain ⟨g, hgg, hlq0, hgw, hcf, hst0⟩ := hO0.at (by omega); subst hgg; clear hlq0 hst0; obtain ⟨x6, f6⟩ := hcf 6 (by omega); obtain ⟨x7, f7⟩ := hcf 7 (by omega); obtain ⟨x10, f10⟩ := hcf 10 (by omega); obtain ⟨x11, f11⟩ := hcf 11 (by omega); clear hcf)
  have hO4 := ow_set (ow_set (ow_set (ow_set hO0 6 (by omega) (f / 256)) 7 (by simp; omega) (f % 256)) 10 (by simp; omega) 0) 11 (by simp; omega) 0
  have hb4 : Below w.heap.size w ((((w0.setCell ⟨g, 6, none⟩ (.int .u8 (f / 256))).setCell ⟨g, 7, none⟩ (.int .u8 (f % 256))).setCell ⟨g, 10, none⟩ (.int .u8 0)).setCell ⟨g, 11, none⟩ (.int .u8 0)) := (((hbw0.setCell (p := ⟨g, 6, none⟩) hgw _).setCell (p := ⟨g, 7, none⟩) hgw _).setCell (p := ⟨g, 10, none⟩) hgw _).setCell (p := ⟨g, 11, none⟩) hgw _
  have hB4 := fx0_by hB hf
  have hl4' := fx0_length zs f
  have HX : Hid (fxd zs f head = ((fx0 zs f).set 10 ((65535 - Mt.fd (Mt.tw true ((fx0 zs f).take head))) / 256)).set 11 ((65535 - Mt.fd (Mt.tw true ((fx0 zs f).take head))) % 256)) := rfl
  have hO4' : Ow w.heap.size _ _ (fx0 zs f) := hO4
  clear hO4
  generalize (((w0.setCell ⟨g, 6, none⟩ (.int .u8 (f / 256))).setCell ⟨g, 7, none⟩ (.int .u8 (f % 256))).setCell ⟨g, 10, none⟩ (.int .u8 0)).setCell ⟨g, 11, none⟩ (.int .u8 0) = W4 at *
  generalize fx0 zs f = c4 at *
  clear x6 x7 x10 x11 f6 f7 f10 f11 hO0 hR1 hb0 hbw0
  obtain ⟨g', hgg, hlq, _, hcf, hst⟩ := hO4'.at (by omega)
  cases hgg
  have hc4 : ∀ j, j < zs.length → W4.cell? ⟨g, j, none⟩ = some (.int .u8 (c4[j]?.getD 0)) := fun j h => (hcf j (by omega)).1
  have H4 := hide hc4
  have HF := hide hcf
  have HL := hide hl4'
  clear hcf hc4 hlq hst hl4'
  go_loopw [8, 9] (fun s i wr => ∃ k : Nat, 2 * k ≤ head ∧ i = .int .i64 ((2 * k : Nat) : Int) ∧ s = .int .i64 (Mt.tw true (c4.take (2 * k))) ∧ ∃ q, wr = W4.drewN q) (fun _ i _ => head - (intOf i).toNat)
  case atStart => exact ⟨0, by omega, rfl, by simp [Mt.tw], 0, rfl⟩
  case round =>
    obtain ⟨k, hk, rfl, rfl, q, rfl⟩ := hrel
    have ht0 := Mt.tw_nonneg true _ (hB4.take (2 * k))
    have ht1 := Mt.tw_le true _ (hB4.take (2 * k))
    have htl : (c4.take (2 * k)).length = 2 * k := by have := HL.out; simp; omega
    rw [htl] at ht1
    clear htl
    by_cases hlt : 2 * k < head
    · have c0 := H4.out (2 * k) (by omega)
      have c1 := H4.out (2 * k + 1) (by omega)
      have b0 := hB4.at (2 * k)
      have b1 := hB4.at (2 * k + 1)
      have HT : Hid (Mt.tw true (c4.take (2 * (k + 1))) = Mt.tw true (c4.take (2 * k)) + (c4[2 * k]?.getD 0 * 256 + c4[2 * k + 1]?.getD 0)) := Mt.tw_two c4 (2 * k) (by omega) (by have := HL.out; omega)
      have t1 : ((2 * k : Nat) : Int) < head := by omega
      have t2 : ((2 * k : Nat) : Int) < zs.length := by omega
      have t3 : ((2 * k : Nat) : Int) + 1 < zs.length := by omega
      have hk2 : k ≤ 32767 := by omega
      generalize c4[2 * k]?.getD 0 = x at c0 b0 HT
      generalize c4[2 * k + 1]?.getD 0 = y at c1 b1 HT
      generalize Mt.tw true (c4.take (2 * k)) = s at *
      have ht2 : s ≤ 4294967296 := by omega
      clear ht1 hlt
      go_wp2_with fail
      go_quiet (fail)
      go_wp2
      go_roundw
      case rel => exact ⟨k + 1, by omega, by go_num, by rw [HT.out], _, rfl⟩
      case measure => simp [intOf]; omega
    · have hk2 : 2 * k = head := by omega
      subst hk2
      have ht2 : Mt.tw true (c4.take (2 * k)) ≤ 4294967296 := by omega
      generalize hT : Mt.tw true (c4.take (2 * k)) = T at *
      have HT := hide hT
      clear hT
      go_wp2
      go_loop [8] (fun t => ∃ m : Int, 0 ≤ m ∧ m ≤ T ∧ Hid (Mt.fd m = Mt.fd T) ∧ t = .int .i64 m) (fun t => (intOf t).toNat)
      case atStart => exact ⟨T, ht0, by omega, rfl, rfl⟩
      case round =>
        obtain ⟨m, hm0, hm1, hfd, rfl⟩ := hrel
        by_cases hlt2 : 65535 < m
        · go_wp2
          exact ⟨⟨_, by omega, by omega, (Mt.fd_step' m hm0).trans hfd.out, rfl⟩, by simp [intOf]; omega⟩
        · have hmm : Hid (m = Mt.fd T) := (Mt.fd_low m hm0 (by omega)).symm.trans hfd.out
          have x10 := (HF.out 10 (by have := HL.out; omega))
          have x11 := (HF.out 11 (by have := HL.out; omega))
          have y10 := x10.1
          have y11 := x11.1
          have z10 := x10.2
          have z11 := x11.2
          generalize c4[10]?.getD 0 = u10 at y10
          generalize c4[11]?.getD 0 = u11 at y11
          clear x10 x11
          have hq1 : IntKind.u8.wrap ((65535 - m) / 256) = (65535 - m) / 256 := by simp [IntKind.wrap, IntKind.bits, IntKind.signed]; omega
          have hq2 : IntKind.u8.wrap (65535 - m) = (65535 - m) % 256 := by simp [IntKind.wrap, IntKind.bits, IntKind.signed]
          go_wp2
          go_ret
          have hO5 := ow_set (ow_set (hO4'.drew q) 10 (by have := HL.out; omega) ((65535 - m) / 256)) 11 (by have := HL.out; simp; omega) ((65535 - m) % 256)
          refine ⟨_, rfl, ?_, ((below_draw hb4 q).setCell (p := ⟨g, 10, none⟩) hgw _).setCell (p := ⟨g, 11, none⟩) hgw _⟩
          rw [HX.out, ← hmm.out]
          exact hO5

theorem fx0_g (tos id f' ttl proto src dst : Int) (zo zd : List Int) (all s f : Int) : fx0 (g20 tos id f' ttl proto src dst zo.length all s ++ zo ++ zd) f = g20 tos id f ttl proto src dst zo.length all 0 ++ zo ++ zd := by
  unfold fx0 g20; simp
theorem fxd_g (tos id f' ttl proto src dst : Int) (zo zd : List Int) (all s f : Int) : fxd (g20 tos id f' ttl proto src dst zo.length all s ++ zo ++ zd) f (20 + zo.length) =
    g20 tos id f ttl proto src dst zo.length all (65535 - Mt.fd (Mt.tw true (g20 tos id f ttl proto src dst zo.length all 0 ++ zo))) ++ zo ++ zd := by
  unfold fxd
  rw [fx0_g, g_take]
  generalize Mt.fd (Mt.tw true (g20 tos id f ttl proto src dst zo.length all 0 ++ zo)) = x
  unfold g20; simp
theorem good_fx (tos id f ttl proto src dst : Int) (zo : List Int) (all : Int) (hB : Mt.By (g20 tos id f ttl proto src dst zo.length all 0 ++ zo)) :
    Mt.cks (g20 tos id f ttl proto src dst zo.length all (65535 - Mt.fd (Mt.tw true (g20 tos id f ttl proto src dst zo.length all 0 ++ zo))) ++ zo) = 0 := by
  have h0 := Mt.tw_nonneg true _ hB
  have e1 : ∀ s, Mt.tw true (g20 tos id f ttl proto src dst zo.length all s ++ zo) = Mt.tw true (g20 tos id f ttl proto src dst zo.length all 0 ++ zo) + s := fun s => by
    rw [Mt.tw_append, Mt.tw_append, g20_tw, g20_tw, g20_length, g20_length]
    omega
  show 65535 - Mt.fd _ = 0
  rw [e1, Mt.fd_good _ h0]
  omega
theorem flt_fit {lo ld : Nat} (hf : flt lo ld = 0) : lo ≤ 40 ∧ lo % 4 = 0 ∧ 20 + lo + ld ≤ 65535 := by
  unfold flt at hf
  split at hf <;> first | omega | (split at hf <;> omega)

set_option maxHeartbeats 4000000 in
theorem walk_Ipv4Fragments (w : World) (tos id ttl proto src dst : Int) (keep : Bool) (so sd : Value) (zo zd : List Int) (hBo : Mt.By zo) (hBd : Mt.By zd) (hIo : Rd w.heap.size w so zo) (hId : Rd w.heap.size w sd zd) (hlo : zo.length ≤ 140737488355328) (hld : zd.length ≤ 140737488355328)
    (ht : 0 ≤ tos ∧ tos ≤ 255) (hid : 0 ≤ id ∧ id ≤ 65535) (htt : 0 ≤ ttl ∧ ttl ≤ 255) (hpr : 0 ≤ proto ∧ proto ≤ 255) (hsr : 0 ≤ src ∧ src ≤ 4294967295) (hds : 0 ≤ dst ∧ dst ≤ 4294967295)
    (f : Int) (hf : 0 ≤ f ∧ f ≤ 65535) :
    Calls Try.prog 8 #[.agg #[.int .u8 tos, .int .u16 id, .bool keep, .int .u8 ttl, .int .u8 proto, .int .u32 src, .int .u32 dst, so, sd], .int .u16 f] w fun e w' => e = .returned (.bool true) ∧ Below w.heap.size w w' := by
  obtain ⟨ao, co, rfl, hl1, hm1⟩ := hIo.slice
  obtain ⟨ad, cd, rfl, hl2, hm2⟩ := hId.slice
  have hbox : Below w.heap.size w (w.alloc (.cells #[.int .u8 tos, .int .u16 id, .bool keep, .int .u8 ttl, .int .u8 proto, .int .u32 src, .int .u32 dst, .slice ao zo.length co, .slice ad zd.length cd] 26)) := (Below.refl _ _).alloc (Nat.le_refl _) _
  have hcell := cell_new w #[.int .u8 tos, .int .u16 id, .bool keep, .int .u8 ttl, .int .u8 proto, .int .u32 src, .int .u32 dst, .slice ao zo.length co, .slice ad zd.length cd] 26
  by_cases hfl : flt zo.length zd.length = 0
  · have hv := flt_fit hfl
    have H8 := hide hcell
    clear hcell hfl
    go_enter Try.func8, Try.ntmps8
    go_wp2_with fail
    refine (build_yes tos id ttl proto src dst keep _ _ zo zd _ hBo ((hIo.below hbox).mono (by simp)) ((hId.below hbox).mono (by simp)) hv.1 hv.2.1 hv.2.2 ht hid htt hpr hsr hds).mono ?_
    rintro e w1 ⟨v1, rfl, hO1, hb1⟩
    have e1 : hdr tos id keep ttl proto src dst zo (20 + zo.length + zd.length) ++ zd = g20 tos id (if keep then 16384 else 0) ttl proto src dst zo.length (20 + zo.length + zd.length) (hsum tos id keep ttl proto src dst zo (20 + zo.length + zd.length)) ++ zo ++ zd := by rw [hdr_eq, g20_of]
    rw [e1] at hO1
    have hsb : 0 ≤ hsum tos id keep ttl proto src dst zo (20 + zo.length + zd.length) ∧ hsum tos id keep ttl proto src dst zo (20 + zo.length + zd.length) ≤ 65535 := Mt.cks_bd _
    have hfb : 0 ≤ (if keep then (16384 : Int) else 0) ∧ (if keep then (16384 : Int) else 0) ≤ 65535 := by split <;> omega
    clear e1
    generalize hsum tos id keep ttl proto src dst zo (20 + zo.length + zd.length) = s at *
    generalize (if keep then (16384 : Int) else 0) = f0 at *
    have hBb := ((g20_by tos id f0 ttl proto src dst zo.length (20 + zo.length + zd.length) s hv.1 ht hid hfb htt hpr hsr hds (by omega) hsb).append hBo).append hBd
    have hlen : (g20 tos id f0 ttl proto src dst zo.length (20 + zo.length + zd.length) s ++ zo ++ zd).length = 20 + zo.length + zd.length := by rw [List.length_append, g_len]
    have hfx := fxd_g tos id f0 ttl proto src dst zo zd (20 + zo.length + zd.length) s f
    have hB0 := (g20_by tos id f ttl proto src dst zo.length (20 + zo.length + zd.length) 0 hv.1 ht hid hf htt hpr hsr hds (by omega) (by omega)).append hBo
    have hgd := good_fx tos id f ttl proto src dst zo (20 + zo.length + zd.length) hB0
    have hxb := Mt.fd_bd (Mt.tw true (g20 tos id f ttl proto src dst zo.length (20 + zo.length + zd.length) 0 ++ zo))
    generalize hs' : 65535 - Mt.fd (Mt.tw true (g20 tos id f ttl proto src dst zo.length (20 + zo.length + zd.length) 0 ++ zo)) = s' at *
    have hsb' : 0 ≤ s' ∧ s' ≤ 65535 := by omega
    clear hs' hxb hB0
    have hBc := ((g20_by tos id f ttl proto src dst zo.length (20 + zo.length + zd.length) s' hv.1 ht hid hf htt hpr hsr hds (by omega) hsb').append hBo).append hBd
    have hrd := rde_g tos id f ttl proto src dst zo zd (20 + zo.length + zd.length) s' hv.1 hv.2.1 zd.length (by omega) (Nat.le_refl _)
    rw [if_neg (by simp [hgd])] at hrd
    have hw6 := g_w6 tos id f ttl proto src dst zo zd (20 + zo.length + zd.length) s'
    have hlc : (g20 tos id f ttl proto src dst zo.length (20 + zo.length + zd.length) s' ++ zo ++ zd).length = 20 + zo.length + zd.length := by rw [List.length_append, g_len]
    generalize g20 tos id f0 ttl proto src dst zo.length (20 + zo.length + zd.length) s ++ zo ++ zd = bb at *
    generalize g20 tos id f ttl proto src dst zo.length (20 + zo.length + zd.length) s' ++ zo ++ zd = cc at *
    have hI1 := hO1.rd
    obtain ⟨a1, cap1, rfl, hl3, hm3⟩ := hO1.slice
    rw [hlen] at hl3 hI1 hO1 ⊢
    have hw1 := hbox.trans (hb1.mono (by simp))
    have b7 : w1.cell? ⟨w.heap.size, 7, none⟩ = some (.slice ao zo.length co) := (hb1.cell (p := ⟨w.heap.size, 7, none⟩) (by simp)).trans (H8.out 7)
    have t1 : ¬ ((20 + zo.length + zd.length : Nat) : Int) < 20 + zo.length := by omega
    have HL := hide hlen
    have HLC := hide hlc
    have HRD := hide hrd
    have H6 := hide hw6
    have HFX := hide hfx
    clear H8 hgd hlen hlc hrd hw6 hfx
    go_wp2_with fail
    refine (fixed_any _ bb f (20 + zo.length) w1 hBb (by have := HL.out; omega) hI1 hf (by have := HL.out; omega) (by omega) (by omega)).mono ?_
    rintro e w2 ⟨v2, rfl, hO2, hb2⟩
    rw [HFX.out] at hO2
    have hw2 := hw1.trans (hb2.mono hw1.size)
    go_wp2_with fail
    refine (parse_any _ cc w2 hBc (by have := HLC.out; omega) hO2.rd).mono ?_
    rw [HRD.out]
    have ha1 := and14 f hf
    have ha2 := and_top f hf
    have ha3 := and_keep f hf
    by_cases h7 : f % 16384 ≠ 0
    · rw [if_pos h7]
      have t7 : (f % 16384 != 0) = true := by simpa using h7
      rintro e w3 ⟨hb3, ⟨_, rfl⟩ | ⟨h, _⟩⟩
      · have hw3 := (hw2.trans (hb3.mono hw2.size))
        have hA := hw3.alloc hw3.size (.cells zc.toArray 26)
        clear ha2 ha3
        go_wp2_with fail
        refine (live2_any _).mono ?_
        rintro e w4 ⟨rfl, hb4⟩
        go_wp2
        go_ret
        exact ⟨rfl, hA.trans (hb4.mono hA.size)⟩
      · omega
    · rw [if_neg h7]
      have t7 : (f % 16384 != 0) = false := by simpa using h7
      by_cases h8 : 32768 ≤ f
      · rw [if_pos h8] at *
        rintro e w3 ⟨hb3, ⟨_, rfl⟩ | ⟨h, _⟩⟩
        · have hw3 := (hw2.trans (hb3.mono hw2.size))
          have hA := hw3.alloc hw3.size (.cells zc.toArray 26)
          clear ha3
          go_wp2_with fail
          refine (live2_any _).mono ?_
          rintro e w4 ⟨rfl, hb4⟩
          go_wp2
          go_ret
          exact ⟨rfl, hA.trans (hb4.mono hA.size)⟩
        · omega
      · rw [if_neg h8] at *
        rintro e w3 ⟨hb3, ⟨h, _⟩ | ⟨_, so3, sd3, rfl, hO3, hD3⟩⟩
        · exact absurd rfl h
        · have hw3 := (hw2.trans (hb3.mono hw2.size))
          obtain ⟨ao3, co3, rfl, _, _⟩ := hO3.slice
          obtain ⟨ad3, cd3, rfl, _, _⟩ := hD3.slice
          unfold pkt
          rw [H6.out]
          generalize ((cc.take (hl4 cc).toNat).drop 20).length = l3
          generalize ((cc.take (ral false cc).toNat).drop (hl4 cc).toNat).length = l4
          have hkk : ∃ kb : Bool, decide (16384 ≤ f % 32768) = kb ∧ (bits .and .u16 f 16384 != 0) = kb := by
            rw [ha3]
            by_cases hk : 16384 ≤ f % 32768
            · exact ⟨true, by simp [hk], by simp [hk]⟩
            · exact ⟨false, by simp [hk], by simp [hk]⟩
          obtain ⟨kb, hk1, hk2⟩ := hkk
          rw [hk1]
          have HK2 := hide hk2
          clear hk1 hk2 ha3
          generalize cc[1]?.getD 0 = y1
          generalize wat cc 4 = y4
          generalize cc[8]?.getD 0 = y8
          generalize cc[9]?.getD 0 = y9
          generalize wat4 cc 12 = y12
          generalize wat4 cc 16 = y16
          have hA := hw3.alloc hw3.size (.cells #[.int .u8 y1, .int .u16 y4, .bool kb, .int .u8 y8, .int .u8 y9, .int .u32 y12, .int .u32 y16, .slice ao3 l3 co3, .slice ad3 l4 cd3] 26)
          go_wp2_with fail
          refine (live2_any _).mono ?_
          rintro e w4 ⟨rfl, hb4⟩
          have c4 : w4.cell? ⟨w3.heap.size, 2, none⟩ = some (.bool kb) := (hb4.cell (p := ⟨w3.heap.size, 2, none⟩) (by simp)).trans (cell_new w3 _ _ 2)
          have hk2 := HK2.out
          go_wp2
          go_ret
          exact ⟨rfl, hA.trans (hb4.mono hA.size)⟩
  · have hf' : (flt zo.length zd.length != 0) = true := by simp [hfl]
    go_enter Try.func8, Try.ntmps8
    go_wp2_with fail
    refine (build_no tos id ttl proto src dst keep ao ad zo.length co zd.length cd _ hlo hld hfl).mono ?_
    rintro e w1 ⟨rfl, hb1⟩
    clear hfl hcell
    go_wp2_with fail
    refine (live2_any _).mono ?_
    rintro e w2 ⟨rfl, hb2⟩
    go_wp2
    go_ret
    have hw1 := hbox.trans (hb1.mono (by simp))
    exact ⟨rfl, hw1.trans (hb2.mono hw1.size)⟩
end Go.Proofs.Ytiigmhddnaocoac
