/- The walk of the law TopHops. -/
import Derived.Test.YtiigmhddnaocoadV5
import Derived.Test.YtiigmhddnaocoadMg
namespace Go.Proofs.Ytiigmhddnaocoad
open Go.RowKit Go.Shelf
set_option linter.unusedVariables false
set_option linter.unusedSimpArgs false

theorem flt_fit {lo ld : Nat} (hf : flt lo ld = 0) : lo ≤ 40 ∧ lo % 4 = 0 ∧ 20 + lo + ld ≤ 65535 := by
  unfold flt at hf
  split at hf <;> first | omega | (split at hf <;> omega)

/-- One hop less, the sum patched. -/
theorem hop_bytes (tos id f ttl proto src dst : Int) (zo zd : List Int) (all s s' : Int) (hp : 0 ≤ proto ∧ proto ≤ 255) :
    putAt2 (putAt2 (g20 tos id f ttl proto src dst zo.length all s ++ zo ++ zd) 8 (ttl * 256 + proto - 256)) 10 s' = g20 tos id f (ttl - 1) proto src dst zo.length all s' ++ zo ++ zd := by
  rw [putAt2_lit _ 8 8 _ rfl (by simp [g20]), putAt2_lit _ 10 10 _ rfl (by simp [Mt.put2_length, g20])]
  unfold g20
  simp [Mt.put2]
  omega
theorem hop_good (tos id f ttl proto src dst : Int) (zo : List Int) (all s : Int) (hB : Mt.By zo) (hg : Mt.cks (g20 tos id f ttl proto src dst zo.length all s ++ zo) = 0) (hs : 0 ≤ s ∧ s ≤ 65535) (ht : 1 ≤ ttl ∧ ttl ≤ 255) (hp : 0 ≤ proto ∧ proto ≤ 255) (h1 : 0 ≤ tos) (h2 : 0 ≤ id) (h3 : 0 ≤ f) (h4 : 0 ≤ all) (h5 : 0 ≤ src) (h6 : 0 ≤ dst) :
    Mt.cks (g20 tos id f (ttl - 1) proto src dst zo.length all (65535 - Mt.fd (65535 - s + (65535 - (ttl * 256 + proto)) + (ttl * 256 + proto - 256))) ++ zo) = 0 := by
  have hb := Mt.fd_bd (65535 - s + (65535 - (ttl * 256 + proto)) + (ttl * 256 + proto - 256))
  have hz := Mt.tw_nonneg (Mt.turn true 20) zo hB
  obtain ⟨k1, k2⟩ := good_to _ hg
  rw [Mt.tw_append, g20_tw, g20_length] at k1 k2
  have hm : (65535 - Mt.fd (65535 - s + (65535 - (ttl * 256 + proto)) + (ttl * 256 + proto - 256))) % 65535 = (s + 256) % 65535 := by
    unfold Mt.fd
    split <;> omega
  have hs0 : 0 ≤ 65535 - Mt.fd (65535 - s + (65535 - (ttl * 256 + proto)) + (ttl * 256 + proto - 256)) := by omega
  generalize 65535 - Mt.fd (65535 - s + (65535 - (ttl * 256 + proto)) + (ttl * 256 + proto - 256)) = s' at *
  refine good_of _ ?_ ?_
  · rw [Mt.tw_append, g20_tw, g20_length]
    omega
  · rw [Mt.tw_append, g20_tw, g20_length]
    omega

set_option maxHeartbeats 4000000 in
theorem walk_TopHops (w : World) (tos id ttl proto src dst : Int) (keep : Bool) (so sd : Value) (zo zd : List Int) (hBo : Mt.By zo) (hBd : Mt.By zd) (hIo : Rd w.heap.size w so zo) (hId : Rd w.heap.size w sd zd) (hlo : zo.length ≤ 140737488355328) (hld : zd.length ≤ 140737488355328)
    (ht : 0 ≤ tos ∧ tos ≤ 255) (hid : 0 ≤ id ∧ id ≤ 65535) (htt : 0 ≤ ttl ∧ ttl ≤ 255) (hpr : 0 ≤ proto ∧ proto ≤ 255) (hsr : 0 ≤ src ∧ src ≤ 4294967295) (hds : 0 ≤ dst ∧ dst ≤ 4294967295) :
    Calls Try.prog 5 #[.agg #[.int .u8 tos, .int .u16 id, .bool keep, .int .u8 ttl, .int .u8 proto, .int .u32 src, .int .u32 dst, so, sd]] w fun e w' => e = .returned (.bool true) ∧ Below w.heap.size w w' := by
  obtain ⟨ao, co, rfl, hl1, hm1⟩ := hIo.slice
  obtain ⟨ad, cd, rfl, hl2, hm2⟩ := hId.slice
  have hbox : Below w.heap.size w (w.alloc (.cells #[.int .u8 tos, .int .u16 id, .bool keep, .int .u8 ttl, .int .u8 proto, .int .u32 src, .int .u32 dst, .slice ao zo.length co, .slice ad zd.length cd] 26)) := (Below.refl _ _).alloc (Nat.le_refl _) _
  have hblk := heap_alloc_new w (.cells #[.int .u8 tos, .int .u16 id, .bool keep, .int .u8 ttl, .int .u8 proto, .int .u32 src, .int .u32 dst, .slice ao zo.length co, .slice ad zd.length cd] 26)
  have hsz : (w.alloc (.cells #[.int .u8 tos, .int .u16 id, .bool keep, .int .u8 ttl, .int .u8 proto, .int .u32 src, .int .u32 dst, .slice ao zo.length co, .slice ad zd.length cd] 26)).heap.size = w.heap.size + 1 := by simp
  by_cases hf : flt zo.length zd.length = 0
  · have hv := flt_fit hf
    have HK := hide hblk
    clear hf hblk
    go_enter Try.func5, Try.ntmps5
    go_wp2_with fail
    refine (build_yes tos id ttl proto src dst keep _ _ zo zd _ hBo ((hIo.below hbox).mono (by simp)) ((hId.below hbox).mono (by simp)) hv.1 hv.2.1 hv.2.2 ht hid htt hpr hsr hds).mono ?_
    rintro e w1 ⟨v1, rfl, hO1, hb1⟩
    have k1 := (hb1.block w.heap.size (by simp)).trans HK.out
    have c1 := block_cell k1
    have hw1 := hbox.trans (hb1.mono (by simp))
    by_cases h0 : ttl = 0
    · subst h0
      go_wp2_with fail
      refine (build_yes 0 0 1 0 0 0 false _ _ [] [] _ Mt.By.nil (rd_zero _) (rd_zero _) (by simp) (by simp) (by simp) (by omega) (by omega) (by omega) (by omega) (by omega) (by omega)).mono ?_
      rintro e w2 ⟨v2, rfl, hO2, hb2⟩
      obtain ⟨a2, cap2, rfl, hl2', hm2'⟩ := hO2.slice
      have hlen : (hdr 0 0 false 1 0 0 0 [] (20 + ([] : List Int).length + ([] : List Int).length) ++ []).length = 20 := by rw [List.length_append, hdr_len]; rfl
      rw [hlen]
      go_wp2
      go_ret
      exact ⟨rfl, hw1.trans (hb2.mono hw1.size)⟩
    · have t0 : (ttl == 0) = false := by simp [h0]
      have e1 : hdr tos id keep ttl proto src dst zo (20 + zo.length + zd.length) ++ zd = g20 tos id (if keep then 16384 else 0) ttl proto src dst zo.length (20 + zo.length + zd.length) (hsum tos id keep ttl proto src dst zo (20 + zo.length + zd.length)) ++ zo ++ zd := by rw [hdr_eq, g20_of]
      have hgood := hdr_good tos id keep ttl proto src dst zo (20 + zo.length + zd.length) ((h20_by tos id keep ttl proto src dst zo.length (20 + zo.length + zd.length) 0 hv.1 ht hid htt hpr hsr hds (by omega) (by omega)).append hBo)
      have e2 : hdr tos id keep ttl proto src dst zo (20 + zo.length + zd.length) = g20 tos id (if keep then 16384 else 0) ttl proto src dst zo.length (20 + zo.length + zd.length) (hsum tos id keep ttl proto src dst zo (20 + zo.length + zd.length)) ++ zo := by rw [hdr_eq, g20_of]
      rw [e1] at hO1
      rw [e2] at hgood
      have hsb : 0 ≤ hsum tos id keep ttl proto src dst zo (20 + zo.length + zd.length) ∧ hsum tos id keep ttl proto src dst zo (20 + zo.length + zd.length) ≤ 65535 := Mt.cks_bd _
      clear e1 e2
      generalize hsum tos id keep ttl proto src dst zo (20 + zo.length + zd.length) = s at *
      have hfb : 0 ≤ (if keep then (16384 : Int) else 0) ∧ (if keep then (16384 : Int) else 0) ≤ 65535 := by split <;> omega
      have hfr : (if keep then (16384 : Int) else 0) % 16384 = 0 ∧ ¬ 32768 ≤ (if keep then (16384 : Int) else 0) := by split <;> omega
      have Hpk := fun so sd s' => g_pkt tos id keep (ttl - 1) proto src dst zo zd (20 + zo.length + zd.length) s' so sd
      generalize (if keep then (16384 : Int) else 0) = f at *
      have hBb := ((g20_by tos id f ttl proto src dst zo.length (20 + zo.length + zd.length) s hv.1 ht hid hfb htt hpr hsr hds (by omega) hsb).append hBo).append hBd
      have hlen : (g20 tos id f ttl proto src dst zo.length (20 + zo.length + zd.length) s ++ zo ++ zd).length = 20 + zo.length + zd.length := by rw [List.length_append, g_len]
      have hw8 : wat (g20 tos id f ttl proto src dst zo.length (20 + zo.length + zd.length) s ++ zo ++ zd) 8 = ttl * 256 + proto := by unfold wat g20; simp
      have hw10 : wat (g20 tos id f ttl proto src dst zo.length (20 + zo.length + zd.length) s ++ zo ++ zd) 10 = s := by unfold wat g20; simp; omega
      have hhop := hop_bytes tos id f ttl proto src dst zo zd (20 + zo.length + zd.length) s (65535 - Mt.fd (65535 - s + (65535 - (ttl * 256 + proto)) + (ttl * 256 + proto - 256))) hpr
      have hgd := hop_good tos id f ttl proto src dst zo (20 + zo.length + zd.length) s hBo hgood hsb (by omega) hpr ht.1 hid.1 hfb.1 (by omega) hsr.1 hds.1
      have hBc := ((g20_by tos id f (ttl - 1) proto src dst zo.length (20 + zo.length + zd.length) (65535 - Mt.fd (65535 - s + (65535 - (ttl * 256 + proto)) + (ttl * 256 + proto - 256))) hv.1 ht hid hfb (by omega) hpr hsr hds (by omega) (by have := Mt.fd_bd (65535 - s + (65535 - (ttl * 256 + proto)) + (ttl * 256 + proto - 256)); omega)).append hBo).append hBd
      have hrd := rde_g tos id f (ttl - 1) proto src dst zo zd (20 + zo.length + zd.length) (65535 - Mt.fd (65535 - s + (65535 - (ttl * 256 + proto)) + (ttl * 256 + proto - 256))) hv.1 hv.2.1 zd.length (by omega) (Nat.le_refl _)
      have hfd := Mt.fd_bd (65535 - s + (65535 - (ttl * 256 + proto)) + (ttl * 256 + proto - 256))
      rw [if_neg (by simp [hgd]), if_neg (by simp [hfr.1]), if_neg hfr.2] at hrd
      generalize g20 tos id f ttl proto src dst zo.length (20 + zo.length + zd.length) s ++ zo ++ zd = bb at *
      have hI1 := hO1.rd
      obtain ⟨a1, cap1, rfl, hl3, hm3⟩ := hO1.slice
      rw [hlen] at hl3 hI1 hO1 ⊢
      have Hgood := hide hgood
      clear hgood
      go_wp2_with fail
      refine (get16_rd _ bb hBb 8 (by omega) w1 hI1).mono ?_
      rintro e w2 ⟨rfl, q, rfl⟩
      rw [hw8]
      have hsub : IntKind.u16.wrap (ttl * 256 + proto - 256) = ttl * 256 + proto - 256 := by simp [IntKind.wrap, IntKind.bits, IntKind.signed]; omega
      go_wp2_with fail
      refine (put16_any _ bb 8 (ttl * 256 + proto - 256) (w1.drewN q) (by omega) (hI1.drew q) (by omega)).mono ?_
      rintro e w3 ⟨a3, rfl, hO3, hb3⟩
      rw [hlen] at hO3 ⊢
      have hb3' : Below w1.heap.size w1 w3 := (below_draw (Below.refl _ w1) q).trans hb3
      have hI3 := hI1.below hb3'
      go_wp2_with fail
      refine (get16_rd _ bb hBb 10 (by omega) w3 hI3).mono ?_
      rintro e w4 ⟨rfl, q4, rfl⟩
      rw [hw10]
      go_wp2_with fail
      refine (patch_any s (ttl * 256 + proto) (ttl * 256 + proto - 256) _ hsb (by omega) (by omega)).mono ?_
      rintro e w5 ⟨rfl, rfl⟩
      have hO4 : Ow w1.heap.size (w3.drewN q4) _ _ := hO3.drew q4
      have hlp := putAt2_length bb 8 (ttl * 256 + proto - 256)
      go_wp2_with fail
      refine (put16_any _ (putAt2 bb 8 (ttl * 256 + proto - 256)) 10 (65535 - Mt.fd (65535 - s + (65535 - (ttl * 256 + proto)) + (ttl * 256 + proto - 256))) (w3.drewN q4) (by omega) hO4.rd (by omega)).mono ?_
      rintro e w6 ⟨a6, rfl, hO6, hb6⟩
      rw [hlp, hlen] at hO6 ⊢
      rw [hhop] at hO6
      have hb6' : Below w1.heap.size w1 w6 := (below_draw hb3' q4).trans (hb6.mono hb3'.size)
      clear hlp hhop
      generalize 65535 - Mt.fd (65535 - s + (65535 - (ttl * 256 + proto)) + (ttl * 256 + proto - 256)) = s' at *
      have g1 := g_hl4 tos id f (ttl - 1) proto src dst zo zd (20 + zo.length + zd.length) s' hv.1 hv.2.1
      have g2 := g_take tos id f (ttl - 1) proto src dst zo zd (20 + zo.length + zd.length) s'
      have g3 := g_opts tos id f (ttl - 1) proto src dst zo (20 + zo.length + zd.length) s'
      have g4 := g_drop tos id f (ttl - 1) proto src dst zo zd (20 + zo.length + zd.length) s'
      have g5 : wat (g20 tos id f (ttl - 1) proto src dst zo.length (20 + zo.length + zd.length) s' ++ zo ++ zd) 2 = 20 + zo.length + zd.length := by unfold wat g20; simp; omega
      have g6 : (g20 tos id f (ttl - 1) proto src dst zo.length (20 + zo.length + zd.length) s' ++ zo ++ zd).length = 20 + zo.length + zd.length := by rw [List.length_append, g_len]
      have Hpk' := fun so sd => Hpk so sd s'
      generalize g20 tos id f (ttl - 1) proto src dst zo.length (20 + zo.length + zd.length) s' ++ zo = hh at *
      generalize hh ++ zd = cc at *
      go_wp2_with fail
      refine (parse_any _ cc w6 hBc (by omega) hO6.rd).mono ?_
      rintro e w7 ⟨hb7, ⟨h7, _⟩ | ⟨_, so7, sd7, rfl, hOo, hOd⟩⟩
      · exact absurd hrd h7
      rw [Hpk']
      have g7 : (cc.take (hl4 cc).toNat).drop 20 = zo := by rw [g1, Int.toNat_natCast, g2, g3]
      have g8 : (cc.take (ral false cc).toNat).drop (hl4 cc).toNat = zd := by
        rw [g1, Int.toNat_natCast, show ral false cc = 20 + zo.length + zd.length from by simp [ral, g5], List.take_of_length_le (by omega), g4]
      rw [g7] at hOo
      rw [g8] at hOd
      obtain ⟨ao7, co7, rfl, _, _⟩ := hOo.slice
      obtain ⟨ad7, cd7, rfl, _, _⟩ := hOd.slice
      have hb7' := hb6'.trans (hb7.mono hb6'.size)
      have k7 := (hb7'.block w.heap.size (Array.getElem?_eq_some_iff.1 k1).1).trans k1
      have hw7 := hw1.trans (hb7'.mono hw1.size)
      clear Hpk Hpk' hrd hgd g1 g2 g3 g4 g5 g6 g7 g8
      have hA8 : Later w7 (w7.alloc (.cells #[.int .u8 tos, .int .u16 id, .bool keep, .int .u8 (ttl - 1), .int .u8 proto, .int .u32 src, .int .u32 dst, .slice ao7 zo.length co7, .slice ad7 zd.length cd7] 26)) := (Below.refl _ _).alloc (Nat.le_refl _) _
      have k8 := (hA8.block w.heap.size (Array.getElem?_eq_some_iff.1 k7).1).trans k7
      have K8 := block_cell k8
      have F8 := block_frozen k8
      have hne : w.heap.size < w7.heap.size := (Array.getElem?_eq_some_iff.1 k7).1
      have hne' : ¬ w.heap.size = w7.heap.size := by omega
      have hne2 : ¬ w7.heap.size = w.heap.size := by omega
      have k9 : (w7.setCell ⟨w.heap.size, 3, none⟩ (.int .u8 (ttl - 1))).heap[w.heap.size]? = some (.cells #[.int .u8 tos, .int .u16 id, .bool keep, .int .u8 (ttl - 1), .int .u8 proto, .int .u32 src, .int .u32 dst, .slice ao zo.length co, .slice ad zd.length cd] 26 (0, 0)) := heap_set1 k7 3 (.int .u8 (ttl - 1))
      have hs9 : (w7.setCell ⟨w.heap.size, 3, none⟩ (.int .u8 (ttl - 1))).heap.size = w7.heap.size := by simp [World.setCell]
      have hA9 : Later (w7.setCell ⟨w.heap.size, 3, none⟩ (.int .u8 (ttl - 1))) ((w7.setCell ⟨w.heap.size, 3, none⟩ (.int .u8 (ttl - 1))).alloc (.cells #[.int .u8 tos, .int .u16 id, .bool keep, .int .u8 (ttl - 1), .int .u8 proto, .int .u32 src, .int .u32 dst, .slice ao7 zo.length co7, .slice ad7 zd.length cd7] 26)) := (Below.refl _ _).alloc (Nat.le_refl _) _
      have k10 := (hA9.block w.heap.size (Array.getElem?_eq_some_iff.1 k9).1).trans k9
      have K10 := block_cell k10
      have k11 := heap_alloc_new (w7.setCell ⟨w.heap.size, 3, none⟩ (.int .u8 (ttl - 1))) (.cells #[.int .u8 tos, .int .u16 id, .bool keep, .int .u8 (ttl - 1), .int .u8 proto, .int .u32 src, .int .u32 dst, .slice ao7 zo.length co7, .slice ad7 zd.length cd7] 26)
      rw [hs9] at k11
      have K11 := block_cell k11
      have hsub8 : IntKind.u8.wrap (ttl - 1) = ttl - 1 := by simp [IntKind.wrap, IntKind.bits, IntKind.signed]; omega
      have hsub9 : (ttl - 1) % 256 = ttl - 1 := by omega
      go_wp2_with fail
      have hE7 : But (fun b => b = w.heap.size) w7 (w7.setCell ⟨w.heap.size, 3, none⟩ (.int .u8 (ttl - 1))) := (But.refl (fun b => b = w.heap.size) w7).setCell (p := ⟨w.heap.size, 3, none⟩) (E := fun b => b = w.heap.size) rfl _
      have hs6 : w.heap.size < w6.heap.size := Nat.lt_of_lt_of_le (Array.getElem?_eq_some_iff.1 k1).1 hb6'.size
      have hOoX := (hOo.but hE7 (fun b h e => by omega)).below hA9 (Nat.le_refl _)
      have hOdX := (hOd.but hE7 (fun b h e => by omega)).below hA9 (Nat.le_refl _)
      have hwX : Below w.heap.size w _ := (hw7.setCell (p := ⟨w.heap.size, 3, none⟩) (Nat.le_refl _) (.int .u8 (ttl - 1))).trans (hA9.mono (by rw [hs9]; omega))
      clear K10 K11 K8 F8 k8 k9 k10 k11 hA8
      refine (same_any tos id (ttl - 1) proto src dst tos id (ttl - 1) proto src dst keep keep _ _ _ _ zo zd zo zd _ hBo hBd hBo hBd ((hIo.below hwX).mono hwX.size) ((hId.below hwX).mono hwX.size) hOoX.rd hOdX.rd).mono ?_
      rintro e w9 ⟨rfl, hb9⟩
      rw [show smP tos id (ttl - 1) proto src dst tos id (ttl - 1) proto src dst keep keep zo zd zo zd = true from by simp [smP]]
      go_wp2
      go_ret
      exact ⟨rfl, hwX.trans (hb9.mono hwX.size)⟩
  · have hf' : (flt zo.length zd.length != 0) = true := by simp [hf]
    go_enter Try.func5, Try.ntmps5
    go_wp2_with fail
    refine (build_no tos id ttl proto src dst keep ao ad zo.length co zd.length cd _ hlo hld hf).mono ?_
    rintro e w1 ⟨rfl, hb1⟩
    clear hf hblk
    go_wp2_with fail
    refine (build_yes 0 0 1 0 0 0 false _ _ [] [] _ Mt.By.nil (rd_zero _) (rd_zero _) (by simp) (by simp) (by simp) (by omega) (by omega) (by omega) (by omega) (by omega) (by omega)).mono ?_
    rintro e w2 ⟨v2, rfl, hO2, hb2⟩
    obtain ⟨a2, cap2, rfl, hl2', hm2'⟩ := hO2.slice
    have hlen : (hdr 0 0 false 1 0 0 0 [] (20 + ([] : List Int).length + ([] : List Int).length) ++ []).length = 20 := by rw [List.length_append, hdr_len]; rfl
    rw [hlen]
    go_wp2
    go_ret
    have hw1 := hbox.trans (hb1.mono (by simp))
    exact ⟨rfl, hw1.trans (hb2.mono hw1.size)⟩
end Go.Proofs.Ytiigmhddnaocoad
