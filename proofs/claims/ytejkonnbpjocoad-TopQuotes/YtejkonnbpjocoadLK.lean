/- The walk of the law TopQuotes. -/
import Derived.Test.YtejkonnbpjocoadV5
import Derived.Test.YtejkonnbpjocoadMg
import Derived.Test.YtejkonnbpjocoadRh
import Derived.Test.YtejkonnbpjocoadCC
namespace Go.Proofs.Ytejkonnbpjocoad
open Go.RowKit Go.Shelf
set_option maxRecDepth 100000
set_option linter.unusedVariables false
set_option linter.unusedSimpArgs false

theorem flt_fit {lo ld : Nat} (hf : flt lo ld = 0) : lo ≤ 40 ∧ lo % 4 = 0 ∧ 20 + lo + ld ≤ 65535 := by
  unfold flt at hf
  split at hf <;> first | omega | (split at hf <;> omega)
theorem flt_of {lo ld : Nat} (h : lo ≤ 40 ∧ lo % 4 = 0 ∧ 20 + lo + ld ≤ 65535) : flt lo ld = 0 := by
  unfold flt
  rw [if_neg (by omega), if_neg (by omega)]

/-- A message's check sum is good. -/
theorem icm_good (ty cde rest : Int) (zd : List Int) (h1 : 0 ≤ ty ∧ ty ≤ 255) (h2 : 0 ≤ cde ∧ cde ≤ 255) (h3 : 0 ≤ rest ∧ rest ≤ 4294967295) (hB : Mt.By zd) : Mt.cks (icm ty cde rest zd) = 0 := by
  have hn := Mt.tw_nonneg true _ (By_icm0 ty cde rest zd h1 h2 h3 hB)
  have ht := Mt.tw_put2 (icm0 ty cde rest zd) 2 (Mt.cks (icm0 ty cde rest zd)) (by omega) (by rw [icm0_length]; omega)
  have hz : (icm0 ty cde rest zd)[2]?.getD 0 = 0 ∧ (icm0 ty cde rest zd)[2 + 1]?.getD 0 = 0 := ⟨rfl, rfl⟩
  rw [hz.1, hz.2] at ht
  unfold icm
  have hg := Mt.fd_good _ hn
  unfold Mt.cks at ht ⊢
  rw [ht, show Mt.tw true (icm0 ty cde rest zd) + (65535 - Mt.fd (Mt.tw true (icm0 ty cde rest zd))) - (0 * 256 + 0) = Mt.tw true (icm0 ty cde rest zd) + (65535 - Mt.fd (Mt.tw true (icm0 ty cde rest zd))) from by omega, hg]
  rfl
theorem icm_drop (ty cde rest : Int) (zd : List Int) : (icm ty cde rest zd).drop 8 = zd := by simp [icm, Mt.put2, icm0]
theorem icm_0 (ty cde rest : Int) (zd : List Int) : (icm ty cde rest zd)[0]?.getD 0 = ty := by simp [icm, Mt.put2, icm0]
theorem icm_1 (ty cde rest : Int) (zd : List Int) : (icm ty cde rest zd)[1]?.getD 0 = cde := by simp [icm, Mt.put2, icm0]
theorem icm_4 (ty cde rest : Int) (zd : List Int) : wat4 (icm ty cde rest zd) 4 = rest := by simp [icm, Mt.put2, icm0, wat4, wat]; omega

/-- What is built, its end cut, is still quoted with 8 bytes of data. -/
theorem rde_quote (tos id : Int) (keep : Bool) (ttl proto src dst : Int) (zo zt : List Int) (ld : Nat) (h1 : zo.length ≤ 40) (h2 : zo.length % 4 = 0) (hall : 20 + zo.length + ld ≤ 65535) (h8 : 8 ≤ zt.length) (hld : zt.length ≤ ld)
    (hB : Mt.By (h20 tos id keep ttl proto src dst zo.length (20 + zo.length + ld) 0 ++ zo)) :
    rde true (hdr tos id keep ttl proto src dst zo (20 + zo.length + ld) ++ zt) = 0 ∧ ral true (hdr tos id keep ttl proto src dst zo (20 + zo.length + ld) ++ zt) = ((20 + zo.length + zt.length : Nat) : Int) := by
  have hlen : (hdr tos id keep ttl proto src dst zo (20 + zo.length + ld) ++ zt).length = 20 + zo.length + zt.length := by rw [List.length_append, hdr_len]
  have e0 := hdr_0 tos id keep ttl proto src dst zo zt (20 + zo.length + ld)
  have e2 := hdr_wat2 tos id keep ttl proto src dst zo zt (20 + zo.length + ld)
  have e3 := hl4_hdr tos id keep ttl proto src dst zo zt (20 + zo.length + ld) h1 h2
  have e6 := hdr_wat6 tos id keep ttl proto src dst zo zt (20 + zo.length + ld)
  have et := hdr_take tos id keep ttl proto src dst zo zt (20 + zo.length + ld)
  have eg := hdr_good tos id keep ttl proto src dst zo (20 + zo.length + ld) hB
  rw [← et] at eg
  generalize hdr tos id keep ttl proto src dst zo (20 + zo.length + ld) ++ zt = bb at *
  have hm0 : msr bb = 0 := by unfold msr; rw [hlen, e0, e3, e2, if_neg (by omega), if_neg (by omega), if_neg (by omega), if_neg (by omega), if_neg (by omega)]
  have hr : ral true bb = ((20 + zo.length + zt.length : Nat) : Int) := by unfold ral; rw [if_pos rfl, e2, hlen]; omega
  have hc : chk bb = 0 := by unfold chk; rw [e3, e6, Int.toNat_natCast, if_neg (by simp [eg]), if_neg (by cases keep <;> simp), if_neg (by cases keep <;> simp)]
  refine ⟨?_, hr⟩
  unfold rde
  rw [hm0, hr, hlen, hc, e3, if_neg (by simp), if_neg (by omega), if_neg (by simp), if_neg (by omega)]

set_option maxHeartbeats 8000000 in
theorem walk_TopQuotes (w : World) (tos id ttl proto src dst : Int) (keep : Bool) (so sd : Value) (zo zd : List Int) (hBo : Mt.By zo) (hBd : Mt.By zd) (hIo : Rd w.heap.size w so zo) (hId : Rd w.heap.size w sd zd) (hlo : zo.length ≤ 140737488355328) (hld : zd.length ≤ 140737488355328)
    (ht : 0 ≤ tos ∧ tos ≤ 255) (hid : 0 ≤ id ∧ id ≤ 65535) (htt : 0 ≤ ttl ∧ ttl ≤ 255) (hpr : 0 ≤ proto ∧ proto ≤ 255) (hsr : 0 ≤ src ∧ src ≤ 4294967295) (hds : 0 ≤ dst ∧ dst ≤ 4294967295) (x : Int) (hx : 0 ≤ x ∧ x ≤ 65535) :
    Calls Try.prog 4 #[.agg #[.int .u8 tos, .int .u16 id, .bool keep, .int .u8 ttl, .int .u8 proto, .int .u32 src, .int .u32 dst, so, sd], .int .u16 x] w fun e w' => e = .returned (.bool true) ∧ Below w.heap.size w w' := by
  obtain ⟨ao, co, rfl, hl1, hm1⟩ := hIo.slice
  obtain ⟨ad, cd, rfl, hl2, hm2⟩ := hId.slice
  have hbox : Below w.heap.size w (w.alloc (.cells #[.int .u8 tos, .int .u16 id, .bool keep, .int .u8 ttl, .int .u8 proto, .int .u32 src, .int .u32 dst, .slice ao zo.length co, .slice ad zd.length cd] 26)) := (Below.refl _ _).alloc (Nat.le_refl _) _
  have hblk := heap_alloc_new w (.cells #[.int .u8 tos, .int .u16 id, .bool keep, .int .u8 ttl, .int .u8 proto, .int .u32 src, .int .u32 dst, .slice ao zo.length co, .slice ad zd.length cd] 26)
  have hsz : (w.alloc (.cells #[.int .u8 tos, .int .u16 id, .bool keep, .int .u8 ttl, .int .u8 proto, .int .u32 src, .int .u32 dst, .slice ao zo.length co, .slice ad zd.length cd] 26)).heap.size = w.heap.size + 1 := by simp
  have HK := hide hblk
  have HS := hide hsz
  clear hblk hsz
  by_cases hf : flt zo.length zd.length = 0
  · have hv := flt_fit hf
    clear hf
    go_enter Try.func4, Try.ntmps4
    go_wp2_with fail
    generalize w.alloc (.cells #[.int .u8 tos, .int .u16 id, .bool keep, .int .u8 ttl, .int .u8 proto, .int .u32 src, .int .u32 dst, .slice ao zo.length co, .slice ad zd.length cd] 26) = w0 at *
    refine (build_yes tos id ttl proto src dst keep _ _ zo zd _ hBo ((hIo.below hbox).mono hbox.size) ((hId.below hbox).mono hbox.size) hv.1 hv.2.1 hv.2.2 ht hid htt hpr hsr hds).mono ?_
    rintro e w1 ⟨v1, rfl, hO1, hb1⟩
    have k1 := (hb1.block w.heap.size (by have := HS.out; omega)).trans HK.out
    have c1 := block_cell k1
    have hw1 := hbox.trans (hb1.mono hbox.size)
    have hlen : (hdr tos id keep ttl proto src dst zo (20 + zo.length + zd.length) ++ zd).length = 20 + zo.length + zd.length := by rw [List.length_append, hdr_len]
    obtain ⟨a1, cap1, rfl, hl3, hm3⟩ := hO1.slice
    rw [hlen] at hl3 hO1 ⊢
    have HL := hide hlen
    clear hlen
    by_cases h8 : zd.length < 8
    · have t8 : (zd.length : Int) < 8 := by omega
      go_wp2_with fail
      refine (build_yes 0 0 0 0 0 0 false _ _ [] [] _ Mt.By.nil (rd_zero _) (rd_zero _) (by simp) (by simp) (by simp) (by omega) (by omega) (by omega) (by omega) (by omega) (by omega)).mono ?_
      rintro e w2 ⟨v2, rfl, hO2, hb2⟩
      obtain ⟨a2, cap2, rfl, hl2', hm2'⟩ := hO2.slice
      have hlen : (hdr 0 0 false 0 0 0 0 [] (20 + ([] : List Int).length + ([] : List Int).length) ++ []).length = 20 := by rw [List.length_append, hdr_len]; rfl
      rw [hlen]
      go_wp2
      go_ret
      exact ⟨rfl, hw1.trans (hb2.mono hw1.size)⟩
    · have t8 : ¬ (zd.length : Int) < 8 := by omega
      by_cases h6 : 60000 < 20 + zo.length + zd.length
      · have t6 : (60000 : Int) < 20 + zo.length + zd.length := by omega
        go_wp2_with fail
        refine (build_yes 0 0 0 0 0 0 false _ _ [] [] _ Mt.By.nil (rd_zero _) (rd_zero _) (by simp) (by simp) (by simp) (by omega) (by omega) (by omega) (by omega) (by omega) (by omega)).mono ?_
        rintro e w2 ⟨v2, rfl, hO2, hb2⟩
        obtain ⟨a2, cap2, rfl, hl2', hm2'⟩ := hO2.slice
        have hlen : (hdr 0 0 false 0 0 0 0 [] (20 + ([] : List Int).length + ([] : List Int).length) ++ []).length = 20 := by rw [List.length_append, hdr_len]; rfl
        rw [hlen]
        go_wp2
        go_ret
        exact ⟨rfl, hw1.trans (hb2.mono hw1.size)⟩
      · have t6 : ¬ (60000 : Int) < 20 + zo.length + zd.length := by omega
        have t7 : ¬ (zd.length : Int) - 7 = 0 := by omega
        have t9 : 0 ≤ (zd.length : Int) - 7 := by omega
        have hmod := Int.emod_nonneg x (show (zd.length : Int) - 7 ≠ 0 by omega)
        have hmod2 := Int.emod_lt_of_pos x (show 0 < (zd.length : Int) - 7 by omega)
        obtain ⟨k, hk, hk1, hk2⟩ : ∃ k : Nat, wrap64 (20 + (zo.length : Int) + (zd.length : Int) - x % ((zd.length : Int) - 7)) = (k : Int) ∧ 20 + zo.length + 8 ≤ k ∧ k ≤ 20 + zo.length + zd.length := by
          generalize x % ((zd.length : Int) - 7) = y at *
          refine ⟨20 + zo.length + zd.length - y.toNat, ?_, by omega, by omega⟩
          unfold wrap64
          omega
        clear hmod hmod2
        have tk : (k : Int) ≤ cap1 := by omega
        have tk0 : (0 : Int) ≤ k := by omega
        go_wp2_with fail
        have hzt : (hdr tos id keep ttl proto src dst zo (20 + zo.length + zd.length) ++ zd).take k = hdr tos id keep ttl proto src dst zo (20 + zo.length + zd.length) ++ zd.take (k - (20 + zo.length)) := by
          rw [List.take_append, hdr_len, List.take_of_length_le (by rw [hdr_len]; omega)]
        have hIk := (hO1.rd).take k hk2
        rw [hzt] at hIk
        have hltk : (hdr tos id keep ttl proto src dst zo (20 + zo.length + zd.length) ++ zd.take (k - (20 + zo.length))).length = k := by rw [List.length_append, hdr_len, List.length_take]; omega
        have hltz : (zd.take (k - (20 + zo.length))).length = k - (20 + zo.length) := by rw [List.length_take]; omega
        have hBh := (h20_by tos id keep ttl proto src dst zo.length (20 + zo.length + zd.length) 0 hv.1 ht hid htt hpr hsr hds (by omega) (by omega)).append hBo
        have hBb : Mt.By (hdr tos id keep ttl proto src dst zo (20 + zo.length + zd.length) ++ zd.take (k - (20 + zo.length))) := by
          rw [hdr_eq]
          exact ((h20_by tos id keep ttl proto src dst zo.length (20 + zo.length + zd.length) _ hv.1 ht hid htt hpr hsr hds (by omega) (Mt.cks_bd _)).append hBo).append (hBd.take _)
        obtain ⟨hq0, hq1⟩ := rde_quote tos id keep ttl proto src dst zo (zd.take (k - (20 + zo.length))) zd.length hv.1 hv.2.1 hv.2.2 (by rw [hltz]; omega) (by rw [hltz]; omega) hBh
        have hpk : ∀ so sd, pkt (hdr tos id keep ttl proto src dst zo (20 + zo.length + zd.length) ++ zd.take (k - (20 + zo.length))) so sd = .agg #[.int .u8 tos, .int .u16 id, .bool keep, .int .u8 ttl, .int .u8 proto, .int .u32 src, .int .u32 dst, so, sd] := fun so sd => by rw [hdr_eq, g20_of]; exact g_pkt tos id keep ttl proto src dst zo _ _ _ so sd
        have e3 := hl4_hdr tos id keep ttl proto src dst zo (zd.take (k - (20 + zo.length))) (20 + zo.length + zd.length) hv.1 hv.2.1
        have hdat : ((hdr tos id keep ttl proto src dst zo (20 + zo.length + zd.length) ++ zd.take (k - (20 + zo.length))).take (ral true (hdr tos id keep ttl proto src dst zo (20 + zo.length + zd.length) ++ zd.take (k - (20 + zo.length)))).toNat).drop (hl4 (hdr tos id keep ttl proto src dst zo (20 + zo.length + zd.length) ++ zd.take (k - (20 + zo.length)))).toNat = zd.take (k - (20 + zo.length)) := by
          rw [hq1, e3, Int.toNat_natCast, Int.toNat_natCast, hltz, List.take_of_length_le (by rw [hltk]; omega), hdr_drop]
        clear hq1 e3 hBh hzt
        generalize hdr tos id keep ttl proto src dst zo (20 + zo.length + zd.length) ++ zd.take (k - (20 + zo.length)) = bb at *
        have HLK := hide hltk
        have HQ0 := hide hq0
        have HPK := hide hpk
        have HDA := hide hdat
        have HLZ := hide hltz
        have HWK := hide hk
        clear hltk hq0 hpk hdat hltz
        refine (buildIcmp_any 0 0 0 0 0 0 3 0 0 false _ _ _ [] bb w1 Mt.By.nil (rd_zero _) hBb hIk (by simp) (by rw [HLK.out]; omega) (by omega) (by omega) (by omega) (by omega) (by omega) (by omega) (by omega) (by omega)).mono ?_
        rintro e w2 ⟨hb2, ⟨hf2, _⟩ | ⟨_, ao2, co2, ad2, cd2, rfl, hOo2, hOd2⟩⟩
        · exact absurd (flt_of ⟨by simp, by simp, by rw [HLK.out]; simp; omega⟩) hf2
        rw [HLK.out] at hOd2 ⊢
        have hbA : Later w2 (w2.alloc (.cells #[.int .u8 0, .int .u16 0, .bool false, .int .u8 0, .int .u8 1, .int .u32 0, .int .u32 0, .slice ao2 ([] : List Int).length co2, .slice ad2 (8 + k) cd2] 26)) := (Below.refl _ _).alloc (Nat.le_refl _) _
        go_wp2_with fail
        rw [List.length_nil] at hbA
        generalize w2.alloc (.cells #[.int .u8 0, .int .u16 0, .bool false, .int .u8 0, .int .u8 1, .int .u32 0, .int .u32 0, .slice ao2 0 co2, .slice ad2 (8 + k) cd2] 26) = w3 at *
        have hBi := By_icm 3 0 0 bb (by omega) (by omega) (by omega) hBb
        have hpi : pie 1 (icm 3 0 0 bb) = 0 := by
          unfold pie
          rw [if_neg (by simp), icm_length, if_neg (by omega), icm_good 3 0 0 bb (by omega) (by omega) (by omega) hBb]
          simp
        refine (parseIcmp_any 0 0 0 1 0 0 false _ _ (icm 3 0 0 bb) w3 hBi ((hOd2.later hbA).rd) (by rw [icm_length, HLK.out]; omega)).mono ?_
        rintro e w4 ⟨hb4, ⟨h4, _⟩ | ⟨_, ad4, cd4, rfl, hO4⟩⟩
        · exact absurd hpi h4
        rw [icm_drop, icm_length, HLK.out] at hO4
        rw [icm_0, icm_1, icm_4, icm_length, HLK.out]
        rw [show 8 + k - 8 = k from by omega] at hO4 ⊢
        clear hpi
        have hbB : Later w4 (w4.alloc (.cells #[.int .u8 3, .int .u8 0, .int .u32 0, .slice ad4 k cd4] 43)) := (Below.refl _ _).alloc (Nat.le_refl _) _
        have m5 := heap_alloc_new w4 (.cells #[.int .u8 3, .int .u8 0, .int .u32 0, .slice ad4 k cd4] 43)
        go_wp2_with fail
        generalize w4.alloc (.cells #[.int .u8 3, .int .u8 0, .int .u32 0, .slice ad4 k cd4] 43) = w5 at *
        refine (quote_any _ bb w5 hBb (by rw [HLK.out]; omega) (hO4.later hbB).rd).mono ?_
        rintro e w6 ⟨hb6, ⟨h6, _⟩ | ⟨_, so6, sd6, rfl, hOo6, hOd6⟩⟩
        · exact absurd HQ0.out h6
        rw [HDA.out] at hOd6
        rw [HPK.out]
        have hO6 := hOd6.rd
        obtain ⟨ad6, cd6, rfl, hl6, hm6⟩ := hOd6.slice
        rw [HLZ.out] at hOd6 hO6 hl6 ⊢
        obtain ⟨kd, hkd⟩ : ∃ kd : Nat, k - (20 + zo.length) = kd := ⟨_, rfl⟩
        rw [hkd] at hOd6 hO6 hl6 ⊢
        have hkd1 : 8 ≤ kd := by omega
        have hkd2 : kd ≤ zd.length := by omega
        have HKD := hide hkd
        clear hkd
        obtain ⟨ao6, co6, rfl, _, _⟩ := hOo6.slice
        generalize (((bb.take (hl4 bb).toNat).drop 20)).length = lo6 at *
        have hw6 : Below w.heap.size w w6 := (hw1.trans ((((hb2.trans (hbA.mono hb2.size)).trans (hb4.mono (hb2.trans (hbA.mono hb2.size)).size)).trans (hbB.mono ((hb2.trans (hbA.mono hb2.size)).trans (hb4.mono (hb2.trans (hbA.mono hb2.size)).size)).size)).mono hw1.size)).trans (hb6.mono (Nat.le_trans hw1.size (Later.trans (Later.trans (Later.trans hb2 hbA) hb4) hbB).size))
        have l16 : Later w1 w6 := Later.trans (Later.trans (Later.trans (Later.trans hb2 hbA) hb4) hbB) hb6
        have k6 := (l16.block w.heap.size (Array.getElem?_eq_some_iff.1 k1).1).trans k1
        have m6 := (hb6.block w4.heap.size (Array.getElem?_eq_some_iff.1 m5).1).trans m5
        have hbC : Later w6 (w6.alloc (.cells #[.int .u8 tos, .int .u16 id, .bool keep, .int .u8 ttl, .int .u8 proto, .int .u32 src, .int .u32 dst, .slice ao6 lo6 co6, .slice ad6 kd cd6] 26)) := (Below.refl _ _).alloc (Nat.le_refl _) _
        have n7 := heap_alloc_new w6 (.cells #[.int .u8 tos, .int .u16 id, .bool keep, .int .u8 ttl, .int .u8 proto, .int .u32 src, .int .u32 dst, .slice ao6 lo6 co6, .slice ad6 kd cd6] 26)
        have k7 := (hbC.block w.heap.size (Array.getElem?_eq_some_iff.1 k6).1).trans k6
        have m7 := (hbC.block w4.heap.size (Array.getElem?_eq_some_iff.1 m6).1).trans m6
        have M7 := block_cell m7
        clear c1
        go_wp2_with fail
        refine (isError_any 3 0 0 _ _).mono ?_
        rintro e w8 ⟨rfl, hb8⟩
        have k8 := (hb8.block w.heap.size (Array.getElem?_eq_some_iff.1 k7).1).trans k7
        have n8 := (hb8.block w6.heap.size (by simp)).trans n7
        have hw8 : Below w.heap.size w w8 := hw6.trans ((Later.trans hbC hb8).mono hw6.size)
        have hzz : Rd w6.heap.size w8 (.slice ad6 kd cd6) (zd.take kd) := hO6.below (Later.trans hbC hb8)
        clear M7 m7 m6 m5 k7 n7
        go_wp2_with fail
        refine anyR_begin (R := Later) Later.pre Later.drew 39 rfl (by kernel_rfl) (fun W1 hW1 => ?_)
        have lw : ∀ v1, Later W1 v1 → Later w8 v1 := fun v1 h => hW1.trans h
        have K : ∀ v1, Later W1 v1 → ∀ j, v1.cell? ⟨w.heap.size, j, none⟩ = #[Value.int .u8 tos, .int .u16 id, .bool keep, .int .u8 ttl, .int .u8 proto, .int .u32 src, .int .u32 dst, .slice ao zo.length co, .slice ad zd.length cd][j]? := fun v1 h => block_cell (((lw v1 h).block w.heap.size (Array.getElem?_eq_some_iff.1 k8).1).trans k8)
        have N : ∀ v1, Later W1 v1 → ∀ j, v1.cell? ⟨w6.heap.size, j, none⟩ = #[Value.int .u8 tos, .int .u16 id, .bool keep, .int .u8 ttl, .int .u8 proto, .int .u32 src, .int .u32 dst, .slice ao6 lo6 co6, .slice ad6 kd cd6][j]? := fun v1 h => block_cell (((lw v1 h).block w6.heap.size (Array.getElem?_eq_some_iff.1 n8).1).trans n8)
        have K4 : ∀ v1, Later W1 v1 → v1.cell? ⟨w.heap.size, 4, none⟩ = some (.int .u8 proto) := fun v1 h => K v1 h 4
        have K5 : ∀ v1, Later W1 v1 → v1.cell? ⟨w.heap.size, 5, none⟩ = some (.int .u32 src) := fun v1 h => K v1 h 5
        have K6 : ∀ v1, Later W1 v1 → v1.cell? ⟨w.heap.size, 6, none⟩ = some (.int .u32 dst) := fun v1 h => K v1 h 6
        have K8 : ∀ v1, Later W1 v1 → v1.cell? ⟨w.heap.size, 8, none⟩ = some (.slice ad zd.length cd) := fun v1 h => K v1 h 8
        have N4 : ∀ v1, Later W1 v1 → v1.cell? ⟨w6.heap.size, 4, none⟩ = some (.int .u8 proto) := fun v1 h => N v1 h 4
        have N5 : ∀ v1, Later W1 v1 → v1.cell? ⟨w6.heap.size, 5, none⟩ = some (.int .u32 src) := fun v1 h => N v1 h 5
        have N6 : ∀ v1, Later W1 v1 → v1.cell? ⟨w6.heap.size, 6, none⟩ = some (.int .u32 dst) := fun v1 h => N v1 h 6
        have N8 : ∀ v1, Later W1 v1 → v1.cell? ⟨w6.heap.size, 8, none⟩ = some (.slice ad6 kd cd6) := fun v1 h => N v1 h 8
        have C1 : ∀ v1, Later W1 v1 → (convert 24 9 (.slice ad6 kd cd6)).run Try.prog v1 = .ok (.string (strOfNums (zd.take kd))) v1 := fun v1 h => conv_rd 24 9 5 Try.underlying24 Try.underlying5 Try.underlying9 (hzz.below ((lw v1 h).mono (by have := hbC.size; have := hb8.size; omega)))
        have C2 : ∀ v1, Later W1 v1 → (convert 24 9 (.slice ad kd cd)).run Try.prog v1 = .ok (.string (strOfNums (zd.take kd))) v1 := fun v1 h => conv_rd 24 9 5 Try.underlying24 Try.underlying5 Try.underlying9 ((hId.below (hw8.trans ((lw v1 h).mono hw8.size))).take kd hkd2)
        clear K N
        have hss : ((strOfNums (zd.take kd)).toList == (strOfNums (zd.take kd)).toList) = true := by simp
        generalize strOfNums (zd.take kd) = str at *
        have i8 : (8 : Int) ≤ kd := by omega
        have icd : (kd : Int) ≤ cd := by omega
        have icn : kd ≤ cd := by omega
        have i0 : (0 : Int) ≤ kd := by omega
        refine anyR_valG Later.pre 0 rfl (by kernel_rfl) (by kernel_rfl) (by kernel_rfl) (fun _ _ _ _ h => h) (by rfl) ?_; apply Exists.intro; refine ⟨fun w1 hw1 => ?_, ?_⟩; (· (go_simp; rfl)); simp only [Act.put, List.setIfInBounds_toArray, List.set_cons_zero, List.set_cons_succ]
        refine anyR_valG Later.pre 1 rfl (by kernel_rfl) (by kernel_rfl) (by kernel_rfl) (fun _ _ _ _ h => h) (by rfl) ?_; apply Exists.intro; refine ⟨fun w1 hw1 => ?_, ?_⟩; (· (go_simp; rfl)); simp only [Act.put, List.setIfInBounds_toArray, List.set_cons_zero, List.set_cons_succ]
        refine anyR_valG Later.pre 2 rfl (by kernel_rfl) (by kernel_rfl) (by kernel_rfl) (fun _ _ _ _ h => h) (by rfl) ?_; apply Exists.intro; refine ⟨fun w1 hw1 => ?_, ?_⟩; (· (go_simp; rfl)); simp only [Act.put, List.setIfInBounds_toArray, List.set_cons_zero, List.set_cons_succ]
        refine anyR_valG Later.pre 3 rfl (by kernel_rfl) (by kernel_rfl) (by kernel_rfl) (fun _ _ _ _ h => h) (by rfl) ?_; apply Exists.intro; refine ⟨fun w1 hw1 => ?_, ?_⟩; (· (go_simp; rfl)); simp only [Act.put, List.setIfInBounds_toArray, List.set_cons_zero, List.set_cons_succ]
        refine anyR_takeG Later.pre 4 (.bool true) rfl (by kernel_rfl) (by kernel_rfl) (by kernel_rfl) (fun _ _ _ h => h) (by rfl) (fun w1 hw1 => goes_val Later.pre (by go_simp)) ?_; simp only [Act.put, List.setIfInBounds_toArray, List.set_cons_zero, List.set_cons_succ]
        refine anyR_valG Later.pre 5 rfl (by kernel_rfl) (by kernel_rfl) (by kernel_rfl) (fun _ _ _ _ h => h) (by rfl) ?_; apply Exists.intro; refine ⟨fun w1 hw1 => ?_, ?_⟩; (· (go_simp; rfl)); simp only [Act.put, List.setIfInBounds_toArray, List.set_cons_zero, List.set_cons_succ]
        refine anyR_valG Later.pre 6 rfl (by kernel_rfl) (by kernel_rfl) (by kernel_rfl) (fun _ _ _ _ h => h) (by rfl) ?_; apply Exists.intro; refine ⟨fun w1 hw1 => ?_, ?_⟩; (· (go_simp; rfl)); simp only [Act.put, List.setIfInBounds_toArray, List.set_cons_zero, List.set_cons_succ]
        refine anyR_valG Later.pre 7 rfl (by kernel_rfl) (by kernel_rfl) (by kernel_rfl) (fun _ _ _ _ h => h) (by rfl) ?_; apply Exists.intro; refine ⟨fun w1 hw1 => ?_, ?_⟩; (· (go_simp; rfl)); simp only [Act.put, List.setIfInBounds_toArray, List.set_cons_zero, List.set_cons_succ]
        refine anyR_valG Later.pre 8 rfl (by kernel_rfl) (by kernel_rfl) (by kernel_rfl) (fun _ _ _ _ h => h) (by rfl) ?_; apply Exists.intro; refine ⟨fun w1 hw1 => ?_, ?_⟩; (· (go_simp; rfl)); simp only [Act.put, List.setIfInBounds_toArray, List.set_cons_zero, List.set_cons_succ]
        refine anyR_valG Later.pre 9 rfl (by kernel_rfl) (by kernel_rfl) (by kernel_rfl) (fun _ _ _ _ h => h) (by rfl) ?_; apply Exists.intro; refine ⟨fun w1 hw1 => ?_, ?_⟩; (· (go_simp; rfl)); simp only [Act.put, List.setIfInBounds_toArray, List.set_cons_zero, List.set_cons_succ]
        refine anyR_takeG Later.pre 10 (.bool true) rfl (by kernel_rfl) (by kernel_rfl) (by kernel_rfl) (fun _ _ _ h => h) (by rfl) (fun w1 hw1 => goes_val Later.pre (by go_simp)) ?_; simp only [Act.put, List.setIfInBounds_toArray, List.set_cons_zero, List.set_cons_succ]
        refine anyR_valG Later.pre 11 rfl (by kernel_rfl) (by kernel_rfl) (by kernel_rfl) (fun _ _ _ _ h => h) (by rfl) ?_; apply Exists.intro; refine ⟨fun w1 hw1 => ?_, ?_⟩; (· (go_simp; rfl)); simp only [Act.put, List.setIfInBounds_toArray, List.set_cons_zero, List.set_cons_succ]
        refine anyR_valG Later.pre 12 rfl (by kernel_rfl) (by kernel_rfl) (by kernel_rfl) (fun _ _ _ _ h => h) (by rfl) ?_; apply Exists.intro; refine ⟨fun w1 hw1 => ?_, ?_⟩; (· (go_simp; rfl)); simp only [Act.put, List.setIfInBounds_toArray, List.set_cons_zero, List.set_cons_succ]
        refine anyR_valG Later.pre 13 rfl (by kernel_rfl) (by kernel_rfl) (by kernel_rfl) (fun _ _ _ _ h => h) (by rfl) ?_; apply Exists.intro; refine ⟨fun w1 hw1 => ?_, ?_⟩; (· (go_simp; rfl)); simp only [Act.put, List.setIfInBounds_toArray, List.set_cons_zero, List.set_cons_succ]
        refine anyR_valG Later.pre 14 rfl (by kernel_rfl) (by kernel_rfl) (by kernel_rfl) (fun _ _ _ _ h => h) (by rfl) ?_; apply Exists.intro; refine ⟨fun w1 hw1 => ?_, ?_⟩; (· (go_simp; rfl)); simp only [Act.put, List.setIfInBounds_toArray, List.set_cons_zero, List.set_cons_succ]
        refine anyR_valG Later.pre 15 rfl (by kernel_rfl) (by kernel_rfl) (by kernel_rfl) (fun _ _ _ _ h => h) (by rfl) ?_; apply Exists.intro; refine ⟨fun w1 hw1 => ?_, ?_⟩; (· (go_simp; rfl)); simp only [Act.put, List.setIfInBounds_toArray, List.set_cons_zero, List.set_cons_succ]
        refine anyR_valG Later.pre 16 rfl (by kernel_rfl) (by kernel_rfl) (by kernel_rfl) (fun _ _ _ _ h => h) (by rfl) ?_; apply Exists.intro; refine ⟨fun w1 hw1 => ?_, ?_⟩; (· (go_simp; rfl)); simp only [Act.put, List.setIfInBounds_toArray, List.set_cons_zero, List.set_cons_succ]
        refine anyR_takeG Later.pre 17 (.bool true) rfl (by kernel_rfl) (by kernel_rfl) (by kernel_rfl) (fun _ _ _ h => h) (by rfl) (fun w1 hw1 => goes_val Later.pre (by go_simp)) ?_; simp only [Act.put, List.setIfInBounds_toArray, List.set_cons_zero, List.set_cons_succ]
        refine anyR_valG Later.pre 18 rfl (by kernel_rfl) (by kernel_rfl) (by kernel_rfl) (fun _ _ _ _ h => h) (by rfl) ?_; apply Exists.intro; refine ⟨fun w1 hw1 => ?_, ?_⟩; (· (go_simp; rfl)); simp only [Act.put, List.setIfInBounds_toArray, List.set_cons_zero, List.set_cons_succ]
        refine anyR_valG Later.pre 19 rfl (by kernel_rfl) (by kernel_rfl) (by kernel_rfl) (fun _ _ _ _ h => h) (by rfl) ?_; apply Exists.intro; refine ⟨fun w1 hw1 => ?_, ?_⟩; (· (go_simp; rfl)); simp only [Act.put, List.setIfInBounds_toArray, List.set_cons_zero, List.set_cons_succ]
        refine anyR_valG Later.pre 20 rfl (by kernel_rfl) (by kernel_rfl) (by kernel_rfl) (fun _ _ _ _ h => h) (by rfl) ?_; apply Exists.intro; refine ⟨fun w1 hw1 => ?_, ?_⟩; (· (go_simp; rfl)); simp only [Act.put, List.setIfInBounds_toArray, List.set_cons_zero, List.set_cons_succ]
        refine anyR_valG Later.pre 21 rfl (by kernel_rfl) (by kernel_rfl) (by kernel_rfl) (fun _ _ _ _ h => h) (by rfl) ?_; apply Exists.intro; refine ⟨fun w1 hw1 => ?_, ?_⟩; (· (go_simp; rfl)); simp only [Act.put, List.setIfInBounds_toArray, List.set_cons_zero, List.set_cons_succ]
        refine anyR_valG Later.pre 22 rfl (by kernel_rfl) (by kernel_rfl) (by kernel_rfl) (fun _ _ _ _ h => h) (by rfl) ?_; apply Exists.intro; refine ⟨fun w1 hw1 => ?_, ?_⟩; (· (go_simp; rfl)); simp only [Act.put, List.setIfInBounds_toArray, List.set_cons_zero, List.set_cons_succ]
        refine anyR_takeG Later.pre 23 (.bool true) rfl (by kernel_rfl) (by kernel_rfl) (by kernel_rfl) (fun _ _ _ h => h) (by rfl) (fun w1 hw1 => goes_val Later.pre (by go_simp)) ?_; simp only [Act.put, List.setIfInBounds_toArray, List.set_cons_zero, List.set_cons_succ]
        refine anyR_valG Later.pre 24 rfl (by kernel_rfl) (by kernel_rfl) (by kernel_rfl) (fun _ _ _ _ h => h) (by rfl) ?_; apply Exists.intro; refine ⟨fun w1 hw1 => ?_, ?_⟩; (· (go_simp; rfl)); simp only [Act.put, List.setIfInBounds_toArray, List.set_cons_zero, List.set_cons_succ]
        refine anyR_valG Later.pre 25 rfl (by kernel_rfl) (by kernel_rfl) (by kernel_rfl) (fun _ _ _ _ h => h) (by rfl) ?_; apply Exists.intro; refine ⟨fun w1 hw1 => ?_, ?_⟩; (· (go_simp; rfl)); simp only [Act.put, List.setIfInBounds_toArray, List.set_cons_zero, List.set_cons_succ]
        refine anyR_valG Later.pre 26 rfl (by kernel_rfl) (by kernel_rfl) (by kernel_rfl) (fun _ _ _ _ h => h) (by rfl) ?_; apply Exists.intro; refine ⟨fun w1 hw1 => ?_, ?_⟩; (· (go_simp; rfl)); simp only [Act.put, List.setIfInBounds_toArray, List.set_cons_zero, List.set_cons_succ]
        refine anyR_valG Later.pre 27 rfl (by kernel_rfl) (by kernel_rfl) (by kernel_rfl) (fun _ _ _ _ h => h) (by rfl) ?_; apply Exists.intro; refine ⟨fun w1 hw1 => ?_, ?_⟩; (· (go_simp; rfl)); simp only [Act.put, List.setIfInBounds_toArray, List.set_cons_zero, List.set_cons_succ]
        refine anyR_valG Later.pre 28 rfl (by kernel_rfl) (by kernel_rfl) (by kernel_rfl) (fun _ _ _ _ h => h) (by rfl) ?_; apply Exists.intro; refine ⟨fun w1 hw1 => ?_, ?_⟩; (· (go_simp; rfl)); simp only [Act.put, List.setIfInBounds_toArray, List.set_cons_zero, List.set_cons_succ]
        refine anyR_valG Later.pre 29 rfl (by kernel_rfl) (by kernel_rfl) (by kernel_rfl) (fun _ _ _ _ h => h) (by rfl) ?_; apply Exists.intro; refine ⟨fun w1 hw1 => ?_, ?_⟩; (· (go_simp; rfl)); simp only [Act.put, List.setIfInBounds_toArray, List.set_cons_zero, List.set_cons_succ]
        refine anyR_valG Later.pre 30 rfl (by kernel_rfl) (by kernel_rfl) (by kernel_rfl) (fun _ _ _ _ h => h) (by rfl) ?_; apply Exists.intro; refine ⟨fun w1 hw1 => ?_, ?_⟩; (· (go_simp; rfl)); simp only [Act.put, List.setIfInBounds_toArray, List.set_cons_zero, List.set_cons_succ]
        refine anyR_valG Later.pre 31 rfl (by kernel_rfl) (by kernel_rfl) (by kernel_rfl) (fun _ _ _ _ h => h) (by rfl) ?_; apply Exists.intro; refine ⟨fun w1 hw1 => ?_, ?_⟩; (· (go_simp; rfl)); simp only [Act.put, List.setIfInBounds_toArray, List.set_cons_zero, List.set_cons_succ]
        refine anyR_valG Later.pre 32 rfl (by kernel_rfl) (by kernel_rfl) (by kernel_rfl) (fun _ _ _ _ h => h) (by rfl) ?_; apply Exists.intro; refine ⟨fun w1 hw1 => ?_, ?_⟩; (· (go_simp; rfl)); simp only [Act.put, List.setIfInBounds_toArray, List.set_cons_zero, List.set_cons_succ]
        refine anyR_valG Later.pre 33 rfl (by kernel_rfl) (by kernel_rfl) (by kernel_rfl) (fun _ _ _ _ h => h) (by rfl) ?_; apply Exists.intro; refine ⟨fun w1 hw1 => ?_, ?_⟩; (· (go_simp; rfl)); simp only [Act.put, List.setIfInBounds_toArray, List.set_cons_zero, List.set_cons_succ]
        refine anyR_valG Later.pre 34 rfl (by kernel_rfl) (by kernel_rfl) (by kernel_rfl) (fun _ _ _ _ h => h) (by rfl) ?_; apply Exists.intro; refine ⟨fun w1 hw1 => ?_, ?_⟩; (· (go_simp; rfl)); simp only [Act.put, List.setIfInBounds_toArray, List.set_cons_zero, List.set_cons_succ]
        refine anyR_valG Later.pre 35 rfl (by kernel_rfl) (by kernel_rfl) (by kernel_rfl) (fun _ _ _ _ h => h) (by rfl) ?_; apply Exists.intro; refine ⟨fun w1 hw1 => ?_, ?_⟩; (· (go_simp; rfl)); simp only [Act.put, List.setIfInBounds_toArray, List.set_cons_zero, List.set_cons_succ]
        refine anyR_takeG Later.pre 36 (.bool true) rfl (by kernel_rfl) (by kernel_rfl) (by kernel_rfl) (fun _ _ _ h => h) (by rfl) (fun w1 hw1 => goes_val Later.pre (by go_simp)) ?_; simp only [Act.put, List.setIfInBounds_toArray, List.set_cons_zero, List.set_cons_succ]
        refine anyR_valG Later.pre 37 rfl (by kernel_rfl) (by kernel_rfl) (by kernel_rfl) (fun _ _ _ _ h => h) (by rfl) ?_; apply Exists.intro; refine ⟨fun w1 hw1 => ?_, ?_⟩; (· (go_simp; rfl)); simp only [Act.put, List.setIfInBounds_toArray, List.set_cons_zero, List.set_cons_succ]
        refine anyR_valG Later.pre 38 rfl (by kernel_rfl) (by kernel_rfl) (by kernel_rfl) (fun _ _ _ _ h => h) (by rfl) ?_; apply Exists.intro; refine ⟨fun w1 hw1 => ?_, ?_⟩; (· (go_simp; rfl)); simp only [Act.put, List.setIfInBounds_toArray, List.set_cons_zero, List.set_cons_succ]
        refine anyR_done (by kernel_rfl) (fun W8 hW8 => ?_)
        go_wp2_with fail
        go_ret
        exact ⟨rfl, hw8.trans ((lw W8 hW8).mono hw8.size)⟩
  · have hf' : (flt zo.length zd.length != 0) = true := by simp [hf]
    go_enter Try.func4, Try.ntmps4
    go_wp2_with fail
    refine (build_no tos id ttl proto src dst keep ao ad zo.length co zd.length cd _ hlo hld hf).mono ?_
    rintro e w1 ⟨rfl, hb1⟩
    clear hf
    go_wp2_with fail
    refine (build_yes 0 0 0 0 0 0 false _ _ [] [] _ Mt.By.nil (rd_zero _) (rd_zero _) (by simp) (by simp) (by simp) (by omega) (by omega) (by omega) (by omega) (by omega) (by omega)).mono ?_
    rintro e w2 ⟨v2, rfl, hO2, hb2⟩
    obtain ⟨a2, cap2, rfl, hl2', hm2'⟩ := hO2.slice
    have hlen : (hdr 0 0 false 0 0 0 0 [] (20 + ([] : List Int).length + ([] : List Int).length) ++ []).length = 20 := by rw [List.length_append, hdr_len]; rfl
    rw [hlen]
    go_wp2
    go_ret
    have hw1 := hbox.trans (hb1.mono (by have := HS.out; omega))
    exact ⟨rfl, hw1.trans (hb2.mono hw1.size)⟩
end Go.Proofs.Ytejkonnbpjocoad
