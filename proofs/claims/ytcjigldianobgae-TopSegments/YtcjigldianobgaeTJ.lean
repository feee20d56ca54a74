/- The walk of TopSegments. -/
import Derived.Test.YtcjigldianobgaeMh
import Derived.Test.YtcjigldianobgaeMg
import Derived.Test.YtcjigldianobgaeMp
import Derived.Test.YtcjigldianobgaeTG
namespace Go.Proofs.Ytcjigldianobgae
open Go.RowKit Go.Shelf
set_option maxRecDepth 100000
set_option linter.unusedVariables false
set_option linter.unusedSimpArgs false

/-- Parse of bytes that begin with what was built. -/
theorem parse_built (tos id ttl proto src dst : Int) (keep : Bool) (zo zd more : List Int) (sv : Value) (w : World) (hBo : Mt.By zo) (hBd : Mt.By zd) (hBm : Mt.By more) (hv : zo.length ≤ 40 ∧ zo.length % 4 = 0 ∧ 20 + zo.length + zd.length ≤ 65535)
    (ht : 0 ≤ tos ∧ tos ≤ 255) (hid : 0 ≤ id ∧ id ≤ 65535) (htt : 0 ≤ ttl ∧ ttl ≤ 255) (hpr : 0 ≤ proto ∧ proto ≤ 255) (hsr : 0 ≤ src ∧ src ≤ 4294967295) (hds : 0 ≤ dst ∧ dst ≤ 4294967295)
    (hm : more.length ≤ 140737488351232) (hI : Rd w.heap.size w sv (hdr tos id keep ttl proto src dst zo (20 + zo.length + zd.length) ++ (zd ++ more))) :
    Calls Try.prog 7 #[sv] w fun e w' => Below w.heap.size w w' ∧ ∃ ao co ad cd, e = .returned (.tuple #[.agg #[.int .u8 tos, .int .u16 id, .bool keep, .int .u8 ttl, .int .u8 proto, .int .u32 src, .int .u32 dst, .slice ao zo.length co, .slice ad zd.length cd], .int .i64 0]) ∧ Ow w.heap.size w' (.slice ao zo.length co) zo ∧ Ow w.heap.size w' (.slice ad zd.length cd) zd := by
  have hBh := (h20_by tos id keep ttl proto src dst zo.length (20 + zo.length + zd.length) 0 hv.1 ht hid htt hpr hsr hds (by omega) (by omega)).append hBo
  have hB : Mt.By (hdr tos id keep ttl proto src dst zo (20 + zo.length + zd.length) ++ (zd ++ more)) := by
    rw [hdr_eq]
    exact ((h20_by tos id keep ttl proto src dst zo.length (20 + zo.length + zd.length) _ hv.1 ht hid htt hpr hsr hds (by omega) (Mt.cks_bd _)).append hBo).append (hBd.append hBm)
  have hlen : (hdr tos id keep ttl proto src dst zo (20 + zo.length + zd.length) ++ (zd ++ more)).length = 20 + zo.length + (zd.length + more.length) := by rw [List.length_append, hdr_len, List.length_append]
  have hr := rde_built tos id keep ttl proto src dst zo zd more hv.1 hv.2.1 hv.2.2 hBh
  refine (parse_any sv _ w hB (by omega) hI).mono ?_
  rintro e w' ⟨hb, ⟨h, _⟩ | ⟨_, so, sd, rfl, hO, hD⟩⟩
  · exact absurd hr h
  have e3 := hl4_hdr tos id keep ttl proto src dst zo (zd ++ more) (20 + zo.length + zd.length) hv.1 hv.2.1
  have e2 := hdr_wat2 tos id keep ttl proto src dst zo (zd ++ more) (20 + zo.length + zd.length)
  have hral : ral false (hdr tos id keep ttl proto src dst zo (20 + zo.length + zd.length) ++ (zd ++ more)) = ((20 + zo.length + zd.length : Nat) : Int) := by simp [ral, e2]
  rw [e3, Int.toNat_natCast, hdr_take, hdr_opts] at hO
  rw [hral, e3, Int.toNat_natCast, Int.toNat_natCast, hdr_split] at hD
  have hpk : pkt (hdr tos id keep ttl proto src dst zo (20 + zo.length + zd.length) ++ (zd ++ more)) so sd = .agg #[.int .u8 tos, .int .u16 id, .bool keep, .int .u8 ttl, .int .u8 proto, .int .u32 src, .int .u32 dst, so, sd] := by rw [hdr_eq, g20_of]; exact g_pkt tos id keep ttl proto src dst zo (zd ++ more) _ _ so sd
  obtain ⟨ao, co, rfl, _, _⟩ := hO.slice
  obtain ⟨ad, cd, rfl, _, _⟩ := hD.slice
  exact ⟨hb, ao, co, ad, cd, by rw [hpk], hO, hD⟩


theorem rd_none (w : World) : Rd w.heap.size w (.slice none 0 0) [] := .inl ⟨none, 0, rfl, rfl, by omega, fun _ => rfl⟩
theorem rdO_none (w : World) : RdO w.heap.size w (.slice none 0 0) [] := .inl ⟨none, 0, rfl, rfl, by omega, fun _ => rfl⟩

set_option maxHeartbeats 16000000 in
theorem walk_TopSegments (w : World) (tos id ttl proto src dst : Int) (keep : Bool) (so sd : Value) (zo zd : List Int) (hBo : Mt.By zo) (hBd : Mt.By zd) (hIo : Rd w.heap.size w so zo) (hId : Rd w.heap.size w sd zd) (h1 : zo.length ≤ 140737488351232) (h2 : zd.length ≤ 140737488351232) (ht : 0 ≤ tos ∧ tos ≤ 255) (hid : 0 ≤ id ∧ id ≤ 65535) (htt : 0 ≤ ttl ∧ ttl ≤ 255) (hpr : 0 ≤ proto ∧ proto ≤ 255) (hsr : 0 ≤ src ∧ src ≤ 4294967295) (hds : 0 ≤ dst ∧ dst ≤ 4294967295)
    (sp dp sq ak fl wn ur : Int) (sO sm : Value) (os : List Opt) (zm : List Int) (hBO : ByO os) (hBm : Mt.By zm) (hIO : RdO w.heap.size w sO os) (hIm : Rd w.heap.size w sm zm) (hlO : ∀ o ∈ os, o.2.length ≤ 140737488351232) (hlm : zm.length ≤ 140737488351232) (hsp : 0 ≤ sp ∧ sp ≤ 65535) (hdp : 0 ≤ dp ∧ dp ≤ 65535) (hsq : 0 ≤ sq ∧ sq ≤ 4294967295) (hak : 0 ≤ ak ∧ ak ≤ 4294967295) (hfl : 0 ≤ fl ∧ fl ≤ 255) (hwn : 0 ≤ wn ∧ wn ≤ 65535) (hur : 0 ≤ ur ∧ ur ≤ 65535) :
    Calls Try.prog 3 #[.agg #[.int .u8 tos, .int .u16 id, .bool keep, .int .u8 ttl, .int .u8 proto, .int .u32 src, .int .u32 dst, so, sd], .agg #[.int .u16 sp, .int .u16 dp, .int .u32 sq, .int .u32 ak, .int .u8 fl, .int .u16 wn, .int .u16 ur, sO, sm]] w fun e w' => e = .returned (.bool true) ∧ Below w.heap.size w w' := by
  obtain ⟨ao, co, rfl, _, _⟩ := hIo.slice
  obtain ⟨ad, cd, rfl, _, _⟩ := hId.slice
  obtain ⟨aO, cO, rfl, _, _⟩ := hIO.slice
  obtain ⟨am, cm, rfl, _, _⟩ := hIm.slice
  have hb0 : Below w.heap.size w ((w.alloc (.cells #[.int .u8 tos, .int .u16 id, .bool keep, .int .u8 ttl, .int .u8 proto, .int .u32 src, .int .u32 dst, .slice ao zo.length co, .slice ad zd.length cd] 26)).alloc (.cells #[.int .u16 sp, .int .u16 dp, .int .u32 sq, .int .u32 ak, .int .u8 fl, .int .u16 wn, .int .u16 ur, .slice aO os.length cO, .slice am zm.length cm] 29)) := ((Below.refl _ _).alloc (Nat.le_refl _) _).alloc (by simp) _
  have s0 : ((w.alloc (.cells #[.int .u8 tos, .int .u16 id, .bool keep, .int .u8 ttl, .int .u8 proto, .int .u32 src, .int .u32 dst, .slice ao zo.length co, .slice ad zd.length cd] 26)).alloc (.cells #[.int .u16 sp, .int .u16 dp, .int .u32 sq, .int .u32 ak, .int .u8 fl, .int .u16 wn, .int .u16 ur, .slice aO os.length cO, .slice am zm.length cm] 29)).heap[w.heap.size + 1]? = some (.cells #[.int .u16 sp, .int .u16 dp, .int .u32 sq, .int .u32 ak, .int .u8 fl, .int .u16 wn, .int .u16 ur, .slice aO os.length cO, .slice am zm.length cm] 29) := by have := heap_alloc_new (w.alloc (.cells #[.int .u8 tos, .int .u16 id, .bool keep, .int .u8 ttl, .int .u8 proto, .int .u32 src, .int .u32 dst, .slice ao zo.length co, .slice ad zd.length cd] 26)) (.cells #[.int .u16 sp, .int .u16 dp, .int .u32 sq, .int .u32 ak, .int .u8 fl, .int .u16 wn, .int .u16 ur, .slice aO os.length cO, .slice am zm.length cm] 29); simpa only [World.size_alloc] using this
  have S0 := hide s0
  clear s0
  go_enter Try.func3, Try.ntmps3
  go_wp2_with fail
  generalize (w.alloc (.cells #[.int .u8 tos, .int .u16 id, .bool keep, .int .u8 ttl, .int .u8 proto, .int .u32 src, .int .u32 dst, .slice ao zo.length co, .slice ad zd.length cd] 26)).alloc (.cells #[.int .u16 sp, .int .u16 dp, .int .u32 sq, .int .u32 ak, .int .u8 fl, .int .u16 wn, .int .u16 ur, .slice aO os.length cO, .slice am zm.length cm] 29) = W0 at *
  refine (buildTcp_any tos id ttl proto src dst sp dp sq ak fl wn ur keep _ _ _ _ zo zm os W0 hBo ((hIo.below hb0).mono hb0.size) hBm ((hIm.below hb0).mono hb0.size) hBO ((hIO.below hb0).mono hb0.size) (fun o ho => by have := hlO o ho; omega) (by omega) (by omega) ht hid htt hsr hds hsp hdp hsq hak hfl hwn hur).mono ?_
  rintro e w1 ⟨hb1, ⟨hf, rfl⟩ | ⟨hf, a7, c7, a8, c8, rfl, hO, hD⟩⟩
  · have hw1 := hb0.trans (hb1.mono hb0.size)
    have t1 : (bte os zo.length zm.length != 0) = true := by simp [hf]
    have HF := hide hf
    clear hf
    go_upto_region 3 with fail
    generalize hV : w1.alloc _ = W1
    have hw2 := hw1.trans ((show Later w1 W1 by rw [← hV]; exact (Below.refl _ w1).alloc (Nat.le_refl _) _).mono hw1.size)
    clear hV
    go_wp2_with fail
    refine (buildTcp_any 0 0 0 0 0 0 0 0 0 0 0 0 0 false _ _ _ _ [] [] [] W1 Mt.By.nil (rd_none W1) Mt.By.nil (rd_none W1) (fun o ho => nomatch ho) (rdO_none W1) (fun o ho => nomatch ho) (by simp) (by simp) (by omega) (by omega) (by omega) (by omega) (by omega) (by omega) (by omega) (by omega) (by omega) (by omega) (by omega) (by omega)).mono ?_
    rw [show bte [] ([] : List Int).length ([] : List Int).length = 0 from by decide +kernel]
    rintro e w3 ⟨hb3, ⟨h0, _⟩ | ⟨_, x7, y7, x8, y8, rfl, _, _⟩⟩
    · exact absurd rfl h0
    have hw3 := hw2.trans (hb3.mono hw2.size)
    go_upto_region 4 with fail
    generalize hV : w3.alloc _ = W4
    have hw4 := hw3.trans ((show Later w3 W4 by rw [← hV]; exact (Below.refl _ w3).alloc (Nat.le_refl _) _).mono hw3.size)
    clear hV
    go_wp2_with fail
    go_ret
    exact ⟨rfl, hw4⟩
  · have hw1 := hb0.trans (hb1.mono hb0.size)
    obtain ⟨hok, hlo, hlm4, hall⟩ := bte_fit hf
    have hB0 := By_tcp0 sp dp sq ak fl wn ur (pad (obs os)) zm hsp hdp hsq hak hfl hwn hur (pad_le _ hok.2) (By_pad _ (By_obs os hBO hok.2)) hBm
    have hBT := By_tcp sp dp sq ak fl wn ur (pad (obs os)) src dst zm hB0
    have hPT := tcp_pte sp dp sq ak fl wn ur os src dst zm hok hsr hds hB0
    have HTH : Hid ((thd (tcp sp dp sq ak fl wn ur (pad (obs os)) src dst zm)).toNat = 20 + (pad (obs os)).length) := by show _ = _; rw [tcp_thd _ _ _ _ _ _ _ _ _ _ _ (pad_mod _)]; omega
    have HTL := hide (tcp_length sp dp sq ak fl wn ur (pad (obs os)) src dst zm)
    have s1 := later_keep hb1 S0.out
    clear hf S0
    go_upto_region 5 with fail
    generalize hV : w1.alloc _ = W1
    have l1 : Later w1 W1 := by rw [← hV]; exact (Below.refl _ w1).alloc (Nat.le_refl _) _
    have a2 : W1.heap[w1.heap.size]? = some (.cells #[.int .u8 tos, .int .u16 id, .bool keep, .int .u8 ttl, .int .u8 6, .int .u32 src, .int .u32 dst, .slice a7 zo.length c7, .slice a8 (20 + (pad (obs os)).length + zm.length) c8] 26 (0, 0)) := by rw [← hV]; exact heap_alloc_new w1 _
    clear hV
    have hwW := hw1.trans (l1.mono hw1.size)
    replace hD := hD.later l1
    replace hO := hO.later l1
    have s2 := later_keep l1 s1
    have K2 := block_cell a2
    go_wp2_with fail
    refine (build_yes tos id ttl 6 src dst keep _ _ zo (tcp sp dp sq ak fl wn ur (pad (obs os)) src dst zm) W1 hBo hO.rd (by exact hD.rd) hlo hlm4 (by rw [HTL.out]; omega) ht hid htt (by omega) hsr hds).mono ?_
    rintro e w3 ⟨v3, rfl, hO3, hb3⟩
    have hw3 := hwW.trans (hb3.mono hwW.size)
    have a3 := later_keep hb3 a2
    have s3 := later_keep hb3 s2
    obtain ⟨x3, y3, rfl, _, _⟩ := hO3.slice
    clear K2
    go_wp2_with fail
    refine (parse_built tos id ttl 6 src dst keep zo (tcp sp dp sq ak fl wn ur (pad (obs os)) src dst zm) [] _ w3 hBo hBT Mt.By.nil ⟨hlo, hlm4, by rw [HTL.out]; omega⟩ ht hid htt (by omega) hsr hds (by simp) (by rw [List.append_nil]; have h9 := hO3.rd; rw [List.length_append] at h9; exact h9)).mono ?_
    rw [HTL.out]
    rintro e w4 ⟨hb4, a9, c9, b9, d9, rfl, hO4, hD4⟩
    have hw4 := hw3.trans (hb4.mono hw3.size)
    have a4 := later_keep hb4 a3
    have s4 := later_keep hb4 s3
    have hOq := (hO.later hb3).later hb4
    have hDq := (hD.later hb3).later hb4
    go_upto_region 7 with fail
    generalize hV : w4.alloc _ = W5
    have l5 : Later w4 W5 := by rw [← hV]; exact (Below.refl _ w4).alloc (Nat.le_refl _) _
    have r5 : W5.heap[w4.heap.size]? = some (.cells #[.int .u8 tos, .int .u16 id, .bool keep, .int .u8 ttl, .int .u8 6, .int .u32 src, .int .u32 dst, .slice a9 zo.length c9, .slice b9 (20 + (pad (obs os)).length + zm.length) d9] 26 (0, 0)) := by rw [← hV]; exact heap_alloc_new w4 _
    clear hV
    have hw5 := hw4.trans (l5.mono hw4.size)
    have K5 := block_cell r5
    go_wp2_with fail
    refine (parseTcp_any tos id ttl 6 src dst keep _ _ (tcp sp dp sq ak fl wn ur (pad (obs os)) src dst zm) W5 hBT (by exact (hD4.later l5).rd) (by rw [HTL.out]; omega) hsr hds).mono ?_
    rw [hPT.1, hPT.2, tcp_w0, tcp_w2, tcp_w4, tcp_w8, tcp_13, tcp_w14, tcp_w18, HTL.out, HTH.out, tcp_drop _ _ _ _ _ _ _ _ _ _ _ _ rfl, show 20 + (pad (obs os)).length + zm.length - (20 + (pad (obs os)).length) = zm.length from by omega]
    rintro e w6 ⟨hb6, ⟨h0, _⟩ | ⟨_, os', aR, cR, aS, cS, hos, rfl, hRO, hRD⟩⟩
    · exact absurd rfl h0
    cases hos
    have hw6 := hw5.trans (hb6.mono hw5.size)
    have l56 := Later.trans l5 hb6
    have a6 := later_keep l56 a4
    have s6 := later_keep l56 s4
    have r6 := later_keep hb6 r5
    clear K5
    go_upto_region 8 with fail
    generalize hV : w6.alloc _ = W7
    have l7 : Later w6 W7 := by rw [← hV]; exact (Below.refl _ w6).alloc (Nat.le_refl _) _
    have t7 : W7.heap[w6.heap.size]? = some (.cells #[.int .u16 sp, .int .u16 dp, .int .u32 sq, .int .u32 ak, .int .u8 fl, .int .u16 wn, .int .u16 ur, .slice aR os.length cR, .slice aS zm.length cS] 29 (0, 0)) := by rw [← hV]; exact heap_alloc_new w6 _
    clear hV
    have hw7 := hw6.trans (l7.mono hw6.size)
    have A7 := block_cell (later_keep l7 a6)
    have R7 := block_cell (later_keep l7 r6)
    have s7 := later_keep l7 s6
    have l47 := Later.trans l56 l7
    go_wp2_with fail
    refine (same_any tos id ttl 6 src dst tos id ttl 6 src dst keep keep _ _ _ _ zo (tcp sp dp sq ak fl wn ur (pad (obs os)) src dst zm) zo (tcp sp dp sq ak fl wn ur (pad (obs os)) src dst zm) W7 hBo hBT hBo hBT (hOq.later l47).rd (by exact (hDq.later l47).rd) (hO4.later l47).rd (by exact (hD4.later l47).rd)).mono ?_
    rw [show smP tos id ttl 6 src dst tos id ttl 6 src dst keep keep zo (tcp sp dp sq ak fl wn ur (pad (obs os)) src dst zm) zo (tcp sp dp sq ak fl wn ur (pad (obs os)) src dst zm) = true from by simp [smP]]
    rintro e w8 ⟨rfl, hb8⟩
    have hw8 := hw7.trans (hb8.mono hw7.size)
    have S8 := block_cell (later_keep hb8 s7)
    have T8 := block_cell (later_keep hb8 t7)
    clear A7 R7
    go_wp2_with fail
    refine (sameTcp_any sp sp dp dp sq sq ak ak fl fl wn wn ur ur _ _ _ _ os os zm zm w8 hBO hBO hBm hBm ((hIO.below hw8).mono hw8.size) ((hRO.later l7).later hb8).rd ((hIm.below hw8).mono hw8.size) ((hRD.later l7).later hb8).rd).mono ?_
    rw [show smT sp sp dp dp sq sq ak ak fl fl wn wn ur ur os os zm zm = true from by simp [smT]]
    rintro e w9 ⟨rfl, hb9⟩
    have hw9 := hw8.trans (hb9.mono hw8.size)
    go_wp2_with fail
    go_ret
    exact ⟨rfl, hw9⟩
end Go.Proofs.Ytcjigldianobgae
