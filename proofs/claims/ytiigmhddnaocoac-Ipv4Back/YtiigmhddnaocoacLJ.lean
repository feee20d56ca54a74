/- The walk of the law Ipv4Back. -/
import Derived.Deep.DeepAppendWide
import Derived.Test.YtiigmhddnaocoacVR
import Derived.Test.YtiigmhddnaocoacMg
namespace Go.Proofs.Ytiigmhddnaocoac
open Go.RowKit Go.Shelf
set_option linter.unusedVariables false
set_option linter.unusedSimpArgs false

/-- append(v, x...), v of the call's own, x bytes wherever they lie, up to a greater length. -/
theorem wpList_appw {P : Program} {ops : Array Oper} {rest : List Oper} {o : Oper} {a : Act} {Q : Exit → Act → World → Prop} (w : World) (hgd : o.guard = none) (s x : Operand) (t : TypeId)
    (ho : o.op = .call { callee := .builtin .append, args := #[s, x], argTypes := #[t, t] })
    (base : Nat) (e : TypeId) (i : TypeInfo) (ht : P.underlying t = some (.slice e)) (hi : P.info? e = some i) (hz : i.zero = some (.int .u8 0)) (hsize : i.size = 1) (hby : i.bytes = 1)
    (v : Value) (ys : List Int) (hs : a.eval s = v) (hown : w.ownsRow base e 1 v ys.length (ys.map (Value.int .u8)))
    (n₀ : Nat) (sx : Value) (zs : List Int) (hx : a.eval x = sx) (hI : Rd n₀ w sx zs) (hbd : ys.length + zs.length ≤ 200000000000000) (hbase : base ≤ w.heap.size)
    (h : ∀ v' w', w'.ownsRow base e 1 v' (ys ++ zs).length ((ys ++ zs).map (Value.int .u8)) → w.grownBy w' v.ownBlock → wpList P ops Q rest (a.put o.dst v') w') : wpList P ops Q (o :: rest) a w := by
  rcases hI with ⟨ao, cap, rfl, rfl, hm, hn⟩ | ⟨b, off, cap, rfl, hne, hl, hm, hb, hc⟩
  · cases ao with
    | none =>
      obtain rfl := hn rfl
      refine wpList_append_own_none hgd s x t ho base e i 1 ht hi v _ _ hs hown hx (h v w (by simpa using hown) ⟨rfl, rfl, rfl, Nat.le_refl _, fun _ _ _ => rfl⟩)
    | some ad =>
      refine wpList_append_own_wide w hgd s x t ho base e i (.int .u8 0) 1 1 ht hi hz hsize hby rfl (by decide) v _ _ hs hown ad 0 cap [] hx rfl (fun j u hj => by simp at hj) (fun u hu => by simp at hu) (by unfold maxLen; omega) (by omega) hbase ?_
      intro v' w' hown' hg _
      exact h v' w' (by simpa using hown') hg
  · refine wpList_append_own_wide w hgd s x t ho base e i (.int .u8 0) 1 1 ht hi hz hsize hby rfl (by decide) v _ _ hs hown ⟨b, off, none⟩ zs.length cap (zs.map (Value.int .u8)) hx (by simp) ?_ ?_ (by unfold maxLen; omega) (by omega) hbase ?_
    · intro j u hj
      have hj' : j < zs.length := by have := (List.getElem?_eq_some_iff.1 hj).1; simpa using this
      rw [show (⟨b, off, none⟩ : Addr).add j = ⟨b, off + j, none⟩ from by unfold Addr.add; split <;> simp_all, hc j hj', ← hj]
      simp [hj']
    · intro u hu
      obtain ⟨z, _, rfl⟩ := List.mem_map.1 hu
      rfl
    · intro v' w' hown' hg _
      exact h v' w' (by simpa using hown') hg

theorem flt_fit {lo ld : Nat} (hf : flt lo ld = 0) : lo ≤ 40 ∧ lo % 4 = 0 ∧ 20 + lo + ld ≤ 65535 := by
  unfold flt at hf
  split at hf <;> first | omega | (split at hf <;> omega)

/-- Parse of bytes that begin with what was built. -/
theorem parse_back (tos id ttl proto src dst : Int) (keep : Bool) (zo zd more : List Int) (sv : Value) (w : World) (hBo : Mt.By zo) (hBd : Mt.By zd) (hBm : Mt.By more) (hv : zo.length ≤ 40 ∧ zo.length % 4 = 0 ∧ 20 + zo.length + zd.length ≤ 65535)
    (ht : 0 ≤ tos ∧ tos ≤ 255) (hid : 0 ≤ id ∧ id ≤ 65535) (htt : 0 ≤ ttl ∧ ttl ≤ 255) (hpr : 0 ≤ proto ∧ proto ≤ 255) (hsr : 0 ≤ src ∧ src ≤ 4294967295) (hds : 0 ≤ dst ∧ dst ≤ 4294967295)
    (hm : more.length ≤ 140737488351232) (hI : Rd w.heap.size w sv (hdr tos id keep ttl proto src dst zo (20 + zo.length + zd.length) ++ (zd ++ more))) :
    Calls Try.prog 16 #[sv] w fun e w' => Below w.heap.size w w' ∧ ∃ ao co ad cd, e = .returned (.tuple #[.agg #[.int .u8 tos, .int .u16 id, .bool keep, .int .u8 ttl, .int .u8 proto, .int .u32 src, .int .u32 dst, .slice ao zo.length co, .slice ad zd.length cd], .int .i64 0]) ∧ Ow w.heap.size w' (.slice ao zo.length co) zo ∧ Ow w.heap.size w' (.slice ad zd.length cd) zd := by
  have hBh := (h20_by tos id keep ttl proto src dst zo.length (20 + zo.length + zd.length) 0 hv.1 ht hid htt hpr hsr hds (by omega) (by omega)).append hBo
  have hB : Mt.By (hdr tos id keep ttl proto src dst zo (20 + zo.length + zd.length) ++ (zd ++ more)) := by
    rw [hdr_eq]
    exact ((h20_by tos id keep ttl proto src dst zo.length (20 + zo.length + zd.length) _ hv.1 ht hid htt hpr hsr hds (by omega) (Mt.cks_bd _)).append hBo).append (hBd.append hBm)
  have hlen : (hdr tos id keep ttl proto src dst zo (20 + zo.length + zd.length) ++ (zd ++ more)).length = 20 + zo.length + (zd.length + more.length) := by rw [List.length_append, hdr_len, List.length_append]
  have hr := rde_built tos id keep ttl proto src dst zo zd more hv.1 hv.2.1 hv.2.2 hBh
  refine (parse_any sv _ w hB (by omega) hI).mono ?_
  rintro e w' ⟨hb, ⟨h, _⟩ | ⟨_, so, sd, rfl, hO, hD⟩⟩
  · exact absurd hr h
  have e3 := hl4_hdr tos id keep ttl proto src dst zo (zd ++ more) (20 + zo.length + zd.length) hv.1 hv.2.1
  have e2 := hdr_wat2 tos id keep ttl proto src dst zo (zd ++ more) (20 + zo.length + zd.length)
  have hral : ral false (hdr tos id keep ttl proto src dst zo (20 + zo.length + zd.length) ++ (zd ++ more)) = ((20 + zo.length + zd.length : Nat) : Int) := by simp [ral, e2]
  rw [e3, Int.toNat_natCast, hdr_take, hdr_opts] at hO
  rw [hral, e3, Int.toNat_natCast, Int.toNat_natCast, hdr_split] at hD
  have hpk : pkt (hdr tos id keep ttl proto src dst zo (20 + zo.length + zd.length) ++ (zd ++ more)) so sd = .agg #[.int .u8 tos, .int .u16 id, .bool keep, .int .u8 ttl, .int .u8 proto, .int .u32 src, .int .u32 dst, so, sd] := by rw [hdr_eq, g20_of]; exact g_pkt tos id keep ttl proto src dst zo (zd ++ more) _ _ so sd
  obtain ⟨ao, co, rfl, _, _⟩ := hO.slice
  obtain ⟨ad, cd, rfl, _, _⟩ := hD.slice
  exact ⟨hb, ao, co, ad, cd, by rw [hpk], hO, hD⟩

theorem rsame_self (tos id ttl proto src dst : Int) (keep : Bool) (so1 sd1 so2 sd2 : Value) (zo zd : List Int) (w : World) (hO : Mt.By zo) (hD : Mt.By zd) (h1 : Rd w.heap.size w so1 zo) (h2 : Rd w.heap.size w sd1 zd) (h3 : Rd w.heap.size w so2 zo) (h4 : Rd w.heap.size w sd2 zd) :
    Calls Try.prog 15 #[.agg #[.int .u8 tos, .int .u16 id, .bool keep, .int .u8 ttl, .int .u8 proto, .int .u32 src, .int .u32 dst, so1, sd1], .agg #[.int .u8 tos, .int .u16 id, .bool keep, .int .u8 ttl, .int .u8 proto, .int .u32 src, .int .u32 dst, so2, sd2]] w fun e w' => e = .returned (.bool true) ∧ Below w.heap.size w w' := by
  refine (rsame_any tos id ttl proto src dst tos id ttl proto src dst keep keep so1 sd1 so2 sd2 zo zd zo zd w hO hD hO hD h1 h2 h3 h4).mono ?_
  rintro e w' ⟨rfl, hb⟩
  exact ⟨by simp [smP], hb⟩

set_option maxHeartbeats 8000000 in
theorem walk_Ipv4Back (w : World) (tos id ttl proto src dst : Int) (keep : Bool) (so sd : Value) (zo zd : List Int) (hBo : Mt.By zo) (hBd : Mt.By zd) (hIo : Rd w.heap.size w so zo) (hId : Rd w.heap.size w sd zd) (hlo : zo.length ≤ 140737488355328) (hld : zd.length ≤ 140737488355328)
    (ht : 0 ≤ tos ∧ tos ≤ 255) (hid : 0 ≤ id ∧ id ≤ 65535) (htt : 0 ≤ ttl ∧ ttl ≤ 255) (hpr : 0 ≤ proto ∧ proto ≤ 255) (hsr : 0 ≤ src ∧ src ≤ 4294967295) (hds : 0 ≤ dst ∧ dst ≤ 4294967295)
    (sm : Value) (more : List Int) (hBm : Mt.By more) (hIm : Rd w.heap.size w sm more) (hlm : more.length ≤ 140737488351232) :
    Calls Try.prog 4 #[.agg #[.int .u8 tos, .int .u16 id, .bool keep, .int .u8 ttl, .int .u8 proto, .int .u32 src, .int .u32 dst, so, sd], sm] w fun e w' => e = .returned (.bool true) ∧ Below w.heap.size w w' := by
  obtain ⟨i0, hi, hz0, hz1, hz2⟩ := info_parts info_u8
  obtain ⟨ao, co, rfl, hl1, hm1⟩ := hIo.slice
  obtain ⟨ad, cd, rfl, hl2, hm2⟩ := hId.slice
  obtain ⟨am, cm, rfl, hl3, hm3⟩ := hIm.slice
  have hbox : Below w.heap.size w (w.alloc (.cells #[.int .u8 tos, .int .u16 id, .bool keep, .int .u8 ttl, .int .u8 proto, .int .u32 src, .int .u32 dst, .slice ao zo.length co, .slice ad zd.length cd] 26)) := (Below.refl _ _).alloc (Nat.le_refl _) _
  have hblk := heap_alloc_new w (.cells #[.int .u8 tos, .int .u16 id, .bool keep, .int .u8 ttl, .int .u8 proto, .int .u32 src, .int .u32 dst, .slice ao zo.length co, .slice ad zd.length cd] 26)
  have hsz : (w.alloc (.cells #[.int .u8 tos, .int .u16 id, .bool keep, .int .u8 ttl, .int .u8 proto, .int .u32 src, .int .u32 dst, .slice ao zo.length co, .slice ad zd.length cd] 26)).heap.size = w.heap.size + 1 := by simp
  go_enter Try.func4, Try.ntmps4
  go_wp2_with fail
  generalize w.alloc (.cells #[.int .u8 tos, .int .u16 id, .bool keep, .int .u8 ttl, .int .u8 proto, .int .u32 src, .int .u32 dst, .slice ao zo.length co, .slice ad zd.length cd] 26) = W1 at *
  by_cases hf : flt zo.length zd.length = 0
  · have hv := flt_fit hf
    clear hf
    refine (build_yes tos id ttl proto src dst keep _ _ zo zd W1 hBo ((hIo.below hbox).mono hbox.size) ((hId.below hbox).mono hbox.size) hv.1 hv.2.1 hv.2.2 ht hid htt hpr hsr hds).mono ?_
    rintro e w2 ⟨v2, rfl, hO2, hb2⟩
    have k2 := (hb2.block w.heap.size (by omega)).trans hblk
    have hw2 := hbox.trans (hb2.mono hbox.size)
    have hlen : (hdr tos id keep ttl proto src dst zo (20 + zo.length + zd.length) ++ zd).length = 20 + zo.length + zd.length := by rw [List.length_append, hdr_len]
    have hp1 := parse_back tos id ttl proto src dst keep zo zd [] v2 w2 hBo hBd Mt.By.nil hv ht hid htt hpr hsr hds (by simp) (by rw [List.append_nil]; exact hO2.rd)
    have HP1 := hide hp1
    clear hp1
    have hp2 := fun v w3 hI => parse_back tos id ttl proto src dst keep zo zd more v w3 hBo hBd hBm hv ht hid htt hpr hsr hds hlm hI
    rw [← List.append_assoc] at hp2
    generalize hdr tos id keep ttl proto src dst zo (20 + zo.length + zd.length) ++ zd = bb at *
    have HP2 := hide hp2
    clear hp2
    have hI2 := hO2.rd
    obtain ⟨a2, cap2, rfl, hq2, hm2'⟩ := hO2.slice
    have HL := hide hlen
    clear hlen
    generalize hlb : bb.length = lb at *
    have HLB := hide hlb
    clear hlb
    go_wp2_with fail
    refine HP1.out.mono ?_
    rintro e w3 ⟨hb3, ao3, co3, ad3, cd3, rfl, hOo3, hOd3⟩
    have k3 := (hb3.block w.heap.size (Array.getElem?_eq_some_iff.1 k2).1).trans k2
    have hw3 := hw2.trans (hb3.mono hw2.size)
    have hA := (Below.refl w3.heap.size w3).alloc (Nat.le_refl _) (.cells #[.int .u8 tos, .int .u16 id, .bool keep, .int .u8 ttl, .int .u8 proto, .int .u32 src, .int .u32 dst, .slice ao3 zo.length co3, .slice ad3 zd.length cd3] 26)
    have hpA := heap_alloc_new w3 (.cells #[.int .u8 tos, .int .u16 id, .bool keep, .int .u8 ttl, .int .u8 proto, .int .u32 src, .int .u32 dst, .slice ao3 zo.length co3, .slice ad3 zd.length cd3] 26)
    have hsA : (w3.alloc (.cells #[.int .u8 tos, .int .u16 id, .bool keep, .int .u8 ttl, .int .u8 proto, .int .u32 src, .int .u32 dst, .slice ao3 zo.length co3, .slice ad3 zd.length cd3] 26)).heap.size = w3.heap.size + 1 := by simp
    have l24 : Later w2 (w3.alloc (.cells #[.int .u8 tos, .int .u16 id, .bool keep, .int .u8 ttl, .int .u8 proto, .int .u32 src, .int .u32 dst, .slice ao3 zo.length co3, .slice ad3 zd.length cd3] 26)) := hb3.trans (hA.mono hb3.size)
    have k4 := (hA.block w.heap.size (Array.getElem?_eq_some_iff.1 k3).1).trans k3
    have hw4 := hw3.trans (hA.mono hw3.size)
    have hR4 := hI2.below l24
    have hRm := hIm.below hw4
    clear HP1
    go_wp2_with (first
      | (at_builtin; refine wpList_appw _ rfl (.tmp 35) (.tmp 36) 24 rfl (w3.heap.size + 1) 5 i0 Try.underlying24 hi hz0 hz1 hz2 _ [] rfl (World.ownsRow_nil _ _ _ _) w2.heap.size _ bb rfl hR4 (by have h1 := HLB.out; have h2 := HL.out; simp; omega) (Nat.le_of_eq hsA.symm) ?_; intro v5 w5 hown5 hg5; have hb5 : Below (w3.heap.size + 1) (w3.alloc (.cells #[.int .u8 tos, .int .u16 id, .bool keep, .int .u8 ttl, .int .u8 proto, .int .u32 src, .int .u32 dst, .slice ao3 zo.length co3, .slice ad3 zd.length cd3] 26)) w5 := (Below.refl _ _).grown hg5 (Nat.le_of_eq hsA.symm) (fun k e => by cases e); clear hg5; simp only [List.nil_append] at hown5; have hRm5 := hRm.below (hb5.mono (by have := hw3.size; omega)))
      | (at_builtin; refine wpList_appw _ rfl (.tmp 37) (.tmp 38) 24 rfl (w3.heap.size + 1) 5 i0 Try.underlying24 hi hz0 hz1 hz2 _ bb rfl hown5 w.heap.size _ more rfl hRm5 (by have h1 := HLB.out; have h2 := HL.out; omega) (Nat.le_trans (Nat.le_of_eq hsA.symm) hb5.size) ?_; intro v6 w6 hown6 hg6; have hb6 := below_app hb5 hown5 hg6 (Nat.le_refl _) (Nat.le_trans (Nat.le_of_eq hsA.symm) hb5.size); clear hg6))
    have hO6 := Ow.of_row hown6
    have l46 : Later (w3.alloc (.cells #[.int .u8 tos, .int .u16 id, .bool keep, .int .u8 ttl, .int .u8 proto, .int .u32 src, .int .u32 dst, .slice ao3 zo.length co3, .slice ad3 zd.length cd3] 26)) w6 := by unfold Later; rw [hsA]; exact hb6
    have k6 := (l46.block w.heap.size (Array.getElem?_eq_some_iff.1 k4).1).trans k4
    have q6 := (l46.block w3.heap.size (by omega)).trans hpA
    have hw6 := hw4.trans (l46.mono hw4.size)
    clear hown5 hown6 hb5 hb6 hRm5 hR4 hRm
    refine (HP2.out v6 w6 hO6.rd).mono ?_
    rintro e w7 ⟨hb7, ao7, co7, ad7, cd7, rfl, hOo7, hOd7⟩
    have k7 := (hb7.block w.heap.size (Array.getElem?_eq_some_iff.1 k6).1).trans k6
    have q7 := (hb7.block w3.heap.size (Array.getElem?_eq_some_iff.1 q6).1).trans q6
    have hw7 := hw6.trans (hb7.mono hw6.size)
    have hB := (Below.refl w7.heap.size w7).alloc (Nat.le_refl _) (.cells #[.int .u8 tos, .int .u16 id, .bool keep, .int .u8 ttl, .int .u8 proto, .int .u32 src, .int .u32 dst, .slice ao7 zo.length co7, .slice ad7 zd.length cd7] 26)
    have hpB := heap_alloc_new w7 (.cells #[.int .u8 tos, .int .u16 id, .bool keep, .int .u8 ttl, .int .u8 proto, .int .u32 src, .int .u32 dst, .slice ao7 zo.length co7, .slice ad7 zd.length cd7] 26)
    have k8 := (hB.block w.heap.size (Array.getElem?_eq_some_iff.1 k7).1).trans k7
    have q8 := (hB.block w3.heap.size (Array.getElem?_eq_some_iff.1 q7).1).trans q7
    have hw8 := hw7.trans (hB.mono hw7.size)
    have l38 : Later w3 (w7.alloc (.cells #[.int .u8 tos, .int .u16 id, .bool keep, .int .u8 ttl, .int .u8 proto, .int .u32 src, .int .u32 dst, .slice ao7 zo.length co7, .slice ad7 zd.length cd7] 26)) := ((hA.trans (l46.mono (by omega))).trans (hb7.mono (Nat.le_trans (by omega) l46.size))).trans (hB.mono (Nat.le_trans (Nat.le_trans (by omega) l46.size) hb7.size))
    go_wp2_with fail
    refine (live2_any _).mono ?_
    rintro e w9 ⟨rfl, hb9⟩
    have k9 := (hb9.block w.heap.size (Array.getElem?_eq_some_iff.1 k8).1).trans k8
    have q9 := (hb9.block w3.heap.size (Array.getElem?_eq_some_iff.1 q8).1).trans q8
    have r9 := (hb9.block w7.heap.size (by simp)).trans hpB
    have hw9 := hw8.trans (hb9.mono hw8.size)
    have l39 : Later w3 w9 := Later.trans l38 hb9
    have l79 : Later w7 w9 := Later.trans hB hb9
    have C1 := block_cell k9
    have C2 := block_cell q9
    go_wp2_with fail
    refine (rsame_self tos id ttl proto src dst keep _ _ _ _ zo zd w9 hBo hBd ((hIo.below hw9).mono hw9.size) ((hId.below hw9).mono hw9.size) (hOo3.below l39 (Nat.le_refl _)).rd (hOd3.below l39 (Nat.le_refl _)).rd).mono ?_
    rintro e w10 ⟨rfl, hb10⟩
    have k10 := (hb10.block w.heap.size (Array.getElem?_eq_some_iff.1 k9).1).trans k9
    have r10 := (hb10.block w7.heap.size (Array.getElem?_eq_some_iff.1 r9).1).trans r9
    have D1 := block_cell k10
    have D2 := block_cell r10
    have hw10 := hw9.trans (hb10.mono hw9.size)
    have l710 : Later w7 w10 := Later.trans l79 hb10
    clear C1 C2
    go_wp2_with fail
    refine (rsame_self tos id ttl proto src dst keep _ _ _ _ zo zd w10 hBo hBd ((hIo.below hw10).mono hw10.size) ((hId.below hw10).mono hw10.size) (hOo7.below l710 (Nat.le_refl _)).rd (hOd7.below l710 (Nat.le_refl _)).rd).mono ?_
    rintro e w11 ⟨rfl, hb11⟩
    go_wp2
    go_ret
    exact ⟨rfl, hw10.trans (hb11.mono hw10.size)⟩
  · refine (build_no tos id ttl proto src dst keep ao ad zo.length co zd.length cd W1 hlo hld hf).mono ?_
    rintro e w2 ⟨rfl, hb2⟩
    have hf' : (flt zo.length zd.length != 0) = true := by simp [hf]
    have hf2 : (flt zo.length zd.length == 0) = false := by simp [hf]
    have k2 := (hb2.block w.heap.size (by omega)).trans hblk
    have hw2 := hbox.trans (hb2.mono hbox.size)
    clear hf
    go_wp2_with fail
    refine (live2_any _).mono ?_
    rintro e w3 ⟨rfl, hb3⟩
    have C3 := block_cell ((hb3.block w.heap.size (Array.getElem?_eq_some_iff.1 k2).1).trans k2)
    have hw3 := hw2.trans (hb3.mono hw2.size)
    go_wp2_with fail
    refine (rright_any tos id ttl proto src dst keep ao ad zo.length co zd.length cd _ hlo hld).mono ?_
    rintro e w4 ⟨rfl, hb4⟩
    rw [hf2]
    go_wp2
    go_ret
    exact ⟨rfl, hw3.trans (hb4.mono hw3.size)⟩
end Go.Proofs.Ytiigmhddnaocoac
