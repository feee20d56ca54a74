/- The walk of the law TopHeaders. -/
import Derived.Test.YtiigmhddnaocoadV4
import Derived.Test.YtiigmhddnaocoadHd
namespace Go.Proofs.Ytiigmhddnaocoad
open Go.RowKit Go.Shelf

section
variable {P : Program} {C : World → Prop} {o : Oper} {a : Act} {K : Act → Prop}
theorem quiet_at (v : Value) (h : ∀ w, C w → (execOp a.eval o).run P w = .ok (.value v) w) (hk : K (a.put o.dst v)) : o.quiet P a C K := ⟨v, fun w hw => by unfold Oper.quietAt; rw [h w hw]; exact ⟨rfl, rfl⟩, hk⟩
theorem quiet_call (f : FuncId) (args : Array Value) (v : Value) (h : ∀ w, C w → (execOp a.eval o).run P w = .ok (.enter f args) w) (hc : ∀ w, C w → Calls P f args w fun e w' => e = .returned v ∧ C w') (hk : K (a.put o.dst v)) : o.quiet P a C K := ⟨v, fun w hw => by unfold Oper.quietAt; rw [h w hw]; exact ⟨rfl, hc w hw⟩, hk⟩
theorem quiet_ex (h : ∃ v, (∀ w, C w → (execOp a.eval o).run P w = .ok (.value v) w) ∧ K (a.put o.dst v)) : o.quiet P a C K := by
  obtain ⟨v, h1, h2⟩ := h
  exact quiet_at v h1 h2
end

/-- What is behind the first k of them. -/
theorem Rd.drop {n₀ : Nat} {A : World} {a : Option Addr} {len cap : Nat} {zs : List Int} (k : Nat) (hk : k ≤ len) (h : Rd n₀ A (.slice a len cap) zs) : Rd n₀ A (sliced a k len cap 1) (zs.drop k) := by
  rcases h with ⟨a', cap', e, hz, hm, hn⟩ | ⟨b, off, cap', e, hne, hl, hm, hb, hc⟩
  · cases e
    obtain rfl : k = 0 := by omega
    subst hz
    cases a with
    | none => exact .inl ⟨none, cap, by simp [sliced], by simp, hm, hn⟩
    | some x => exact .inl ⟨if cap = 0 then some x else (some x).map (·.add (0 * 1)), cap, by simp [sliced], by simp, hm, fun h => by split at h <;> simp at h⟩
  · cases e
    by_cases h0 : k = zs.length
    · subst h0
      exact .inl ⟨if cap = zs.length then some ⟨b, off, none⟩ else (some (⟨b, off, none⟩ : Addr)).map (·.add (zs.length * 1)), cap - zs.length, by simp [sliced], by simp, by omega, fun h => by split at h <;> simp at h⟩
    · refine .inr ⟨b, off + k, cap - k, ?_, ?_, by simp; omega, by omega, hb, fun j hj => ?_⟩
      · simp [sliced]
        rw [if_neg (by omega)]
        unfold Addr.add
        split <;> simp_all
      · intro e
        have := congrArg List.length e
        simp at this
        omega
      · have hj' : k + j < zs.length := by simp at hj; omega
        rw [Nat.add_assoc, hc (k + j) hj']
        simp

/-- Two results handed back. -/
theorem zero_rd (w : World) : Rd w.heap.size w (.slice none 0 0) [] := .inl ⟨none, 0, rfl, rfl, by omega, fun _ => rfl⟩

theorem wpQuiet_region {P : Program} {C : World → Prop} {id : Nat} {Q : Exit → Act → World → Prop} {a : Act} {w : World} {l : List Oper} (hm : P.follows .mixedOrders = true) (hB : Region.lexB .any l.toArray = true) (hC : C w.drew)
    (h : wpQuiet P l.toArray C (fun a' => ∀ w', C w' → Q .normal a' w') l a) : (Code.region id l.toArray true).wp P Q a w :=
  wp_region_quiet (C := C) hm hB hC (by simpa using h)

set_option maxHeartbeats 4000000 in
theorem walk_TopHeaders (w : World) (tos id ttl proto src dst : Int) (keep : Bool) (so sd : Value) (zo zd : List Int) (hBo : Mt.By zo) (hBd : Mt.By zd) (hIo : Rd w.heap.size w so zo) (hId : Rd w.heap.size w sd zd) (hlo : zo.length ≤ 140737488355328) (hld : zd.length ≤ 140737488355328)
    (ht : 0 ≤ tos ∧ tos ≤ 255) (hid : 0 ≤ id ∧ id ≤ 65535) (htt : 0 ≤ ttl ∧ ttl ≤ 255) (hpr : 0 ≤ proto ∧ proto ≤ 255) (hsr : 0 ≤ src ∧ src ≤ 4294967295) (hds : 0 ≤ dst ∧ dst ≤ 4294967295) :
    Calls Try.prog 4 #[.agg #[.int .u8 tos, .int .u16 id, .bool keep, .int .u8 ttl, .int .u8 proto, .int .u32 src, .int .u32 dst, so, sd]] w fun e w' => e = .returned (.bool true) ∧ Below w.heap.size w w' := by
  obtain ⟨ao, co, rfl, hl1, hm1⟩ := hIo.slice
  obtain ⟨ad, cd, rfl, hl2, hm2⟩ := hId.slice
  have hbox : Below w.heap.size w (w.alloc (.cells #[.int .u8 tos, .int .u16 id, .bool keep, .int .u8 ttl, .int .u8 proto, .int .u32 src, .int .u32 dst, .slice ao zo.length co, .slice ad zd.length cd] 26)) := (Below.refl _ _).alloc (Nat.le_refl _) _
  have hcell := cell_new w #[.int .u8 tos, .int .u16 id, .bool keep, .int .u8 ttl, .int .u8 proto, .int .u32 src, .int .u32 dst, .slice ao zo.length co, .slice ad zd.length cd] 26
  by_cases hf : flt zo.length zd.length = 0
  · have hv : zo.length ≤ 40 ∧ zo.length % 4 = 0 ∧ 20 + zo.length + zd.length ≤ 65535 := by unfold flt at hf; split at hf <;> first | omega | (split at hf <;> omega)
    have H8 := hide hcell
    clear hcell hf
    go_enter Try.func4, Try.ntmps4
    go_wp2_with fail
    refine (build_yes tos id ttl proto src dst keep _ _ zo zd _ hBo ((hIo.below hbox).mono (by simp)) ((hId.below hbox).mono (by simp)) hv.1 hv.2.1 hv.2.2 ht hid htt hpr hsr hds).mono ?_
    rintro e w1 ⟨v1, rfl, hO1, hb1⟩
    have hBh : Mt.By (h20 tos id keep ttl proto src dst zo.length (20 + zo.length + zd.length) 0 ++ zo) := (h20_by tos id keep ttl proto src dst zo.length (20 + zo.length + zd.length) 0 hv.1 ht hid htt hpr hsr hds (by omega) (by omega)).append hBo
    have hHb : Mt.By (hdr tos id keep ttl proto src dst zo (20 + zo.length + zd.length)) := by
      rw [hdr_eq]
      exact (h20_by tos id keep ttl proto src dst zo.length (20 + zo.length + zd.length) _ hv.1 ht hid htt hpr hsr hds (by omega) (Mt.cks_bd _)).append hBo
    have hBb := hHb.append hBd
    have hgood := hdr_good tos id keep ttl proto src dst zo (20 + zo.length + zd.length) hBh
    have hlen : (hdr tos id keep ttl proto src dst zo (20 + zo.length + zd.length) ++ zd).length = 20 + zo.length + zd.length := by rw [List.length_append, hdr_len]
    have htake : (hdr tos id keep ttl proto src dst zo (20 + zo.length + zd.length) ++ zd).take (20 + zo.length) = hdr tos id keep ttl proto src dst zo (20 + zo.length + zd.length) := by rw [← hdr_len tos id keep ttl proto src dst zo (20 + zo.length + zd.length), List.take_left]
    have hdrop : (hdr tos id keep ttl proto src dst zo (20 + zo.length + zd.length) ++ zd).drop (20 + zo.length) = zd := by rw [← hdr_len tos id keep ttl proto src dst zo (20 + zo.length + zd.length), List.drop_left]
    have g2 := hdr_wat2 tos id keep ttl proto src dst zo zd (20 + zo.length + zd.length)
    have gs := hdr_src tos id keep ttl proto src dst zo zd (20 + zo.length + zd.length)
    have gd := hdr_dst tos id keep ttl proto src dst zo zd (20 + zo.length + zd.length)
    rw [← htake] at hgood
    generalize hdr tos id keep ttl proto src dst zo (20 + zo.length + zd.length) ++ zd = bb at *
    clear hBh hHb htake
    have hI1 := hO1.rd
    have hI1' : Rd w1.heap.size w1 v1 bb := hI1
    have Hg := hide hgood
    have Hd := hide hdrop
    have H2 := hide g2
    have Hs := hide gs
    have Ht := hide gd
    clear hgood hdrop g2 gs gd
    obtain ⟨a1, cap1, rfl, hl3, hm3⟩ := hO1.slice
    rw [hlen] at hl3 hI1 hO1 hI1' ⊢
    have hw1 := hbox.trans (hb1.mono (by simp))
    have hbc : ∀ j, w1.cell? ⟨w.heap.size, j, none⟩ = #[Value.int .u8 tos, .int .u16 id, .bool keep, .int .u8 ttl, .int .u8 proto, .int .u32 src, .int .u32 dst, .slice ao zo.length co, .slice ad zd.length cd][j]? := fun j => (hb1.cell (p := ⟨w.heap.size, j, none⟩) (by simp)).trans (H8.out j)
    have hs1 : w.heap.size < w1.heap.size := by have := hb1.size; simp at this; omega
    have b7 := hbc 7
    simp at b7
    have HC := hide hbc
    clear hbc H8
    go_wp2_with fail
    refine wpQuiet_region (C := fun w' => Below w1.heap.size w1 w') (by kernel_rfl) (by kernel_rfl) (below_draw (Below.refl _ _) 1) ?_
    have hc5 : ∀ w', Below w1.heap.size w1 w' → w'.cell? ⟨w.heap.size, 5, none⟩ = some (.int .u32 src) := fun w' h => (h.cell (p := ⟨w.heap.size, 5, none⟩) hs1).trans (HC.out 5)
    have hc6 : ∀ w', Below w1.heap.size w1 w' → w'.cell? ⟨w.heap.size, 6, none⟩ = some (.int .u32 dst) := fun w' h => (h.cell (p := ⟨w.heap.size, 6, none⟩) hs1).trans (HC.out 6)
    have hc8 : ∀ w', Below w1.heap.size w1 w' → w'.cell? ⟨w.heap.size, 8, none⟩ = some (.slice ad zd.length cd) := fun w' h => (h.cell (p := ⟨w.heap.size, 8, none⟩) hs1).trans (HC.out 8)
    have d1 : (20 : Int) + zo.length ≤ ((20 + zo.length + zd.length : Nat) : Int) := by omega
    have d2 : (20 : Int) + zo.length ≤ 20 + zo.length + zd.length := by omega
    repeat (first | go_big_quiet_skip | (go_big_quiet_want; first | (refine quiet_move _ rfl ?_; go_big_quiet_on) | (refine quiet_assign _ rfl ?_; go_big_quiet_on) | (refine quiet_ex ?_; apply Exists.intro; refine ⟨fun w' hw' => ?_, ?_⟩; (· (go_simp; rfl)); go_simp; go_big_quiet_on)))
    have d3 : (20 : Int) + zo.length ≤ cap1 := by omega
    have d4 : (0 : Int) ≤ 20 + zo.length := by omega
    have d5 : ((20 : Int) + zo.length).toNat = 20 + zo.length := by omega
    go_big_quiet_want
    refine quiet_at (.slice a1 (20 + zo.length) cap1) (fun w' hw' => ?_) ?_
    · go_simp
    go_simp
    go_big_quiet_on
    go_big_quiet_want
    refine quiet_call 10 #[.slice a1 (20 + zo.length) cap1] (.bool true) (fun w' hw' => ?_) (fun w' hw' => ?_) ?_
    · go_simp
    · exact (good_any _ (bb.take (20 + zo.length)) (hBb.take _) (by simp; omega) w' (((hI1.take (20 + zo.length) (by omega)).below hw').mono hw'.size)).mono fun e w'' ⟨he, hb⟩ => ⟨by rw [he, Hg.out]; rfl, hw'.trans (hb.mono hw'.size)⟩
    go_simp
    go_big_quiet_on
    repeat (first | go_big_quiet_skip | (go_big_quiet_want; first | (refine quiet_move _ rfl ?_; go_big_quiet_on) | (refine quiet_assign _ rfl ?_; go_big_quiet_on) | (refine quiet_ex ?_; apply Exists.intro; refine ⟨fun w' hw' => ?_, ?_⟩; (· (go_simp; rfl)); go_simp; go_big_quiet_on)))
    go_big_quiet_want
    refine quiet_call 11 #[.slice a1 (20 + zo.length + zd.length) cap1, .int .i64 2] (.int .u16 (20 + zo.length + zd.length)) (fun w' hw' => ?_) (fun w' hw' => ?_) ?_
    · go_simp
    · exact (get16_rd _ bb hBb 2 (by omega) w' (hI1.below hw')).mono fun e w'' ⟨he, q, hb⟩ => ⟨by rw [he, H2.out], by rw [hb]; exact below_draw hw' q⟩
    go_simp
    go_big_quiet_on
    go_big_quiet_want
    refine quiet_at (.int .i64 (20 + zo.length + zd.length)) (fun w' hw' => ?_) ?_
    · go_simp
      simp [IntKind.wrap, IntKind.bits, IntKind.signed]
      omega
    go_simp
    go_big_quiet_on
    repeat (first | go_big_quiet_skip | (go_big_quiet_want; first | (refine quiet_move _ rfl ?_; go_big_quiet_on) | (refine quiet_assign _ rfl ?_; go_big_quiet_on) | (refine quiet_ex ?_; apply Exists.intro; refine ⟨fun w' hw' => ?_, ?_⟩; (· (go_simp; rfl)); go_simp; go_big_quiet_on)))
    go_big_quiet_want
    refine quiet_call 12 #[.slice a1 (20 + zo.length + zd.length) cap1, .int .i64 12] (.int .u32 src) (fun w' hw' => ?_) (fun w' hw' => ?_) ?_
    · go_simp
    · exact (get32_rd _ bb hBb 12 (by omega) w' (hI1.below hw')).mono fun e w'' ⟨he, q, hb⟩ => ⟨by rw [he, Hs.out], by rw [hb]; exact below_draw hw' q⟩
    go_simp
    go_big_quiet_on
    repeat (first | go_big_quiet_skip | (go_big_quiet_want; first | (refine quiet_move _ rfl ?_; go_big_quiet_on) | (refine quiet_assign _ rfl ?_; go_big_quiet_on) | (refine quiet_ex ?_; apply Exists.intro; refine ⟨fun w' hw' => ?_, ?_⟩; (· (go_simp; rfl)); go_simp; go_big_quiet_on)))
    go_big_quiet_want
    refine quiet_call 12 #[.slice a1 (20 + zo.length + zd.length) cap1, .int .i64 16] (.int .u32 dst) (fun w' hw' => ?_) (fun w' hw' => ?_) ?_
    · go_simp
    · exact (get32_rd _ bb hBb 16 (by omega) w' (hI1.below hw')).mono fun e w'' ⟨he, q, hb⟩ => ⟨by rw [he, Ht.out], by rw [hb]; exact below_draw hw' q⟩
    go_simp
    go_big_quiet_on
    have hcs : ∀ w', Below w1.heap.size w1 w' → (convert 24 9 (sliced a1 (20 + zo.length) (20 + zo.length + zd.length) cap1 1)).run Try.prog w' = .ok (.string (strOfNums zd)) w' := fun w' h => by
      have := (hI1.drop (20 + zo.length) (by omega)).below h
      rw [Hd.out] at this
      exact conv_rd 24 9 5 Try.underlying24 Try.underlying5 Try.underlying9 this
    have hct : ∀ w', Below w1.heap.size w1 w' → (convert 24 9 (.slice ad zd.length cd)).run Try.prog w' = .ok (.string (strOfNums zd)) w' := fun w' h => conv_rd 24 9 5 Try.underlying24 Try.underlying5 Try.underlying9 ((hId.below hw1).below (h.mono hw1.size))
    have HS : ∃ vs, vs = sliced a1 (20 + zo.length) (20 + zo.length + zd.length) cap1 1 := ⟨_, rfl⟩
    obtain ⟨vs, hvs⟩ := HS
    rw [← hvs] at hcs
    have HV := hide hvs
    clear hvs
    (first | go_big_quiet_skip | (go_big_quiet_want; first | (refine quiet_move _ rfl ?_; go_big_quiet_on) | (refine quiet_assign _ rfl ?_; go_big_quiet_on) | (refine quiet_ex ?_; apply Exists.intro; refine ⟨fun w' hw' => ?_, ?_⟩; (· (go_simp; rfl)); go_simp; go_big_quiet_on)))
    (first | go_big_quiet_skip | (go_big_quiet_want; first | (refine quiet_move _ rfl ?_; go_big_quiet_on) | (refine quiet_assign _ rfl ?_; go_big_quiet_on) | (refine quiet_ex ?_; apply Exists.intro; refine ⟨fun w' hw' => ?_, ?_⟩; (· (go_simp; rfl)); go_simp; go_big_quiet_on)))
    (first | go_big_quiet_skip | (go_big_quiet_want; first | (refine quiet_move _ rfl ?_; go_big_quiet_on) | (refine quiet_assign _ rfl ?_; go_big_quiet_on) | (refine quiet_ex ?_; apply Exists.intro; refine ⟨fun w' hw' => ?_, ?_⟩; (· (go_simp; rfl)); go_simp; go_big_quiet_on)))
    (first | go_big_quiet_skip | (go_big_quiet_want; first | (refine quiet_move _ rfl ?_; go_big_quiet_on) | (refine quiet_assign _ rfl ?_; go_big_quiet_on) | (refine quiet_ex ?_; apply Exists.intro; refine ⟨fun w' hw' => ?_, ?_⟩; (· (go_simp; rfl)); go_simp; go_big_quiet_on)))
    (first | go_big_quiet_skip | (go_big_quiet_want; first | (refine quiet_move _ rfl ?_; go_big_quiet_on) | (refine quiet_assign _ rfl ?_; go_big_quiet_on) | (refine quiet_ex ?_; apply Exists.intro; refine ⟨fun w' hw' => ?_, ?_⟩; (· (go_simp; rfl)); go_simp; go_big_quiet_on)))
    (first | go_big_quiet_skip | (go_big_quiet_want; first | (refine quiet_move _ rfl ?_; go_big_quiet_on) | (refine quiet_assign _ rfl ?_; go_big_quiet_on) | (refine quiet_ex ?_; apply Exists.intro; refine ⟨fun w' hw' => ?_, ?_⟩; (· (go_simp; rfl)); go_simp; go_big_quiet_on)))
    (first | go_big_quiet_skip | (go_big_quiet_want; first | (refine quiet_move _ rfl ?_; go_big_quiet_on) | (refine quiet_assign _ rfl ?_; go_big_quiet_on) | (refine quiet_ex ?_; apply Exists.intro; refine ⟨fun w' hw' => ?_, ?_⟩; (· (go_simp; rfl)); go_simp; go_big_quiet_on)))
    go_big_quiet_want
    refine quiet_at vs (fun w' hw' => ?_) ?_
    · rw [HV.out]
      go_simp
    go_simp
    go_big_quiet_on
    repeat (first | go_big_quiet_skip | (go_big_quiet_want; first | (refine quiet_move _ rfl ?_; go_big_quiet_on) | (refine quiet_assign _ rfl ?_; go_big_quiet_on) | (refine quiet_ex ?_; apply Exists.intro; refine ⟨fun w' hw' => ?_, ?_⟩; (· (go_simp; rfl)); go_simp; go_big_quiet_on)))
    refine wpQuiet_nil ?_
    intro w2 hw2
    go_wp2
    go_ret
    exact ⟨rfl, hw1.trans (hw2.mono hw1.size)⟩
  · have hf' : (flt zo.length zd.length != 0) = true := by simp [hf]
    have hf2 : (flt zo.length zd.length == 0) = false := by simp [hf]
    have H8 := hide hcell
    clear hcell
    go_enter Try.func4, Try.ntmps4
    go_wp2_with fail
    refine (build_no tos id ttl proto src dst keep ao ad zo.length co zd.length cd _ hlo hld hf).mono ?_
    rintro e w1 ⟨rfl, hb1⟩
    have hw1 := hbox.trans (hb1.mono (by simp))
    have hbc : ∀ j, w1.cell? ⟨w.heap.size, j, none⟩ = #[Value.int .u8 tos, .int .u16 id, .bool keep, .int .u8 ttl, .int .u8 proto, .int .u32 src, .int .u32 dst, .slice ao zo.length co, .slice ad zd.length cd][j]? := fun j => (hb1.cell (p := ⟨w.heap.size, j, none⟩) (by simp)).trans (H8.out j)
    have hs1 : w.heap.size < w1.heap.size := by have := hb1.size; simp at this; omega
    clear hf H8 hb1
    go_wp2_with fail
    refine (build_yes 0 0 0 0 0 0 false _ _ [] [] _ Mt.By.nil (zero_rd _) (zero_rd _) (by simp) (by simp) (by simp) (by omega) (by omega) (by omega) (by omega) (by omega) (by omega)).mono ?_
    rintro e w2 ⟨v2, rfl, hO2, hb2⟩
    obtain ⟨a2, cap2, rfl, hl2', hm2'⟩ := hO2.slice
    have hlen : (hdr 0 0 false 0 0 0 0 [] (20 + ([] : List Int).length + ([] : List Int).length) ++ []).length = 20 := by rw [List.length_append, hdr_len]; rfl
    rw [hlen]
    have hbc2 : ∀ j, w2.cell? ⟨w.heap.size, j, none⟩ = #[Value.int .u8 tos, .int .u16 id, .bool keep, .int .u8 ttl, .int .u8 proto, .int .u32 src, .int .u32 dst, .slice ao zo.length co, .slice ad zd.length cd][j]? := fun j => (hb2.cell (p := ⟨w.heap.size, j, none⟩) hs1).trans (hbc j)
    have b0 := hbc2 0
    have b1 := hbc2 1
    have b2 := hbc2 2
    have b3 := hbc2 3
    have b4 := hbc2 4
    have b5 := hbc2 5
    have b6 := hbc2 6
    have b7 := hbc2 7
    have b8 := hbc2 8
    simp at b0 b1 b2 b3 b4 b5 b6 b7 b8
    have hw2 := hw1.trans (hb2.mono hw1.size)
    clear hbc hbc2 hO2 hlen hl2' hb2
    go_wp2_with fail
    refine (right_any tos id ttl proto src dst keep ao ad zo.length co zd.length cd _ hlo hld).mono ?_
    rintro e w3 ⟨rfl, hb3⟩
    rw [hf2]
    go_wp2
    go_ret
    exact ⟨rfl, hw2.trans (hb3.mono hw2.size)⟩
end Go.Proofs.Ytiigmhddnaocoad
