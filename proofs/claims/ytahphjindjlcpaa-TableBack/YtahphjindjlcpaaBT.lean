/- The document's Put. -/
import Derived.Test.YtahphjindjlcpaaBS
import Derived.Test.YtahphjindjlcpaaRv
namespace Go.Proofs.Ytahphjindjlcpaa
open Go.RowKit Go.Shelf
set_option maxRecDepth 100000
set_option linter.unusedVariables false
set_option linter.unusedSimpArgs false

theorem info_drow : (Try.prog.info? 86).map (fun i => (i.zero, i.size, i.bytes)) = some (some (.agg #[.int .u8 0, .int .u32 0, .int .u32 0, .int .u16 0, .int .u16 0, .int .i64 0, .int .i64 0, .int .i64 0]), 8, 40) := by kernel_rfl

theorem new_drow (W : World) (x : Rw) : ∀ j u, (rwc x)[j]? = some u → (W.alloc (.cells (rwc x).toArray 86)).cell? ((⟨W.heap.size, 0, none⟩ : Addr).add j) = some u := fun j u hj => by
  rw [show (⟨W.heap.size, 0, none⟩ : Addr).add j = ⟨W.heap.size, j, none⟩ from by unfold Addr.add; split <;> simp_all, block_cell (heap_alloc_new W _) j]
  simpa using hj
/-- What the document's Put answers. -/
def rpe (lim : Int) (l : List Rw) (p s d a b till : Int) : Int := if mayb till = false then 2 else if kix p s d (kyp p a) b l ≠ none then 10 else if lim ≤ l.length then 9 else 0
/-- How a change of the document's table leaves it. -/
def DTq (base : Nat) (w w' : World) (b : Nat) (v : Value) (lim sq : Int) (l : List Rw) : Prop := ∃ v', DT base w' b v' lim sq l ∧ But (fun g => g = b ∨ v.ownBlock = some g) w w' ∧ (v'.ownBlock = v.ownBlock ∨ ∀ g, v'.ownBlock = some g → w.heap.size ≤ g)
theorem DTq.same {base : Nat} {w w' : World} {b : Nat} {v : Value} {lim sq : Int} {l : List Rw} (h : DT base w b v lim sq l) (k : Later w w') : DTq base w w' b v lim sq l := ⟨v, h.later k, But.of k, .inl rfl⟩

set_option maxHeartbeats 8000000 in
theorem rput_any (base bt : Nat) (v : Value) (lim sq : Int) (l : List Rw) (p s d a b id till : Int) (w : World) (hT : DT base w bt v lim sq l) (hl : l.length ≤ 5000) (hsq : 0 ≤ sq ∧ sq ≤ 1000000) (hbs : base ≤ w.heap.size) :
    Calls Try.prog 28 #[.pointer (some ⟨bt, 0, none⟩), .agg #[.int .u8 p, .int .u32 s, .int .u32 d, .int .u16 a, .int .u16 b], .int .i64 id, .int .i64 till] w fun e w' => e = .returned (.int .i64 (rpe lim l p s d a b till)) ∧
      ((rpe lim l p s d a b till ≠ 0 ∧ DTq base w w' bt v lim sq l) ∨ (rpe lim l p s d a b till = 0 ∧ DTq base w w' bt v lim (sq + 1) (l ++ [⟨p, s, d, kyp p a, b, id, till, sq + 1⟩]))) := by
  obtain ⟨i0, hi0, hz0, hz1, hz2⟩ := info_parts info_drow
  have lb0 : Later w (w.alloc (.cells #[.int .u8 p, .int .u32 s, .int .u32 d, .int .u16 a, .int .u16 b] 26)) := (Below.refl _ _).alloc (Nat.le_refl _) _
  have t0 := heap_alloc_new w (.cells #[.int .u8 p, .int .u32 s, .int .u32 d, .int .u16 a, .int .u16 b] 26)
  obtain ⟨av, cv, rfl, hcv1, hcv2⟩ := (ownD_rd hT.2.2).slice
  have HAT := hide (fun W (hW : Later w W) => at_any base bt _ lim sq l p s d a b W (hT.later hW))
  go_enter Try.func28, Try.ntmps28
  cases hmb : mayb till with
  | false =>
    have hpe : rpe lim l p s d a b till = 2 := by unfold rpe; rw [if_pos hmb]
    have HPE := hide hpe
    have hmb' : till < 0 ∨ 1099511627776 < till := by unfold mayb at hmb; simp at hmb; omega
    clear hpe hmb
    by_cases h0 : till < 0
    · clear hmb'
      go_wp2_with fail
      go_ret
      exact ⟨by rw [HPE.out]; rfl, .inl ⟨by rw [HPE.out]; omega, DTq.same hT lb0⟩⟩
    · have h1 : 1099511627776 < till := by omega
      clear hmb'
      go_wp2_with fail
      go_ret
      exact ⟨by rw [HPE.out]; rfl, .inl ⟨by rw [HPE.out]; omega, DTq.same hT lb0⟩⟩
  | true =>
    have hmb' : 0 ≤ till ∧ till ≤ 1099511627776 := by unfold mayb at hmb; simpa using hmb
    have h0 : ¬ till < 0 := by omega
    have h1 : ¬ 1099511627776 < till := by omega
    have HMB := hide hmb
    have k0 := block_cell t0
    clear hmb hmb'
    go_wp2_with fail
    generalize w.alloc _ = w0 at *
    refine (HAT.out w0 lb0).mono ?_
    rintro e w1 ⟨rfl, l1⟩
    have L1 := lb0.trans l1
    clear k0
    cases hkx : kix p s d (kyp p a) b l with
    | some k =>
      have hpe : rpe lim l p s d a b till = 10 := by unfold rpe; rw [HMB.out, hkx]; simp
      have HPE := hide hpe
      clear hpe hkx
      rw [rix_some]
      have hk0 : (0 : Int) ≤ (k : Int) := by omega
      go_wp2_with fail
      go_ret
      exact ⟨by rw [HPE.out]; rfl, .inl ⟨by rw [HPE.out]; omega, DTq.same hT L1⟩⟩
    | none =>
      have HKX := hide hkx
      clear hkx
      rw [rix_none]
      have hT1 := hT.later L1
      have kT := block_cell hT1.2.1
      have t1 := later_keep l1 t0
      go_upto_region 7 with fail
      by_cases hfull : lim ≤ l.length
      · have hpe : rpe lim l p s d a b till = 9 := by unfold rpe; rw [HMB.out, HKX.out, if_neg (by simp), if_neg (by simp), if_pos hfull]
        have HPE := hide hpe
        clear hpe
        go_quiet (fail)
        go_wp2_with fail
        go_ret
        exact ⟨by rw [HPE.out]; rfl, .inl ⟨by rw [HPE.out]; omega, DTq.same hT (L1.trans (below_draw (Later.refl _) _))⟩⟩
      · have hpe : rpe lim l p s d a b till = 0 := by unfold rpe; rw [HMB.out, HKX.out, if_neg (by simp), if_neg (by simp), if_neg hfull]
        have HPE := hide hpe
        clear hpe
        go_quiet (fail)
        have lq : Later w1 (w1.drewN nq) := below_draw (Later.refl _) _
        have L2 := L1.trans lq
        have t2 := later_keep lq t1
        clear kT
        generalize w1.drewN nq = w2 at *
        have hT2 := hT.later L2
        have kT := block_cell hT2.2.1
        have fT := block_frozen hT2.2.1
        have c1 : sq + 1 ≤ 9223372036854775807 := by omega
        go_upto_region 10 with fail
        have hV3 := heap_set1 hT2.2.1 2 (.int .i64 (sq + 1))
        have hbV1 : But (fun g => g = bt) w2 (w2.setCell ⟨bt, 2, none⟩ (.int .i64 (sq + 1))) := (But.refl (fun g => g = bt) _).setCell (p := ⟨bt, 2, none⟩) rfl _
        generalize w2.setCell ⟨bt, 2, none⟩ (.int .i64 (sq + 1)) = w3 at *
        clear kT fT
        have hgb : ∀ g, Value.ownBlock (.slice av l.length cv) = some g → g ≠ bt := fun g hg e => hT.ne hT.2.1 (by decide) (by rw [← e]; exact hg)
        have hT3 : DT base w3 bt (.slice av l.length cv) lim (sq + 1) l := by
          refine ⟨hT.1, hV3, ?_⟩
          obtain ⟨q1, q2 | ⟨g, cap, cur, e, q2, q3, q4⟩⟩ := hT2.2.2
          · exact ⟨q1, .inl q2⟩
          · exact ⟨q1, .inr ⟨g, cap, cur, e, q2, (hbV1.block g (Array.getElem?_eq_some_iff.1 q3).1 (hgb g (by rw [e]; rfl))).trans q3, q4⟩⟩
        have hxb : w.heap.size ≠ bt := fun e => by have := hT.blt; omega
        have t3 := (hbV1.block w.heap.size (Array.getElem?_eq_some_iff.1 t2).1 hxb).trans t2
        have B3 : But (fun g => g = bt ∨ Value.ownBlock (.slice av l.length cv) = some g) w w3 := (But.of L2).trans ⟨hbV1.os, hbV1.tape, hbV1.output, hbV1.size, fun k hk he => hbV1.block k hk (fun e => he (.inl e))⟩
        refine anyU_begin (R1 := Later) (R2 := But (fun g => g = bt ∨ Value.ownBlock (.slice av l.length cv) = some g)) (D := [15, 18]) 19 rfl (by kernel_rfl) ?_
        have ld : Later w3 w3.drew := Later.drew w3
        have td := later_keep ld t3
        have hTd := hT3.later ld
        have B4 := B3.trans (But.of ld)
        generalize w3.drew = Wd at *
        have hA : ∀ v1, Later Wd v1 → ∀ j, v1.cell? ⟨w.heap.size, j, none⟩ = #[Value.int .u8 p, .int .u32 s, .int .u32 d, .int .u16 a, .int .u16 b][j]? := fun v1 hv => block_cell (later_keep hv td)
        have hB : ∀ v1, Later Wd v1 → ∀ j, v1.cell? ⟨bt, j, none⟩ = #[Value.slice av l.length cv, .int .i64 lim, .int .i64 (sq + 1)][j]? := fun v1 hv => block_cell (later_keep hv hTd.2.1)
        refine anyU_pure Later.refl (But.refl _) 0 rfl (by kernel_rfl) (by kernel_rfl) (by kernel_rfl) (fun _ _ _ _ h => h) (by rfl) ?_; apply Exists.intro; refine ⟨fun v1 => ?_, ?_⟩; (· (go_simp; rfl)); simp only [Act.put, List.setIfInBounds_toArray, List.set_cons_zero, List.set_cons_succ]
        refine anyU_pure Later.refl (But.refl _) 1 rfl (by kernel_rfl) (by kernel_rfl) (by kernel_rfl) (fun _ _ _ _ h => h) (by rfl) ?_; apply Exists.intro; refine ⟨fun v1 => ?_, ?_⟩; (· (go_simp; rfl)); simp only [Act.put, List.setIfInBounds_toArray, List.set_cons_zero, List.set_cons_succ]
        refine anyU_pure Later.refl (But.refl _) 2 rfl (by kernel_rfl) (by kernel_rfl) (by kernel_rfl) (fun _ _ _ _ h => h) (by rfl) ?_; apply Exists.intro; refine ⟨fun v1 => ?_, ?_⟩; (· (go_simp; rfl)); simp only [Act.put, List.setIfInBounds_toArray, List.set_cons_zero, List.set_cons_succ]
        refine anyU_pure Later.refl (But.refl _) 3 rfl (by kernel_rfl) (by kernel_rfl) (by kernel_rfl) (fun _ _ _ _ h => h) (by rfl) ?_; apply Exists.intro; refine ⟨fun v1 => ?_, ?_⟩; (· (go_simp; rfl)); simp only [Act.put, List.setIfInBounds_toArray, List.set_cons_zero, List.set_cons_succ]
        refine anyU_val Later.pre 4 [15, 18] rfl (by rfl) (by rfl) (by kernel_rfl) (by kernel_rfl) (by kernel_rfl) (by kernel_rfl) (by kernel_rfl) (fun _ _ _ _ h => h) (by rfl) ?_; apply Exists.intro; refine ⟨fun v1 hv1 => ?_, ?_⟩; (· (go_simp; rfl)); simp only [Act.put, List.setIfInBounds_toArray, List.set_cons_zero, List.set_cons_succ]
        refine anyU_val Later.pre 5 [6, 13, 14, 15, 18] rfl (by rfl) (by rfl) (by kernel_rfl) (by kernel_rfl) (by kernel_rfl) (by kernel_rfl) (by kernel_rfl) (fun _ _ _ _ h => h) (by rfl) ?_; apply Exists.intro; refine ⟨fun v1 hv1 => ?_, ?_⟩; (· (go_simp; rfl)); simp only [Act.put, List.setIfInBounds_toArray, List.set_cons_zero, List.set_cons_succ]
        refine anyU_pure Later.refl (But.refl _) 7 rfl (by kernel_rfl) (by kernel_rfl) (by kernel_rfl) (fun _ _ _ _ h => h) (by rfl) ?_; apply Exists.intro; refine ⟨fun v1 => ?_, ?_⟩; (· (go_simp; rfl)); simp only [Act.put, List.setIfInBounds_toArray, List.set_cons_zero, List.set_cons_succ]
        refine anyU_pure Later.refl (But.refl _) 8 rfl (by kernel_rfl) (by kernel_rfl) (by kernel_rfl) (fun _ _ _ _ h => h) (by rfl) ?_; apply Exists.intro; refine ⟨fun v1 => ?_, ?_⟩; (· (go_simp; rfl)); simp only [Act.put, List.setIfInBounds_toArray, List.set_cons_zero, List.set_cons_succ]
        refine anyU_pure Later.refl (But.refl _) 9 rfl (by kernel_rfl) (by kernel_rfl) (by kernel_rfl) (fun _ _ _ _ h => h) (by rfl) ?_; apply Exists.intro; refine ⟨fun v1 => ?_, ?_⟩; (· (go_simp; rfl)); simp only [Act.put, List.setIfInBounds_toArray, List.set_cons_zero, List.set_cons_succ]
        refine anyU_pure Later.refl (But.refl _) 10 rfl (by kernel_rfl) (by kernel_rfl) (by kernel_rfl) (fun _ _ _ _ h => h) (by rfl) ?_; apply Exists.intro; refine ⟨fun v1 => ?_, ?_⟩; (· (go_simp; rfl)); simp only [Act.put, List.setIfInBounds_toArray, List.set_cons_zero, List.set_cons_succ]
        refine anyU_pure Later.refl (But.refl _) 11 rfl (by kernel_rfl) (by kernel_rfl) (by kernel_rfl) (fun _ _ _ _ h => h) (by rfl) ?_; apply Exists.intro; refine ⟨fun v1 => ?_, ?_⟩; (· (go_simp; rfl)); simp only [Act.put, List.setIfInBounds_toArray, List.set_cons_zero, List.set_cons_succ]
        refine anyU_val Later.pre 12 [13, 14, 15, 18] rfl (by rfl) (by rfl) (by kernel_rfl) (by kernel_rfl) (by kernel_rfl) (by kernel_rfl) (by kernel_rfl) (fun _ _ _ _ h => h) (by rfl) ?_; apply Exists.intro; refine ⟨fun v1 hv1 => ?_, ?_⟩; (· (go_simp; rfl)); simp only [Act.put, List.setIfInBounds_toArray, List.set_cons_zero, List.set_cons_succ]
        clear hA hB
        refine anyU_one 6 rfl (by kernel_rfl) (by rfl) ?_
        refine wp_enter 45 #[.agg #[.int .u8 p, .int .u32 s, .int .u32 d, .int .u16 a, .int .u16 b]] (by go_simp) ?_
        refine (rkey_any p s d a b Wd).mono ?_
        rintro e W1 ⟨rfl, hb1⟩
        have m1 : Later Wd W1 := hb1
        refine ⟨Rj_out (by rfl) m1, ?_⟩
        simp only [Act.put, List.setIfInBounds_toArray, List.set_cons_zero, List.set_cons_succ]
        refine anyU_pure Later.refl (But.refl _) 13 rfl (by kernel_rfl) (by kernel_rfl) (by kernel_rfl) (fun _ _ _ _ h => h) (by rfl) ?_; apply Exists.intro; refine ⟨fun v1 => ?_, ?_⟩; (· (go_simp; rfl)); simp only [Act.put, List.setIfInBounds_toArray, List.set_cons_zero, List.set_cons_succ]
        refine anyU_one 14 rfl (by kernel_rfl) (by rfl) ?_
        unfold Oper.wp
        go_simp
        have l2 : Later W1 (W1.alloc (.cells (rwc ⟨p, s, d, kyp p a, b, id, till, sq + 1⟩).toArray 86)) := (Below.refl _ _).alloc (Nat.le_refl _) _
        have HN1 := new_drow W1 ⟨p, s, d, kyp p a, b, id, till, sq + 1⟩
        have LL := m1.trans l2
        refine ⟨Rj_out (by rfl) l2, ?_⟩
        change wpAnyU _ _ _ _ _ _ _ _ _ _ (W1.alloc (.cells (rwc ⟨p, s, d, kyp p a, b, id, till, sq + 1⟩).toArray 86))
        generalize W1.alloc (.cells (rwc ⟨p, s, d, kyp p a, b, id, till, sq + 1⟩).toArray 86) = W5 at *
        generalize W1.heap.size = gn at *
        have hT5 := hTd.later LL
        have hs5 : w.heap.size ≤ W5.heap.size := Nat.le_trans B4.size LL.size
        refine anyU_one 15 rfl (by kernel_rfl) (by rfl) ?_
        refine wp_append_lies W5 (.tmp 46) (.tmp 56) 67 rfl base 86 i0 (.agg #[.int .u8 0, .int .u32 0, .int .u32 0, .int .u16 0, .int .u16 0, .int .i64 0, .int .i64 0, .int .i64 0]) 8 40 Try.underlying67 hi0 hz0 hz1 hz2 rfl (by decide) (.slice av l.length cv) l.length (rws l) rfl hT5.2.2 ⟨gn, 0, none⟩ 1 1 (rwc ⟨p, s, d, kyp p a, b, id, till, sq + 1⟩) rfl rfl HN1 (by intro u hu; simp only [rwc, List.mem_cons, List.not_mem_nil, or_false] at hu; rcases hu with rfl | rfl | rfl | rfl | rfl | rfl | rfl | rfl <;> rfl) (by omega) (by unfold maxLen; omega) (by omega) (by omega) _ rfl ?_
        intro g' cap' W6 hrow6 hg6 hpl hlt6
        have hb6 : But (fun g => g = bt ∨ Value.ownBlock (.slice av l.length cv) = some g) W5 W6 := ⟨hg6.os, hg6.tape, hg6.output, hg6.size, fun k hk he => hg6.block k hk (fun e => he (.inr e.symm))⟩
        refine ⟨Rj_in (by rfl) hb6, ?_⟩
        simp only [Act.put, List.setIfInBounds_toArray, List.set_cons_zero, List.set_cons_succ]
        have h6 : W6.heap[bt]? = some (.cells #[.slice av l.length cv, .int .i64 lim, .int .i64 (sq + 1)] 69 (0, 0)) := (hg6.block bt (Array.getElem?_eq_some_iff.1 hT5.2.1).1 (fun e => hgb bt e.symm rfl)).trans hT5.2.1
        have k6 := block_cell h6
        have f6 := block_frozen h6
        refine anyU_pure Later.refl (But.refl _) 16 rfl (by kernel_rfl) (by kernel_rfl) (by kernel_rfl) (fun _ _ _ _ h => h) (by rfl) ?_; apply Exists.intro; refine ⟨fun v1 => ?_, ?_⟩; (· (go_simp; rfl)); simp only [Act.put, List.setIfInBounds_toArray, List.set_cons_zero, List.set_cons_succ]
        refine anyU_pure Later.refl (But.refl _) 17 rfl (by kernel_rfl) (by kernel_rfl) (by kernel_rfl) (fun _ _ _ _ h => h) (by rfl) ?_; apply Exists.intro; refine ⟨fun v1 => ?_, ?_⟩; (· (go_simp; rfl)); simp only [Act.put, List.setIfInBounds_toArray, List.set_cons_zero, List.set_cons_succ]
        refine anyU_one 18 rfl (by kernel_rfl) (by rfl) ?_
        unfold Oper.wp
        go_simp
        generalize hV : W6.setCell ⟨bt, 0, none⟩ _ = V
        have hV4 := heap_set1 h6 0 (.slice (some ⟨g', 0, none⟩) (l.length + 1) cap')
        rw [hV] at hV4
        have hbV2 : But (fun g => g = bt ∨ Value.ownBlock (.slice av l.length cv) = some g) W6 V := by rw [← hV]; exact (But.refl (fun g => g = bt ∨ Value.ownBlock (.slice av l.length cv) = some g) _).setCell (p := ⟨bt, 0, none⟩) (.inl rfl) _
        have hbV3 : But (fun g => g = bt) W6 V := by rw [← hV]; exact (But.refl (fun g => g = bt) _).setCell (p := ⟨bt, 0, none⟩) rfl _
        refine ⟨Rj_in (by rfl) hbV2, ?_⟩
        clear hV k6 f6
        refine anyU_done (by kernel_rfl) ?_
        have hfin : DTq base w V bt (.slice av l.length cv) lim (sq + 1) (l ++ [⟨p, s, d, kyp p a, b, id, till, sq + 1⟩]) := by
          refine ⟨.slice (some ⟨g', 0, none⟩) (l.length + 1) cap', ⟨hT.1, hV4, ?_⟩, B4.trans ((But.of LL).trans (hb6.trans hbV2)), ?_⟩
          · rw [rws_append, List.length_append, List.length_singleton, show rws [(⟨p, s, d, kyp p a, b, id, till, sq + 1⟩ : Rw)] = rwc ⟨p, s, d, kyp p a, b, id, till, sq + 1⟩ from by simp [rws]]
            obtain ⟨q1, ⟨q2, q3⟩ | ⟨g, cap, cur, hv, hgb2, hh, q⟩⟩ := hrow6
            · simp at q2
            · refine ⟨q1, .inr ⟨g, cap, cur, hv, hgb2, (hbV3.block g (Array.getElem?_eq_some_iff.1 hh).1 (fun e => ?_)).trans hh, q⟩⟩
              subst e
              rw [h6] at hh
              simp at hh
          · rcases hpl with h | h
            · exact .inl h.symm
            · refine .inr (fun g hg => ?_)
              have : g' = g := by simpa [Value.ownBlock] using hg
              omega
        have HF := hide hfin
        clear hfin
        go_wp2_with fail
        go_ret
        exact ⟨by rw [HPE.out]; rfl, .inr ⟨HPE.out, HF.out⟩⟩
end Go.Proofs.Ytahphjindjlcpaa
