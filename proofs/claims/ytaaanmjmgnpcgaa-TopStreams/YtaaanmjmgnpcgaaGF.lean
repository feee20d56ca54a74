/- Package seqadj: Add, where it adds. -/
import Derived.Test.YtaaanmjmgnpcgaaGE
namespace Go.Proofs.Ytaaanmjmgnpcgaa
open Go.RowKit Go.Shelf
set_option maxRecDepth 100000
set_option linter.unusedVariables false
set_option linter.unusedSimpArgs false

theorem adS_yes {l : List Pa} {s was tl : Int} (h : adS l s was tl = 0) : okN was = true ∧ okN tl = true ∧ pssd l s = false ∧ l.length < 8 := by
  unfold adS at h
  cases h1 : okN was <;> cases h2 : okN tl <;> cases h3 : pssd l s <;> simp [h1, h2, h3] at h ⊢
  omega
theorem okN_rng {n : Int} (h : okN n = true) : 1 ≤ n ∧ n ≤ 128 := by unfold okN at h; simpa using h

set_option maxHeartbeats 8000000 in
theorem sadd_yes (base b : Nat) (v : Value) (l : List Pa) (s was : Int) (tv : Value) (zs : List Int) (w : World) (hT : SL 57 base w b v l) (hbs : base ≤ w.heap.size) (hs : 0 ≤ s ∧ s ≤ 4294967295) (hI : Rd w.heap.size w tv zs) (ha : adS l s was zs.length = 0) :
    Calls Try.prog 13 #[.pointer (some ⟨b, 0, none⟩), .int .u32 s, .int .i64 was, tv] w fun e w' => e = .returned (.int .i64 0) ∧ ∃ ta tc, SLq 57 base w w' b v (l ++ [npP l s was zs.length ta tc]) := by
  obtain ⟨h1, h2, h3, h8⟩ := adS_yes ha
  obtain ⟨at0, ct0, rfl, _, _⟩ := hI.slice
  have k0 := block_cell hT.2.1
  obtain ⟨av, cv, rfl, _, _⟩ := (ownP_rd hT.2.2).slice
  have HMB := hide (mayBe_any was w)
  have HMT := hide (mayBe_any zs.length w)
  have HPS := hide (passed_any base b _ l s w hT (by omega))
  have HSH := hide (shift_any base b _ l w hT (by omega))
  rw [h1] at HMB
  rw [h2] at HMT
  rw [h3] at HPS
  have hw := okN_rng h1
  have hz := okN_rng h2
  have h8' : ¬ (8 : Int) ≤ l.length := by omega
  have hsr := shf_rng l
  have HCL := hide (fun W (lw : Later w W) => cloneb_any (.slice at0 zs.length ct0) zs W (by omega) (Rd.later hI lw))
  have HNE : Hid (some b ≠ Value.ownBlock (.slice av l.length cv)) := fun e => hT.ne hT.2.1 (by decide) e.symm
  obtain ⟨hs1, hs2⟩ := hs
  obtain ⟨hw1, hw2⟩ := hw
  obtain ⟨hz1, hz2⟩ := hz
  obtain ⟨hr1, hr2⟩ := hsr
  clear h1 h2 h3 ha hI
  go_enter Try.func13, Try.ntmps13
  go_wp2_with fail
  refine HMB.out.mono ?_
  rintro e w1 ⟨rfl, rfl⟩
  go_wp2_with fail
  refine HMT.out.mono ?_
  rintro e w1 ⟨rfl, rfl⟩
  go_wp2_with fail
  refine HPS.out.mono ?_
  rintro e w1 ⟨rfl, rfl⟩
  go_wp2_with fail
  refine HSH.out.mono ?_
  rintro e wx ⟨rfl, lx⟩
  clear k0 HMB HMT HPS HSH
  go_upto_region 8 with fail
  refine anyT_begin (R := But (fun g => g = b ∨ Value.ownBlock (.slice av l.length cv) = some g)) 26 rfl (by kernel_rfl) ?_
  have ld : Later wx wx.drew := Later.drew wx
  have LD := lx.trans ld
  generalize wx.drew = Wd at *
  have hTd := hT.later LD
  refine anyT_val (But.pre _) 0 rfl (by kernel_rfl) (by kernel_rfl) (by kernel_rfl) (fun _ _ _ _ h => h) rfl ?_; apply Exists.intro; refine ⟨fun v1 hv1 => ?_, ?_⟩; (· (go_simp; rfl)); simp only [Act.put, List.setIfInBounds_toArray, List.set_cons_zero, List.set_cons_succ]
  refine anyT_val (But.pre _) 1 rfl (by kernel_rfl) (by kernel_rfl) (by kernel_rfl) (fun _ _ _ _ h => h) rfl ?_; apply Exists.intro; refine ⟨fun v1 hv1 => ?_, ?_⟩; (· (go_simp; rfl)); simp only [Act.put, List.setIfInBounds_toArray, List.set_cons_zero, List.set_cons_succ]
  refine anyT_val (But.pre _) 2 rfl (by kernel_rfl) (by kernel_rfl) (by kernel_rfl) (fun _ _ _ _ h => h) rfl ?_; apply Exists.intro; refine ⟨fun v1 hv1 => ?_, ?_⟩; (· (go_simp; rfl)); simp only [Act.put, List.setIfInBounds_toArray, List.set_cons_zero, List.set_cons_succ]
  refine anyT_val (But.pre _) 3 rfl (by kernel_rfl) (by kernel_rfl) (by kernel_rfl) (fun _ _ _ _ h => h) rfl ?_; apply Exists.intro; refine ⟨fun v1 hv1 => ?_, ?_⟩; (· (go_simp; rfl)); simp only [Act.put, List.setIfInBounds_toArray, List.set_cons_zero, List.set_cons_succ]
  refine anyT_val (But.pre _) 5 rfl (by kernel_rfl) (by kernel_rfl) (by kernel_rfl) (fun _ _ _ _ h => h) rfl ?_; apply Exists.intro; refine ⟨fun v1 hv1 => ?_, ?_⟩; (· (go_simp; rfl)); simp only [Act.put, List.setIfInBounds_toArray, List.set_cons_zero, List.set_cons_succ]
  refine anyT_val (But.pre _) 6 rfl (by kernel_rfl) (by kernel_rfl) (by kernel_rfl) (fun _ _ _ _ h => h) rfl ?_; apply Exists.intro; refine ⟨fun v1 hv1 => ?_, ?_⟩; (· (go_simp; rfl)); simp only [Act.put, List.setIfInBounds_toArray, List.set_cons_zero, List.set_cons_succ]
  refine anyT_val (But.pre _) 7 rfl (by kernel_rfl) (by kernel_rfl) (by kernel_rfl) (fun _ _ _ _ h => h) rfl ?_; apply Exists.intro; refine ⟨fun v1 hv1 => ?_, ?_⟩; (· (go_simp; rfl)); simp only [Act.put, List.setIfInBounds_toArray, List.set_cons_zero, List.set_cons_succ]
  refine anyT_val (But.pre _) 8 rfl (by kernel_rfl) (by kernel_rfl) (by kernel_rfl) (fun _ _ _ _ h => h) rfl ?_; apply Exists.intro; refine ⟨fun v1 hv1 => ?_, ?_⟩; (· (go_simp; rfl)); simp only [Act.put, List.setIfInBounds_toArray, List.set_cons_zero, List.set_cons_succ]
  refine anyT_val (But.pre _) 9 rfl (by kernel_rfl) (by kernel_rfl) (by kernel_rfl) (fun _ _ _ _ h => h) rfl ?_; apply Exists.intro; refine ⟨fun v1 hv1 => ?_, ?_⟩; (· (go_simp; rfl)); simp only [Act.put, List.setIfInBounds_toArray, List.set_cons_zero, List.set_cons_succ]
  refine anyT_val (But.pre _) 10 rfl (by kernel_rfl) (by kernel_rfl) (by kernel_rfl) (fun _ _ _ _ h => h) rfl ?_; apply Exists.intro; refine ⟨fun v1 hv1 => ?_, ?_⟩; (· (go_simp; rfl)); simp only [Act.put, List.setIfInBounds_toArray, List.set_cons_zero, List.set_cons_succ]
  refine anyT_val (But.pre _) 11 rfl (by kernel_rfl) (by kernel_rfl) (by kernel_rfl) (fun _ _ _ _ h => h) rfl ?_; apply Exists.intro; refine ⟨fun v1 hv1 => ?_, ?_⟩; (· (go_simp; rfl)); simp only [Act.put, List.setIfInBounds_toArray, List.set_cons_zero, List.set_cons_succ]
  refine anyT_val (But.pre _) 12 rfl (by kernel_rfl) (by kernel_rfl) (by kernel_rfl) (fun _ _ _ _ h => h) rfl ?_; apply Exists.intro; refine ⟨fun v1 hv1 => ?_, ?_⟩; (· (go_simp; rfl)); simp only [Act.put, List.setIfInBounds_toArray, List.set_cons_zero, List.set_cons_succ]
  refine anyT_val (But.pre _) 13 rfl (by kernel_rfl) (by kernel_rfl) (by kernel_rfl) (fun _ _ _ _ h => h) rfl ?_; apply Exists.intro; refine ⟨fun v1 hv1 => ?_, ?_⟩; (· (go_simp; rfl)); simp only [Act.put, List.setIfInBounds_toArray, List.set_cons_zero, List.set_cons_succ]
  refine anyT_val (But.pre _) 14 rfl (by kernel_rfl) (by kernel_rfl) (by kernel_rfl) (fun _ _ _ _ h => h) rfl ?_; apply Exists.intro; refine ⟨fun v1 hv1 => ?_, ?_⟩; (· (go_simp; rfl)); simp only [Act.put, List.setIfInBounds_toArray, List.set_cons_zero, List.set_cons_succ]
  refine anyT_val (But.pre _) 15 rfl (by kernel_rfl) (by kernel_rfl) (by kernel_rfl) (fun _ _ _ _ h => h) rfl ?_; apply Exists.intro; refine ⟨fun v1 hv1 => ?_, ?_⟩; (· (go_simp; rfl)); simp only [Act.put, List.setIfInBounds_toArray, List.set_cons_zero, List.set_cons_succ]
  refine anyT_val (But.pre _) 16 rfl (by kernel_rfl) (by kernel_rfl) (by kernel_rfl) (fun _ _ _ _ h => h) rfl ?_; apply Exists.intro; refine ⟨fun v1 hv1 => ?_, ?_⟩; (· (go_simp; rfl)); simp only [Act.put, List.setIfInBounds_toArray, List.set_cons_zero, List.set_cons_succ]
  refine anyT_val (But.pre _) 17 rfl (by kernel_rfl) (by kernel_rfl) (by kernel_rfl) (fun _ _ _ _ h => h) rfl ?_; apply Exists.intro; refine ⟨fun v1 hv1 => ?_, ?_⟩; (· (go_simp; rfl)); simp only [Act.put, List.setIfInBounds_toArray, List.set_cons_zero, List.set_cons_succ]
  refine anyT_val (But.pre _) 18 rfl (by kernel_rfl) (by kernel_rfl) (by kernel_rfl) (fun _ _ _ _ h => h) rfl ?_; apply Exists.intro; refine ⟨fun v1 hv1 => ?_, ?_⟩; (· (go_simp; rfl)); simp only [Act.put, List.setIfInBounds_toArray, List.set_cons_zero, List.set_cons_succ]
  have e1 : (s + was % 4294967296) % 4294967296 = (s + was) % 4294967296 := by omega
  have e2 : ((s + shf l) % 4294967296 + (zs.length : Int) % 4294967296) % 4294967296 = ((s + shf l) % 4294967296 + (zs.length : Int)) % 4294967296 := by omega
  simp only [IntKind.wrap_u32, e1, e2]
  clear e1 e2
  have kd := block_cell hTd.2.1
  refine anyT_two 4 19 rfl rfl (by kernel_rfl) rfl rfl ?_ ?_
  · unfold Oper.wp
    go_simp
    refine ⟨But.refl _ _, ?_⟩
    clear kd
    refine anyT_one 19 rfl (by kernel_rfl) rfl ?_
    refine wp_enter 33 #[.slice at0 zs.length ct0] (by go_simp) ?_
    refine (HCL.out Wd LD).mono ?_
    rintro e W1 ⟨ta, tc, rfl, hOw, hbc⟩
    have lc : Later Wd W1 := hbc
    refine ⟨But.of lc, ?_⟩
    simp only [Act.put, List.setIfInBounds_toArray, List.set_cons_zero, List.set_cons_succ]
    have LC := LD.trans lc
    have hT1 := hT.later LC
    clear hOw
    refine anyT_val (But.pre _) 20 rfl (by kernel_rfl) (by kernel_rfl) (by kernel_rfl) (fun _ _ _ _ h => h) rfl ?_; apply Exists.intro; refine ⟨fun v1 hv1 => ?_, ?_⟩; (· (go_simp; rfl)); simp only [Act.put, List.setIfInBounds_toArray, List.set_cons_zero, List.set_cons_succ]
    refine anyT_one 21 rfl (by kernel_rfl) rfl ?_
    unfold Oper.wp
    go_simp
    have la : Later W1 (W1.alloc (.cells (pac (npP l s was zs.length ta tc)).toArray 65)) := (Below.refl _ _).alloc (Nat.le_refl _) _
    have LL := LC.trans la
    refine ⟨But.of la, ?_⟩
    change wpAnyT _ _ _ _ _ _ _ _ (W1.alloc (.cells (pac (npP l s was zs.length ta tc)).toArray 65))
    obtain ⟨g', cap', W6, hrun, hrow6, hbt6, hob6, hg6⟩ := app1P W1 55 base (.slice av l.length cv) l (npP l s was zs.length ta tc) hT1.2.2 (Nat.le_trans hbs LC.size) (by omega)
    have hT2 := hT.later LL
    refine anyT_one 22 rfl (by kernel_rfl) rfl ?_
    refine wp_app (.tmp 43) (.tmp 60) 55 rfl _ _ rfl rfl _ W6 hrun ?_
    have hb6 : But (fun g => g = b ∨ Value.ownBlock (.slice av l.length cv) = some g) (W1.alloc (.cells (pac (npP l s was zs.length ta tc)).toArray 65)) W6 := ⟨hg6.os, hg6.tape, hg6.output, hg6.size, fun k hk he => hg6.block k hk (fun e => he (.inr e.symm))⟩
    refine ⟨hb6, ?_⟩
    simp only [Act.put, List.setIfInBounds_toArray, List.set_cons_zero, List.set_cons_succ]
    have h6 : W6.heap[b]? = some (.cells #[.slice av l.length cv] 57 (0, 0)) := (hg6.block b (Array.getElem?_eq_some_iff.1 hT2.2.1).1 HNE.out).trans hT2.2.1
    have k6 := block_cell h6
    have f6 := block_frozen h6
    refine anyT_val (But.pre _) 23 rfl (by kernel_rfl) (by kernel_rfl) (by kernel_rfl) (fun _ _ _ _ h => h) rfl ?_; apply Exists.intro; refine ⟨fun v1 hv1 => ?_, ?_⟩; (· (go_simp; rfl)); simp only [Act.put, List.setIfInBounds_toArray, List.set_cons_zero, List.set_cons_succ]
    refine anyT_val (But.pre _) 24 rfl (by kernel_rfl) (by kernel_rfl) (by kernel_rfl) (fun _ _ _ _ h => h) rfl ?_; apply Exists.intro; refine ⟨fun v1 hv1 => ?_, ?_⟩; (· (go_simp; rfl)); simp only [Act.put, List.setIfInBounds_toArray, List.set_cons_zero, List.set_cons_succ]
    refine anyT_one 25 rfl (by kernel_rfl) rfl ?_
    unfold Oper.wp
    go_simp
    generalize hV : W6.setCell ⟨b, 0, none⟩ _ = V
    have hV3 := heap_set1 h6 0 (.slice (some ⟨g', 0, none⟩) (l.length + 1) cap')
    rw [hV] at hV3
    have hbV2 : But (fun g => g = b ∨ Value.ownBlock (.slice av l.length cv) = some g) W6 V := by rw [← hV]; exact (But.refl (fun g => g = b ∨ Value.ownBlock (.slice av l.length cv) = some g) _).setCell (p := ⟨b, 0, none⟩) (.inl rfl) _
    have hbV1 : But (fun g => g = b) W6 V := by rw [← hV]; exact (But.refl (fun g => g = b) _).setCell (p := ⟨b, 0, none⟩) rfl _
    refine ⟨hbV2, ?_⟩
    clear hV k6 f6
    refine anyT_done (by kernel_rfl) ?_
    have hfin : SLq 57 base w1 V b (.slice av l.length cv) (l ++ [npP l s was zs.length ta tc]) := by
      refine ⟨.slice (some ⟨g', 0, none⟩) (l.length + 1) cap', ⟨hT.1, hV3, ?_⟩, (But.of LL).trans (hb6.trans hbV2), ?_⟩
      · refine ownP_but hrow6 hbV1 (fun g hg e => ?_)
        rw [e] at hg
        have e2 : g' = b := by simpa [Value.ownBlock] using hg
        obtain ⟨q1, ⟨q2, q3⟩ | ⟨g2, cap, cur, hv, hgb, hh, q⟩⟩ := hrow6
        · simp at q2
        · have e1 : g' = g2 := by have := congrArg Value.ownBlock hv; simpa [Value.ownBlock] using this
          rw [← e1, e2, h6] at hh
          simp at hh
      · rcases hob6 with h | h
        · exact .inl h.symm
        · refine .inr (fun g hg => ?_)
          have : g' = g := by simpa [Value.ownBlock] using hg
          subst this
          have := LC.size
          omega
    have HF := hide hfin
    clear hfin
    go_wp2_with fail
    go_ret
    exact ⟨rfl, ta, tc, HF.out⟩
  · clear kd
    refine wp_enter 33 #[.slice at0 zs.length ct0] (by go_simp) ?_
    refine (HCL.out Wd LD).mono ?_
    rintro e W1 ⟨ta, tc, rfl, hOw, hbc⟩
    have lc : Later Wd W1 := hbc
    refine ⟨But.of lc, ?_⟩
    simp only [Act.put, List.setIfInBounds_toArray, List.set_cons_zero, List.set_cons_succ]
    have LC := LD.trans lc
    have hT1 := hT.later LC
    clear hOw
    have kd := block_cell hT1.2.1
    refine anyT_val (But.pre _) 20 rfl (by kernel_rfl) (by kernel_rfl) (by kernel_rfl) (fun _ _ _ _ h => h) rfl ?_; apply Exists.intro; refine ⟨fun v1 hv1 => ?_, ?_⟩; (· (go_simp; rfl)); simp only [Act.put, List.setIfInBounds_toArray, List.set_cons_zero, List.set_cons_succ]
    refine anyT_two 4 21 rfl rfl (by kernel_rfl) rfl rfl ?_ ?_
    · unfold Oper.wp
      go_simp
      refine ⟨But.refl _ _, ?_⟩
      clear kd
      refine anyT_one 21 rfl (by kernel_rfl) rfl ?_
      unfold Oper.wp
      go_simp
      have la : Later W1 (W1.alloc (.cells (pac (npP l s was zs.length ta tc)).toArray 65)) := (Below.refl _ _).alloc (Nat.le_refl _) _
      have LL := LC.trans la
      refine ⟨But.of la, ?_⟩
      change wpAnyT _ _ _ _ _ _ _ _ (W1.alloc (.cells (pac (npP l s was zs.length ta tc)).toArray 65))
      obtain ⟨g', cap', W6, hrun, hrow6, hbt6, hob6, hg6⟩ := app1P W1 55 base (.slice av l.length cv) l (npP l s was zs.length ta tc) hT1.2.2 (Nat.le_trans hbs LC.size) (by omega)
      have hT2 := hT.later LL
      refine anyT_one 22 rfl (by kernel_rfl) rfl ?_
      refine wp_app (.tmp 43) (.tmp 60) 55 rfl _ _ rfl rfl _ W6 hrun ?_
      have hb6 : But (fun g => g = b ∨ Value.ownBlock (.slice av l.length cv) = some g) (W1.alloc (.cells (pac (npP l s was zs.length ta tc)).toArray 65)) W6 := ⟨hg6.os, hg6.tape, hg6.output, hg6.size, fun k hk he => hg6.block k hk (fun e => he (.inr e.symm))⟩
      refine ⟨hb6, ?_⟩
      simp only [Act.put, List.setIfInBounds_toArray, List.set_cons_zero, List.set_cons_succ]
      have h6 : W6.heap[b]? = some (.cells #[.slice av l.length cv] 57 (0, 0)) := (hg6.block b (Array.getElem?_eq_some_iff.1 hT2.2.1).1 HNE.out).trans hT2.2.1
      have k6 := block_cell h6
      have f6 := block_frozen h6
      refine anyT_val (But.pre _) 23 rfl (by kernel_rfl) (by kernel_rfl) (by kernel_rfl) (fun _ _ _ _ h => h) rfl ?_; apply Exists.intro; refine ⟨fun v1 hv1 => ?_, ?_⟩; (· (go_simp; rfl)); simp only [Act.put, List.setIfInBounds_toArray, List.set_cons_zero, List.set_cons_succ]
      refine anyT_val (But.pre _) 24 rfl (by kernel_rfl) (by kernel_rfl) (by kernel_rfl) (fun _ _ _ _ h => h) rfl ?_; apply Exists.intro; refine ⟨fun v1 hv1 => ?_, ?_⟩; (· (go_simp; rfl)); simp only [Act.put, List.setIfInBounds_toArray, List.set_cons_zero, List.set_cons_succ]
      refine anyT_one 25 rfl (by kernel_rfl) rfl ?_
      unfold Oper.wp
      go_simp
      generalize hV : W6.setCell ⟨b, 0, none⟩ _ = V
      have hV3 := heap_set1 h6 0 (.slice (some ⟨g', 0, none⟩) (l.length + 1) cap')
      rw [hV] at hV3
      have hbV2 : But (fun g => g = b ∨ Value.ownBlock (.slice av l.length cv) = some g) W6 V := by rw [← hV]; exact (But.refl (fun g => g = b ∨ Value.ownBlock (.slice av l.length cv) = some g) _).setCell (p := ⟨b, 0, none⟩) (.inl rfl) _
      have hbV1 : But (fun g => g = b) W6 V := by rw [← hV]; exact (But.refl (fun g => g = b) _).setCell (p := ⟨b, 0, none⟩) rfl _
      refine ⟨hbV2, ?_⟩
      clear hV k6 f6
      refine anyT_done (by kernel_rfl) ?_
      have hfin : SLq 57 base w1 V b (.slice av l.length cv) (l ++ [npP l s was zs.length ta tc]) := by
        refine ⟨.slice (some ⟨g', 0, none⟩) (l.length + 1) cap', ⟨hT.1, hV3, ?_⟩, (But.of LL).trans (hb6.trans hbV2), ?_⟩
        · refine ownP_but hrow6 hbV1 (fun g hg e => ?_)
          rw [e] at hg
          have e2 : g' = b := by simpa [Value.ownBlock] using hg
          obtain ⟨q1, ⟨q2, q3⟩ | ⟨g2, cap, cur, hv, hgb, hh, q⟩⟩ := hrow6
          · simp at q2
          · have e1 : g' = g2 := by have := congrArg Value.ownBlock hv; simpa [Value.ownBlock] using this
            rw [← e1, e2, h6] at hh
            simp at hh
        · rcases hob6 with h | h
          · exact .inl h.symm
          · refine .inr (fun g hg => ?_)
            have : g' = g := by simpa [Value.ownBlock] using hg
            subst this
            have := LC.size
            omega
      have HF := hide hfin
      clear hfin
      go_wp2_with fail
      go_ret
      exact ⟨rfl, ta, tc, HF.out⟩
    · clear kd
      unfold Oper.wp
      go_simp
      have la : Later W1 (W1.alloc (.cells (pac (npP l s was zs.length ta tc)).toArray 65)) := (Below.refl _ _).alloc (Nat.le_refl _) _
      have LL := LC.trans la
      refine ⟨But.of la, ?_⟩
      change wpAnyT _ _ _ _ _ _ _ _ (W1.alloc (.cells (pac (npP l s was zs.length ta tc)).toArray 65))
      refine anyT_one 4 rfl (by kernel_rfl) rfl ?_
      have kd := block_cell (later_keep la hT1.2.1)
      generalize hgg : W1.alloc (.cells (pac (npP l s was zs.length ta tc)).toArray 65) = Wz at *
      unfold Oper.wp
      go_simp
      refine ⟨But.refl _ _, ?_⟩
      clear kd
      subst hgg
      obtain ⟨g', cap', W6, hrun, hrow6, hbt6, hob6, hg6⟩ := app1P W1 55 base (.slice av l.length cv) l (npP l s was zs.length ta tc) hT1.2.2 (Nat.le_trans hbs LC.size) (by omega)
      have hT2 := hT.later LL
      refine anyT_one 22 rfl (by kernel_rfl) rfl ?_
      refine wp_app (.tmp 43) (.tmp 60) 55 rfl _ _ rfl rfl _ W6 hrun ?_
      have hb6 : But (fun g => g = b ∨ Value.ownBlock (.slice av l.length cv) = some g) (W1.alloc (.cells (pac (npP l s was zs.length ta tc)).toArray 65)) W6 := ⟨hg6.os, hg6.tape, hg6.output, hg6.size, fun k hk he => hg6.block k hk (fun e => he (.inr e.symm))⟩
      refine ⟨hb6, ?_⟩
      simp only [Act.put, List.setIfInBounds_toArray, List.set_cons_zero, List.set_cons_succ]
      have h6 : W6.heap[b]? = some (.cells #[.slice av l.length cv] 57 (0, 0)) := (hg6.block b (Array.getElem?_eq_some_iff.1 hT2.2.1).1 HNE.out).trans hT2.2.1
      have k6 := block_cell h6
      have f6 := block_frozen h6
      refine anyT_val (But.pre _) 23 rfl (by kernel_rfl) (by kernel_rfl) (by kernel_rfl) (fun _ _ _ _ h => h) rfl ?_; apply Exists.intro; refine ⟨fun v1 hv1 => ?_, ?_⟩; (· (go_simp; rfl)); simp only [Act.put, List.setIfInBounds_toArray, List.set_cons_zero, List.set_cons_succ]
      refine anyT_val (But.pre _) 24 rfl (by kernel_rfl) (by kernel_rfl) (by kernel_rfl) (fun _ _ _ _ h => h) rfl ?_; apply Exists.intro; refine ⟨fun v1 hv1 => ?_, ?_⟩; (· (go_simp; rfl)); simp only [Act.put, List.setIfInBounds_toArray, List.set_cons_zero, List.set_cons_succ]
      refine anyT_one 25 rfl (by kernel_rfl) rfl ?_
      unfold Oper.wp
      go_simp
      generalize hV : W6.setCell ⟨b, 0, none⟩ _ = V
      have hV3 := heap_set1 h6 0 (.slice (some ⟨g', 0, none⟩) (l.length + 1) cap')
      rw [hV] at hV3
      have hbV2 : But (fun g => g = b ∨ Value.ownBlock (.slice av l.length cv) = some g) W6 V := by rw [← hV]; exact (But.refl (fun g => g = b ∨ Value.ownBlock (.slice av l.length cv) = some g) _).setCell (p := ⟨b, 0, none⟩) (.inl rfl) _
      have hbV1 : But (fun g => g = b) W6 V := by rw [← hV]; exact (But.refl (fun g => g = b) _).setCell (p := ⟨b, 0, none⟩) rfl _
      refine ⟨hbV2, ?_⟩
      clear hV k6 f6
      refine anyT_done (by kernel_rfl) ?_
      have hfin : SLq 57 base w1 V b (.slice av l.length cv) (l ++ [npP l s was zs.length ta tc]) := by
        refine ⟨.slice (some ⟨g', 0, none⟩) (l.length + 1) cap', ⟨hT.1, hV3, ?_⟩, (But.of LL).trans (hb6.trans hbV2), ?_⟩
        · refine ownP_but hrow6 hbV1 (fun g hg e => ?_)
          rw [e] at hg
          have e2 : g' = b := by simpa [Value.ownBlock] using hg
          obtain ⟨q1, ⟨q2, q3⟩ | ⟨g2, cap, cur, hv, hgb, hh, q⟩⟩ := hrow6
          · simp at q2
          · have e1 : g' = g2 := by have := congrArg Value.ownBlock hv; simpa [Value.ownBlock] using this
            rw [← e1, e2, h6] at hh
            simp at hh
        · rcases hob6 with h | h
          · exact .inl h.symm
          · refine .inr (fun g hg => ?_)
            have : g' = g := by simpa [Value.ownBlock] using hg
            subst this
            have := LC.size
            omega
      have HF := hide hfin
      clear hfin
      go_wp2_with fail
      go_ret
      exact ⟨rfl, ta, tc, HF.out⟩
end Go.Proofs.Ytaaanmjmgnpcgaa
