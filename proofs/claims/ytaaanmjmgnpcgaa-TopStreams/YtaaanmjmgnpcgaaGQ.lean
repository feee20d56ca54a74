/- The document's stream: Add, where it adds. -/
import Derived.Test.YtaaanmjmgnpcgaaGP
namespace Go.Proofs.Ytaaanmjmgnpcgaa
open Go.RowKit Go.Shelf
set_option maxRecDepth 100000
set_option linter.unusedVariables false
set_option linter.unusedSimpArgs false

set_option maxHeartbeats 8000000 in
theorem rsadd_yes0 (base b : Nat) (v : Value) (l : List Dp) (s was : Int) (tv : Value) (zs : List Int) (w : World) (hT : DS 71 base w b v l) (hbs : base ≤ w.heap.size) (hI : Rd w.heap.size w tv zs) (hem : l = []) (ha : adD l s was zs.length = 0) :
    Calls Try.prog 25 #[.pointer (some ⟨b, 0, none⟩), .int .u32 s, .int .i64 was, tv] w fun e w' => e = .returned (.int .i64 0) ∧ ∃ ta tc, DSq 71 base w w' b v (l ++ [⟨s, was, ta, zs.length, tc⟩]) ∧ Ow base w' (.slice ta zs.length tc) zs := by
  obtain ⟨h1, h2, h3, h8⟩ := adD_yes ha
  obtain ⟨at0, ct0, rfl, _, _⟩ := hI.slice
  have k0 := block_cell hT.2.1
  obtain ⟨av, cv, rfl, _, _⟩ := (ownD_rd hT.2.2).slice
  have hli : (l.length : Int) ≤ 1000 := by omega
  have HI := hide hI
  have HNE : Hid (some b ≠ Value.ownBlock (.slice av l.length cv)) := fun e => hT.ne hT.2.1 (by decide) e.symm
  obtain ⟨hw1, hw2⟩ := okN_rng h1
  obtain ⟨hz1, hz2⟩ := okN_rng h2
  have hw3 : ¬ was < 1 := by omega
  have hw4 : ¬ 128 < was := by omega
  have hz3 : ¬ (zs.length : Int) < 1 := by omega
  have hz4 : ¬ 128 < (zs.length : Int) := by omega
  clear h1 h2 ha hI
  have c0 := hT.2.1
  have hn0 : ¬ (0 : Int) < (l.length : Int) := by rw [hem]; simp
  have hn1 : ¬ 0 < l.length := by rw [hem]; simp
  have hn2 : (0 < l.length) = False := by simp [hem]
  have h8' : ¬ (8 : Int) ≤ (l.length : Int) := by rw [hem]; simp
  clear hem
  have HT := hide hT
  clear hT h3
  go_enter Try.func25, Try.ntmps25
  go_upto_region 5 with fail
  clear k0
  refine anyR_begin Later.pre Later.drew 25 rfl (by kernel_rfl) ?_
  intro Wd hWd
  have ha : ∀ v1, Later Wd v1 → ∀ j, v1.cell? ⟨b, j, none⟩ = #[Value.slice av l.length cv][j]? := fun v1 hv => block_cell (later_keep (hWd.trans hv) c0)
  refine anyR_val Later.pre 0 rfl (by kernel_rfl) (by kernel_rfl) (by kernel_rfl) (fun _ _ _ _ h => h) rfl ?_; apply Exists.intro; refine ⟨fun v1 hv1 => ?_, ?_⟩; (· (go_simp; rfl)); simp only [Act.put, List.setIfInBounds_toArray, List.set_cons_zero, List.set_cons_succ]
  refine anyR_val Later.pre 1 rfl (by kernel_rfl) (by kernel_rfl) (by kernel_rfl) (fun _ _ _ _ h => h) rfl ?_; apply Exists.intro; refine ⟨fun v1 hv1 => ?_, ?_⟩; (· (go_simp; rfl)); simp only [Act.put, List.setIfInBounds_toArray, List.set_cons_zero, List.set_cons_succ]
  refine anyR_val Later.pre 2 rfl (by kernel_rfl) (by kernel_rfl) (by kernel_rfl) (fun _ _ _ _ h => h) rfl ?_; apply Exists.intro; refine ⟨fun v1 hv1 => ?_, ?_⟩; (· (go_simp; rfl)); simp only [Act.put, List.setIfInBounds_toArray, List.set_cons_zero, List.set_cons_succ]
  refine anyR_val Later.pre 3 rfl (by kernel_rfl) (by kernel_rfl) (by kernel_rfl) (fun _ _ _ _ h => h) rfl ?_; apply Exists.intro; refine ⟨fun v1 hv1 => ?_, ?_⟩; (· (go_simp; rfl)); simp only [Act.put, List.setIfInBounds_toArray, List.set_cons_zero, List.set_cons_succ]
  refine anyR_val Later.pre 4 rfl (by kernel_rfl) (by kernel_rfl) (by kernel_rfl) (fun _ _ _ _ h => h) rfl ?_; apply Exists.intro; refine ⟨fun v1 hv1 => ?_, ?_⟩; (· (go_simp; rfl)); simp only [Act.put, List.setIfInBounds_toArray, List.set_cons_zero, List.set_cons_succ]
  refine anyR_val Later.pre 5 rfl (by kernel_rfl) (by kernel_rfl) (by kernel_rfl) (fun _ _ _ _ h => h) rfl ?_; apply Exists.intro; refine ⟨fun v1 hv1 => ?_, ?_⟩; (· (go_simp; rfl)); simp only [Act.put, List.setIfInBounds_toArray, List.set_cons_zero, List.set_cons_succ]
  refine anyR_val Later.pre 6 rfl (by kernel_rfl) (by kernel_rfl) (by kernel_rfl) (fun _ _ _ _ h => h) rfl ?_; apply Exists.intro; refine ⟨fun v1 hv1 => ?_, ?_⟩; (· (go_simp; rfl)); simp only [Act.put, List.setIfInBounds_toArray, List.set_cons_zero, List.set_cons_succ]
  clear ha
  refine anyR_skipG Later.pre 7 rfl (by kernel_rfl) (by kernel_rfl) (by kernel_rfl) (fun _ _ _ _ h => h) (by rfl) ?_; simp only [Act.put, List.setIfInBounds_toArray, List.set_cons_zero, List.set_cons_succ]
  refine anyR_skipG Later.pre 8 rfl (by kernel_rfl) (by kernel_rfl) (by kernel_rfl) (fun _ _ _ _ h => h) (by rfl) ?_; simp only [Act.put, List.setIfInBounds_toArray, List.set_cons_zero, List.set_cons_succ]
  refine anyR_skipG Later.pre 9 rfl (by kernel_rfl) (by kernel_rfl) (by kernel_rfl) (fun _ _ _ _ h => h) (by rfl) ?_; simp only [Act.put, List.setIfInBounds_toArray, List.set_cons_zero, List.set_cons_succ]
  refine anyR_skipG Later.pre 10 rfl (by kernel_rfl) (by kernel_rfl) (by kernel_rfl) (fun _ _ _ _ h => h) (by rfl) ?_; simp only [Act.put, List.setIfInBounds_toArray, List.set_cons_zero, List.set_cons_succ]
  refine anyR_skipG Later.pre 11 rfl (by kernel_rfl) (by kernel_rfl) (by kernel_rfl) (fun _ _ _ _ h => h) (by rfl) ?_; simp only [Act.put, List.setIfInBounds_toArray, List.set_cons_zero, List.set_cons_succ]
  refine anyR_skipG Later.pre 12 rfl (by kernel_rfl) (by kernel_rfl) (by kernel_rfl) (fun _ _ _ _ h => h) (by rfl) ?_; simp only [Act.put, List.setIfInBounds_toArray, List.set_cons_zero, List.set_cons_succ]
  refine anyR_skipG Later.pre 13 rfl (by kernel_rfl) (by kernel_rfl) (by kernel_rfl) (fun _ _ _ _ h => h) (by rfl) ?_; simp only [Act.put, List.setIfInBounds_toArray, List.set_cons_zero, List.set_cons_succ]
  refine anyR_skipG Later.pre 14 rfl (by kernel_rfl) (by kernel_rfl) (by kernel_rfl) (fun _ _ _ _ h => h) (by rfl) ?_; simp only [Act.put, List.setIfInBounds_toArray, List.set_cons_zero, List.set_cons_succ]
  refine anyR_skipG Later.pre 15 rfl (by kernel_rfl) (by kernel_rfl) (by kernel_rfl) (fun _ _ _ _ h => h) (by rfl) ?_; simp only [Act.put, List.setIfInBounds_toArray, List.set_cons_zero, List.set_cons_succ]
  refine anyR_skipG Later.pre 16 rfl (by kernel_rfl) (by kernel_rfl) (by kernel_rfl) (fun _ _ _ _ h => h) (by rfl) ?_; simp only [Act.put, List.setIfInBounds_toArray, List.set_cons_zero, List.set_cons_succ]
  refine anyR_skipG Later.pre 17 rfl (by kernel_rfl) (by kernel_rfl) (by kernel_rfl) (fun _ _ _ _ h => h) (by rfl) ?_; simp only [Act.put, List.setIfInBounds_toArray, List.set_cons_zero, List.set_cons_succ]
  refine anyR_skipG Later.pre 18 rfl (by kernel_rfl) (by kernel_rfl) (by kernel_rfl) (fun _ _ _ _ h => h) (by rfl) ?_; simp only [Act.put, List.setIfInBounds_toArray, List.set_cons_zero, List.set_cons_succ]
  refine anyR_skipG Later.pre 19 rfl (by kernel_rfl) (by kernel_rfl) (by kernel_rfl) (fun _ _ _ _ h => h) (by rfl) ?_; simp only [Act.put, List.setIfInBounds_toArray, List.set_cons_zero, List.set_cons_succ]
  refine anyR_skipG Later.pre 20 rfl (by kernel_rfl) (by kernel_rfl) (by kernel_rfl) (fun _ _ _ _ h => h) (by rfl) ?_; simp only [Act.put, List.setIfInBounds_toArray, List.set_cons_zero, List.set_cons_succ]
  refine anyR_skipG Later.pre 21 rfl (by kernel_rfl) (by kernel_rfl) (by kernel_rfl) (fun _ _ _ _ h => h) (by rfl) ?_; simp only [Act.put, List.setIfInBounds_toArray, List.set_cons_zero, List.set_cons_succ]
  refine anyR_skipG Later.pre 22 rfl (by kernel_rfl) (by kernel_rfl) (by kernel_rfl) (fun _ _ _ _ h => h) (by rfl) ?_; simp only [Act.put, List.setIfInBounds_toArray, List.set_cons_zero, List.set_cons_succ]
  refine anyR_val Later.pre 23 rfl (by kernel_rfl) (by kernel_rfl) (by kernel_rfl) (fun _ _ _ _ h => h) rfl ?_; apply Exists.intro; refine ⟨fun v1 hv1 => ?_, ?_⟩; (· (go_simp; rfl)); simp only [Act.put, List.setIfInBounds_toArray, List.set_cons_zero, List.set_cons_succ]
  refine anyR_val Later.pre 24 rfl (by kernel_rfl) (by kernel_rfl) (by kernel_rfl) (fun _ _ _ _ h => h) rfl ?_; apply Exists.intro; refine ⟨fun v1 hv1 => ?_, ?_⟩; (· (go_simp; rfl)); simp only [Act.put, List.setIfInBounds_toArray, List.set_cons_zero, List.set_cons_succ]
  refine anyR_done (by kernel_rfl) (fun VD hVD => ?_)
  have LV : Later w VD := hWd.trans hVD
  have kv := block_cell (later_keep LV c0)
  go_upto_region 9 with fail
  clear kv
  refine anyT_begin (R := But (fun g => g = b ∨ Value.ownBlock (.slice av l.length cv) = some g ∨ w.heap.size ≤ g)) 16 rfl (by kernel_rfl) ?_
  have ld : Later VD VD.drew := Later.drew VD
  have LD := LV.trans ld
  generalize VD.drew = Wd at *
  have hTd := HT.out.later LD
  refine anyT_val (But.pre _) 0 rfl (by kernel_rfl) (by kernel_rfl) (by kernel_rfl) (fun _ _ _ _ h => h) rfl ?_; apply Exists.intro; refine ⟨fun v1 hv1 => ?_, ?_⟩; (· (go_simp; rfl)); simp only [Act.put, List.setIfInBounds_toArray, List.set_cons_zero, List.set_cons_succ]
  refine anyT_val (But.pre _) 1 rfl (by kernel_rfl) (by kernel_rfl) (by kernel_rfl) (fun _ _ _ _ h => h) rfl ?_; apply Exists.intro; refine ⟨fun v1 hv1 => ?_, ?_⟩; (· (go_simp; rfl)); simp only [Act.put, List.setIfInBounds_toArray, List.set_cons_zero, List.set_cons_succ]
  refine anyT_val (But.pre _) 2 rfl (by kernel_rfl) (by kernel_rfl) (by kernel_rfl) (fun _ _ _ _ h => h) rfl ?_; apply Exists.intro; refine ⟨fun v1 hv1 => ?_, ?_⟩; (· (go_simp; rfl)); simp only [Act.put, List.setIfInBounds_toArray, List.set_cons_zero, List.set_cons_succ]
  refine anyT_val (But.pre _) 3 rfl (by kernel_rfl) (by kernel_rfl) (by kernel_rfl) (fun _ _ _ _ h => h) rfl ?_; apply Exists.intro; refine ⟨fun v1 hv1 => ?_, ?_⟩; (· (go_simp; rfl)); simp only [Act.put, List.setIfInBounds_toArray, List.set_cons_zero, List.set_cons_succ]
  refine anyT_val (But.pre _) 5 rfl (by kernel_rfl) (by kernel_rfl) (by kernel_rfl) (fun _ _ _ _ h => h) rfl ?_; apply Exists.intro; refine ⟨fun v1 hv1 => ?_, ?_⟩; (· (go_simp; rfl)); simp only [Act.put, List.setIfInBounds_toArray, List.set_cons_zero, List.set_cons_succ]
  refine anyT_val (But.pre _) 6 rfl (by kernel_rfl) (by kernel_rfl) (by kernel_rfl) (fun _ _ _ _ h => h) rfl ?_; apply Exists.intro; refine ⟨fun v1 hv1 => ?_, ?_⟩; (· (go_simp; rfl)); simp only [Act.put, List.setIfInBounds_toArray, List.set_cons_zero, List.set_cons_succ]
  refine anyT_val (But.pre _) 8 rfl (by kernel_rfl) (by kernel_rfl) (by kernel_rfl) (fun _ _ _ _ h => h) rfl ?_; apply Exists.intro; refine ⟨fun v1 hv1 => ?_, ?_⟩; (· (go_simp; rfl)); simp only [Act.put, List.setIfInBounds_toArray, List.set_cons_zero, List.set_cons_succ]
  have kd := block_cell hTd.2.1
  refine anyT_two 4 7 rfl rfl (by kernel_rfl) rfl rfl ?_ ?_
  · unfold Oper.wp
    go_simp
    refine ⟨But.refl _ _, ?_⟩
    clear kd
    refine anyT_one 7 rfl (by kernel_rfl) rfl ?_
    unfold Oper.wp
    go_simp
    have la0 : Later Wd (Wd.alloc (.cells #[] 5)) := (Below.refl _ _).alloc (Nat.le_refl _) _
    have LA := LD.trans la0
    refine ⟨But.of la0, ?_⟩
    refine anyT_one 9 rfl (by kernel_rfl) rfl ?_
    obtain ⟨ta, tc, W1, hrun0, hOw, lc, hbt0⟩ := copyb Wd 24 w.heap.size (.slice at0 zs.length ct0) zs (Rd.below LD HI.out) LD.size (by omega)
    refine wp_app (.tmp 68) (.tmp 69) 24 rfl _ _ rfl rfl _ W1 hrun0 ?_
    refine ⟨hbt0.wk1 (fun k hk => .inr (.inr (by have := LD.size; omega))), ?_⟩
    simp only [Act.put, List.setIfInBounds_toArray, List.set_cons_zero, List.set_cons_succ]
    have LC := LD.trans lc
    have hT1 := HT.out.later LC
    have HOW := hide (hOw.mono (Nat.le_trans hbs LD.size) : Ow base W1 (.slice ta zs.length tc) zs)
    clear hOw hrun0
    refine anyT_val (But.pre _) 10 rfl (by kernel_rfl) (by kernel_rfl) (by kernel_rfl) (fun _ _ _ _ h => h) rfl ?_; apply Exists.intro; refine ⟨fun v1 hv1 => ?_, ?_⟩; (· (go_simp; rfl)); simp only [Act.put, List.setIfInBounds_toArray, List.set_cons_zero, List.set_cons_succ]
    refine anyT_one 11 rfl (by kernel_rfl) rfl ?_
    unfold Oper.wp
    go_simp
    have la : Later W1 (W1.alloc (.cells (dpc (⟨s, was, ta, zs.length, tc⟩ : Dp)).toArray 73)) := (Below.refl _ _).alloc (Nat.le_refl _) _
    have LL := LC.trans la
    refine ⟨But.of la, ?_⟩
    change wpAnyT _ _ _ _ _ _ _ _ (W1.alloc (.cells (dpc (⟨s, was, ta, zs.length, tc⟩ : Dp)).toArray 73))
    obtain ⟨g', cap', W6, hrun, hrow6, hbt6, hob6, hg6⟩ := app1D W1 69 base (.slice av l.length cv) l (⟨s, was, ta, zs.length, tc⟩ : Dp) hT1.2.2 (Nat.le_trans hbs LC.size) (by omega)
    have hT2 := HT.out.later LL
    refine anyT_one 12 rfl (by kernel_rfl) rfl ?_
    refine wp_app (.tmp 65) (.tmp 72) 69 rfl _ _ rfl rfl _ W6 hrun ?_
    have hb6 : But (fun g => g = b ∨ Value.ownBlock (.slice av l.length cv) = some g ∨ w.heap.size ≤ g) (W1.alloc (.cells (dpc (⟨s, was, ta, zs.length, tc⟩ : Dp)).toArray 73)) W6 := ⟨hg6.os, hg6.tape, hg6.output, hg6.size, fun k hk he => hg6.block k hk (fun e => he (.inr (.inl e.symm)))⟩
    have hb7 : But (fun g => Value.ownBlock (.slice av l.length cv) = some g) (W1.alloc (.cells (dpc (⟨s, was, ta, zs.length, tc⟩ : Dp)).toArray 73)) W6 := ⟨hg6.os, hg6.tape, hg6.output, hg6.size, fun k hk he => hg6.block k hk (fun e => he e.symm)⟩
    refine ⟨hb6, ?_⟩
    simp only [Act.put, List.setIfInBounds_toArray, List.set_cons_zero, List.set_cons_succ]
    have h6 : W6.heap[b]? = some (.cells #[.slice av l.length cv] 71 (0, 0)) := (hg6.block b (Array.getElem?_eq_some_iff.1 hT2.2.1).1 HNE.out).trans hT2.2.1
    have k6 := block_cell h6
    have f6 := block_frozen h6
    refine anyT_val (But.pre _) 13 rfl (by kernel_rfl) (by kernel_rfl) (by kernel_rfl) (fun _ _ _ _ h => h) rfl ?_; apply Exists.intro; refine ⟨fun v1 hv1 => ?_, ?_⟩; (· (go_simp; rfl)); simp only [Act.put, List.setIfInBounds_toArray, List.set_cons_zero, List.set_cons_succ]
    refine anyT_val (But.pre _) 14 rfl (by kernel_rfl) (by kernel_rfl) (by kernel_rfl) (fun _ _ _ _ h => h) rfl ?_; apply Exists.intro; refine ⟨fun v1 hv1 => ?_, ?_⟩; (· (go_simp; rfl)); simp only [Act.put, List.setIfInBounds_toArray, List.set_cons_zero, List.set_cons_succ]
    refine anyT_one 15 rfl (by kernel_rfl) rfl ?_
    unfold Oper.wp
    go_simp
    generalize hV : W6.setCell ⟨b, 0, none⟩ _ = V
    have hV3 := heap_set1 h6 0 (.slice (some ⟨g', 0, none⟩) (l.length + 1) cap')
    rw [hV] at hV3
    have hbV2 : But (fun g => g = b ∨ Value.ownBlock (.slice av l.length cv) = some g ∨ w.heap.size ≤ g) W6 V := by rw [← hV]; exact (But.refl (fun g => g = b ∨ Value.ownBlock (.slice av l.length cv) = some g ∨ w.heap.size ≤ g) _).setCell (p := ⟨b, 0, none⟩) (.inl rfl) _
    have hbV1 : But (fun g => g = b) W6 V := by rw [← hV]; exact (But.refl (fun g => g = b) _).setCell (p := ⟨b, 0, none⟩) rfl _
    refine ⟨hbV2, ?_⟩
    clear hV k6 f6
    refine anyT_done (by kernel_rfl) ?_
    have hfin : DSq 71 base w V b (.slice av l.length cv) (l ++ [(⟨s, was, ta, zs.length, tc⟩ : Dp)]) := by
      refine ⟨.slice (some ⟨g', 0, none⟩) (l.length + 1) cap', ⟨HT.out.1, hV3, ?_⟩, (But.of LL).trans ((hb7.wk1 (fun k hk => .inr hk)).trans (hbV1.wk1 (fun k hk => .inl hk))), ?_⟩
      · refine ownD_but hrow6 hbV1 (fun g hg e => ?_)
        rw [e] at hg
        have e2 : g' = b := by simpa [Value.ownBlock] using hg
        obtain ⟨q1, ⟨q2, q3⟩ | ⟨g2, cap, cur, hv, hgb, hh, q⟩⟩ := hrow6
        · simp at q2
        · have e1 : g' = g2 := by have := congrArg Value.ownBlock hv; simpa [Value.ownBlock] using this
          rw [← e1, e2, h6] at hh
          simp at hh
      · rcases hob6 with h | h
        · exact .inl h.symm
        · refine .inr (fun g hg => ?_)
          have : g' = g := by simpa [Value.ownBlock] using hg
          subst this
          have := LC.size
          omega
    have HF := hide hfin
    have HTX := hide (((HOW.out.later la).butT hb7 (fun g cur hg e => hT2.ne hg (by decide) e)).butT hbV1 (fun g cur hg e => by rw [e, h6] at hg; simp at hg))
    clear hfin
    go_wp2_with fail
    go_ret
    exact ⟨rfl, ta, tc, HF.out, HTX.out⟩
  · clear kd
    unfold Oper.wp
    go_simp
    have la0 : Later Wd (Wd.alloc (.cells #[] 5)) := (Below.refl _ _).alloc (Nat.le_refl _) _
    have LA := LD.trans la0
    refine ⟨But.of la0, ?_⟩
    have kd := block_cell (HT.out.later LA).2.1
    refine anyT_two 4 9 rfl rfl (by kernel_rfl) rfl rfl ?_ ?_
    · generalize hgg : Wd.alloc (.cells #[] 5) = Wz at *
      unfold Oper.wp
      go_simp
      refine ⟨But.refl _ _, ?_⟩
      clear kd
      subst hgg
      refine anyT_one 9 rfl (by kernel_rfl) rfl ?_
      obtain ⟨ta, tc, W1, hrun0, hOw, lc, hbt0⟩ := copyb Wd 24 w.heap.size (.slice at0 zs.length ct0) zs (Rd.below LD HI.out) LD.size (by omega)
      refine wp_app (.tmp 68) (.tmp 69) 24 rfl _ _ rfl rfl _ W1 hrun0 ?_
      refine ⟨hbt0.wk1 (fun k hk => .inr (.inr (by have := LD.size; omega))), ?_⟩
      simp only [Act.put, List.setIfInBounds_toArray, List.set_cons_zero, List.set_cons_succ]
      have LC := LD.trans lc
      have hT1 := HT.out.later LC
      have HOW := hide (hOw.mono (Nat.le_trans hbs LD.size) : Ow base W1 (.slice ta zs.length tc) zs)
      clear hOw hrun0
      refine anyT_val (But.pre _) 10 rfl (by kernel_rfl) (by kernel_rfl) (by kernel_rfl) (fun _ _ _ _ h => h) rfl ?_; apply Exists.intro; refine ⟨fun v1 hv1 => ?_, ?_⟩; (· (go_simp; rfl)); simp only [Act.put, List.setIfInBounds_toArray, List.set_cons_zero, List.set_cons_succ]
      refine anyT_one 11 rfl (by kernel_rfl) rfl ?_
      unfold Oper.wp
      go_simp
      have la : Later W1 (W1.alloc (.cells (dpc (⟨s, was, ta, zs.length, tc⟩ : Dp)).toArray 73)) := (Below.refl _ _).alloc (Nat.le_refl _) _
      have LL := LC.trans la
      refine ⟨But.of la, ?_⟩
      change wpAnyT _ _ _ _ _ _ _ _ (W1.alloc (.cells (dpc (⟨s, was, ta, zs.length, tc⟩ : Dp)).toArray 73))
      obtain ⟨g', cap', W6, hrun, hrow6, hbt6, hob6, hg6⟩ := app1D W1 69 base (.slice av l.length cv) l (⟨s, was, ta, zs.length, tc⟩ : Dp) hT1.2.2 (Nat.le_trans hbs LC.size) (by omega)
      have hT2 := HT.out.later LL
      refine anyT_one 12 rfl (by kernel_rfl) rfl ?_
      refine wp_app (.tmp 65) (.tmp 72) 69 rfl _ _ rfl rfl _ W6 hrun ?_
      have hb6 : But (fun g => g = b ∨ Value.ownBlock (.slice av l.length cv) = some g ∨ w.heap.size ≤ g) (W1.alloc (.cells (dpc (⟨s, was, ta, zs.length, tc⟩ : Dp)).toArray 73)) W6 := ⟨hg6.os, hg6.tape, hg6.output, hg6.size, fun k hk he => hg6.block k hk (fun e => he (.inr (.inl e.symm)))⟩
      have hb7 : But (fun g => Value.ownBlock (.slice av l.length cv) = some g) (W1.alloc (.cells (dpc (⟨s, was, ta, zs.length, tc⟩ : Dp)).toArray 73)) W6 := ⟨hg6.os, hg6.tape, hg6.output, hg6.size, fun k hk he => hg6.block k hk (fun e => he e.symm)⟩
      refine ⟨hb6, ?_⟩
      simp only [Act.put, List.setIfInBounds_toArray, List.set_cons_zero, List.set_cons_succ]
      have h6 : W6.heap[b]? = some (.cells #[.slice av l.length cv] 71 (0, 0)) := (hg6.block b (Array.getElem?_eq_some_iff.1 hT2.2.1).1 HNE.out).trans hT2.2.1
      have k6 := block_cell h6
      have f6 := block_frozen h6
      refine anyT_val (But.pre _) 13 rfl (by kernel_rfl) (by kernel_rfl) (by kernel_rfl) (fun _ _ _ _ h => h) rfl ?_; apply Exists.intro; refine ⟨fun v1 hv1 => ?_, ?_⟩; (· (go_simp; rfl)); simp only [Act.put, List.setIfInBounds_toArray, List.set_cons_zero, List.set_cons_succ]
      refine anyT_val (But.pre _) 14 rfl (by kernel_rfl) (by kernel_rfl) (by kernel_rfl) (fun _ _ _ _ h => h) rfl ?_; apply Exists.intro; refine ⟨fun v1 hv1 => ?_, ?_⟩; (· (go_simp; rfl)); simp only [Act.put, List.setIfInBounds_toArray, List.set_cons_zero, List.set_cons_succ]
      refine anyT_one 15 rfl (by kernel_rfl) rfl ?_
      unfold Oper.wp
      go_simp
      generalize hV : W6.setCell ⟨b, 0, none⟩ _ = V
      have hV3 := heap_set1 h6 0 (.slice (some ⟨g', 0, none⟩) (l.length + 1) cap')
      rw [hV] at hV3
      have hbV2 : But (fun g => g = b ∨ Value.ownBlock (.slice av l.length cv) = some g ∨ w.heap.size ≤ g) W6 V := by rw [← hV]; exact (But.refl (fun g => g = b ∨ Value.ownBlock (.slice av l.length cv) = some g ∨ w.heap.size ≤ g) _).setCell (p := ⟨b, 0, none⟩) (.inl rfl) _
      have hbV1 : But (fun g => g = b) W6 V := by rw [← hV]; exact (But.refl (fun g => g = b) _).setCell (p := ⟨b, 0, none⟩) rfl _
      refine ⟨hbV2, ?_⟩
      clear hV k6 f6
      refine anyT_done (by kernel_rfl) ?_
      have hfin : DSq 71 base w V b (.slice av l.length cv) (l ++ [(⟨s, was, ta, zs.length, tc⟩ : Dp)]) := by
        refine ⟨.slice (some ⟨g', 0, none⟩) (l.length + 1) cap', ⟨HT.out.1, hV3, ?_⟩, (But.of LL).trans ((hb7.wk1 (fun k hk => .inr hk)).trans (hbV1.wk1 (fun k hk => .inl hk))), ?_⟩
        · refine ownD_but hrow6 hbV1 (fun g hg e => ?_)
          rw [e] at hg
          have e2 : g' = b := by simpa [Value.ownBlock] using hg
          obtain ⟨q1, ⟨q2, q3⟩ | ⟨g2, cap, cur, hv, hgb, hh, q⟩⟩ := hrow6
          · simp at q2
          · have e1 : g' = g2 := by have := congrArg Value.ownBlock hv; simpa [Value.ownBlock] using this
            rw [← e1, e2, h6] at hh
            simp at hh
        · rcases hob6 with h | h
          · exact .inl h.symm
          · refine .inr (fun g hg => ?_)
            have : g' = g := by simpa [Value.ownBlock] using hg
            subst this
            have := LC.size
            omega
      have HF := hide hfin
      have HTX := hide (((HOW.out.later la).butT hb7 (fun g cur hg e => hT2.ne hg (by decide) e)).butT hbV1 (fun g cur hg e => by rw [e, h6] at hg; simp at hg))
      clear hfin
      go_wp2_with fail
      go_ret
      exact ⟨rfl, ta, tc, HF.out, HTX.out⟩
    · clear kd
      obtain ⟨ta, tc, W1, hrun0, hOw, lc, hbt0⟩ := copyb Wd 24 w.heap.size (.slice at0 zs.length ct0) zs (Rd.below LD HI.out) LD.size (by omega)
      refine wp_app (.tmp 68) (.tmp 69) 24 rfl _ _ rfl rfl _ W1 hrun0 ?_
      refine ⟨hbt0.wk1 (fun k hk => .inr (.inr (by have := LD.size; omega))), ?_⟩
      simp only [Act.put, List.setIfInBounds_toArray, List.set_cons_zero, List.set_cons_succ]
      have LC := LD.trans lc
      have hT1 := HT.out.later LC
      have HOW := hide (hOw.mono (Nat.le_trans hbs LD.size) : Ow base W1 (.slice ta zs.length tc) zs)
      clear hOw hrun0
      refine anyT_val (But.pre _) 10 rfl (by kernel_rfl) (by kernel_rfl) (by kernel_rfl) (fun _ _ _ _ h => h) rfl ?_; apply Exists.intro; refine ⟨fun v1 hv1 => ?_, ?_⟩; (· (go_simp; rfl)); simp only [Act.put, List.setIfInBounds_toArray, List.set_cons_zero, List.set_cons_succ]
      have kd := block_cell hT1.2.1
      refine anyT_two 4 11 rfl rfl (by kernel_rfl) rfl rfl ?_ ?_
      · unfold Oper.wp
        go_simp
        refine ⟨But.refl _ _, ?_⟩
        clear kd
        refine anyT_one 11 rfl (by kernel_rfl) rfl ?_
        unfold Oper.wp
        go_simp
        have la : Later W1 (W1.alloc (.cells (dpc (⟨s, was, ta, zs.length, tc⟩ : Dp)).toArray 73)) := (Below.refl _ _).alloc (Nat.le_refl _) _
        have LL := LC.trans la
        refine ⟨But.of la, ?_⟩
        change wpAnyT _ _ _ _ _ _ _ _ (W1.alloc (.cells (dpc (⟨s, was, ta, zs.length, tc⟩ : Dp)).toArray 73))
        obtain ⟨g', cap', W6, hrun, hrow6, hbt6, hob6, hg6⟩ := app1D W1 69 base (.slice av l.length cv) l (⟨s, was, ta, zs.length, tc⟩ : Dp) hT1.2.2 (Nat.le_trans hbs LC.size) (by omega)
        have hT2 := HT.out.later LL
        refine anyT_one 12 rfl (by kernel_rfl) rfl ?_
        refine wp_app (.tmp 65) (.tmp 72) 69 rfl _ _ rfl rfl _ W6 hrun ?_
        have hb6 : But (fun g => g = b ∨ Value.ownBlock (.slice av l.length cv) = some g ∨ w.heap.size ≤ g) (W1.alloc (.cells (dpc (⟨s, was, ta, zs.length, tc⟩ : Dp)).toArray 73)) W6 := ⟨hg6.os, hg6.tape, hg6.output, hg6.size, fun k hk he => hg6.block k hk (fun e => he (.inr (.inl e.symm)))⟩
        have hb7 : But (fun g => Value.ownBlock (.slice av l.length cv) = some g) (W1.alloc (.cells (dpc (⟨s, was, ta, zs.length, tc⟩ : Dp)).toArray 73)) W6 := ⟨hg6.os, hg6.tape, hg6.output, hg6.size, fun k hk he => hg6.block k hk (fun e => he e.symm)⟩
        refine ⟨hb6, ?_⟩
        simp only [Act.put, List.setIfInBounds_toArray, List.set_cons_zero, List.set_cons_succ]
        have h6 : W6.heap[b]? = some (.cells #[.slice av l.length cv] 71 (0, 0)) := (hg6.block b (Array.getElem?_eq_some_iff.1 hT2.2.1).1 HNE.out).trans hT2.2.1
        have k6 := block_cell h6
        have f6 := block_frozen h6
        refine anyT_val (But.pre _) 13 rfl (by kernel_rfl) (by kernel_rfl) (by kernel_rfl) (fun _ _ _ _ h => h) rfl ?_; apply Exists.intro; refine ⟨fun v1 hv1 => ?_, ?_⟩; (· (go_simp; rfl)); simp only [Act.put, List.setIfInBounds_toArray, List.set_cons_zero, List.set_cons_succ]
        refine anyT_val (But.pre _) 14 rfl (by kernel_rfl) (by kernel_rfl) (by kernel_rfl) (fun _ _ _ _ h => h) rfl ?_; apply Exists.intro; refine ⟨fun v1 hv1 => ?_, ?_⟩; (· (go_simp; rfl)); simp only [Act.put, List.setIfInBounds_toArray, List.set_cons_zero, List.set_cons_succ]
        refine anyT_one 15 rfl (by kernel_rfl) rfl ?_
        unfold Oper.wp
        go_simp
        generalize hV : W6.setCell ⟨b, 0, none⟩ _ = V
        have hV3 := heap_set1 h6 0 (.slice (some ⟨g', 0, none⟩) (l.length + 1) cap')
        rw [hV] at hV3
        have hbV2 : But (fun g => g = b ∨ Value.ownBlock (.slice av l.length cv) = some g ∨ w.heap.size ≤ g) W6 V := by rw [← hV]; exact (But.refl (fun g => g = b ∨ Value.ownBlock (.slice av l.length cv) = some g ∨ w.heap.size ≤ g) _).setCell (p := ⟨b, 0, none⟩) (.inl rfl) _
        have hbV1 : But (fun g => g = b) W6 V := by rw [← hV]; exact (But.refl (fun g => g = b) _).setCell (p := ⟨b, 0, none⟩) rfl _
        refine ⟨hbV2, ?_⟩
        clear hV k6 f6
        refine anyT_done (by kernel_rfl) ?_
        have hfin : DSq 71 base w V b (.slice av l.length cv) (l ++ [(⟨s, was, ta, zs.length, tc⟩ : Dp)]) := by
          refine ⟨.slice (some ⟨g', 0, none⟩) (l.length + 1) cap', ⟨HT.out.1, hV3, ?_⟩, (But.of LL).trans ((hb7.wk1 (fun k hk => .inr hk)).trans (hbV1.wk1 (fun k hk => .inl hk))), ?_⟩
          · refine ownD_but hrow6 hbV1 (fun g hg e => ?_)
            rw [e] at hg
            have e2 : g' = b := by simpa [Value.ownBlock] using hg
            obtain ⟨q1, ⟨q2, q3⟩ | ⟨g2, cap, cur, hv, hgb, hh, q⟩⟩ := hrow6
            · simp at q2
            · have e1 : g' = g2 := by have := congrArg Value.ownBlock hv; simpa [Value.ownBlock] using this
              rw [← e1, e2, h6] at hh
              simp at hh
          · rcases hob6 with h | h
            · exact .inl h.symm
            · refine .inr (fun g hg => ?_)
              have : g' = g := by simpa [Value.ownBlock] using hg
              subst this
              have := LC.size
              omega
        have HF := hide hfin
        have HTX := hide (((HOW.out.later la).butT hb7 (fun g cur hg e => hT2.ne hg (by decide) e)).butT hbV1 (fun g cur hg e => by rw [e, h6] at hg; simp at hg))
        clear hfin
        go_wp2_with fail
        go_ret
        exact ⟨rfl, ta, tc, HF.out, HTX.out⟩
      · clear kd
        unfold Oper.wp
        go_simp
        have la : Later W1 (W1.alloc (.cells (dpc (⟨s, was, ta, zs.length, tc⟩ : Dp)).toArray 73)) := (Below.refl _ _).alloc (Nat.le_refl _) _
        have LL := LC.trans la
        refine ⟨But.of la, ?_⟩
        change wpAnyT _ _ _ _ _ _ _ _ (W1.alloc (.cells (dpc (⟨s, was, ta, zs.length, tc⟩ : Dp)).toArray 73))
        refine anyT_one 4 rfl (by kernel_rfl) rfl ?_
        have kd := block_cell (later_keep la hT1.2.1)
        generalize hgg : W1.alloc (.cells (dpc (⟨s, was, ta, zs.length, tc⟩ : Dp)).toArray 73) = Wz at *
        unfold Oper.wp
        go_simp
        refine ⟨But.refl _ _, ?_⟩
        clear kd
        subst hgg
        obtain ⟨g', cap', W6, hrun, hrow6, hbt6, hob6, hg6⟩ := app1D W1 69 base (.slice av l.length cv) l (⟨s, was, ta, zs.length, tc⟩ : Dp) hT1.2.2 (Nat.le_trans hbs LC.size) (by omega)
        have hT2 := HT.out.later LL
        refine anyT_one 12 rfl (by kernel_rfl) rfl ?_
        refine wp_app (.tmp 65) (.tmp 72) 69 rfl _ _ rfl rfl _ W6 hrun ?_
        have hb6 : But (fun g => g = b ∨ Value.ownBlock (.slice av l.length cv) = some g ∨ w.heap.size ≤ g) (W1.alloc (.cells (dpc (⟨s, was, ta, zs.length, tc⟩ : Dp)).toArray 73)) W6 := ⟨hg6.os, hg6.tape, hg6.output, hg6.size, fun k hk he => hg6.block k hk (fun e => he (.inr (.inl e.symm)))⟩
        have hb7 : But (fun g => Value.ownBlock (.slice av l.length cv) = some g) (W1.alloc (.cells (dpc (⟨s, was, ta, zs.length, tc⟩ : Dp)).toArray 73)) W6 := ⟨hg6.os, hg6.tape, hg6.output, hg6.size, fun k hk he => hg6.block k hk (fun e => he e.symm)⟩
        refine ⟨hb6, ?_⟩
        simp only [Act.put, List.setIfInBounds_toArray, List.set_cons_zero, List.set_cons_succ]
        have h6 : W6.heap[b]? = some (.cells #[.slice av l.length cv] 71 (0, 0)) := (hg6.block b (Array.getElem?_eq_some_iff.1 hT2.2.1).1 HNE.out).trans hT2.2.1
        have k6 := block_cell h6
        have f6 := block_frozen h6
        refine anyT_val (But.pre _) 13 rfl (by kernel_rfl) (by kernel_rfl) (by kernel_rfl) (fun _ _ _ _ h => h) rfl ?_; apply Exists.intro; refine ⟨fun v1 hv1 => ?_, ?_⟩; (· (go_simp; rfl)); simp only [Act.put, List.setIfInBounds_toArray, List.set_cons_zero, List.set_cons_succ]
        refine anyT_val (But.pre _) 14 rfl (by kernel_rfl) (by kernel_rfl) (by kernel_rfl) (fun _ _ _ _ h => h) rfl ?_; apply Exists.intro; refine ⟨fun v1 hv1 => ?_, ?_⟩; (· (go_simp; rfl)); simp only [Act.put, List.setIfInBounds_toArray, List.set_cons_zero, List.set_cons_succ]
        refine anyT_one 15 rfl (by kernel_rfl) rfl ?_
        unfold Oper.wp
        go_simp
        generalize hV : W6.setCell ⟨b, 0, none⟩ _ = V
        have hV3 := heap_set1 h6 0 (.slice (some ⟨g', 0, none⟩) (l.length + 1) cap')
        rw [hV] at hV3
        have hbV2 : But (fun g => g = b ∨ Value.ownBlock (.slice av l.length cv) = some g ∨ w.heap.size ≤ g) W6 V := by rw [← hV]; exact (But.refl (fun g => g = b ∨ Value.ownBlock (.slice av l.length cv) = some g ∨ w.heap.size ≤ g) _).setCell (p := ⟨b, 0, none⟩) (.inl rfl) _
        have hbV1 : But (fun g => g = b) W6 V := by rw [← hV]; exact (But.refl (fun g => g = b) _).setCell (p := ⟨b, 0, none⟩) rfl _
        refine ⟨hbV2, ?_⟩
        clear hV k6 f6
        refine anyT_done (by kernel_rfl) ?_
        have hfin : DSq 71 base w V b (.slice av l.length cv) (l ++ [(⟨s, was, ta, zs.length, tc⟩ : Dp)]) := by
          refine ⟨.slice (some ⟨g', 0, none⟩) (l.length + 1) cap', ⟨HT.out.1, hV3, ?_⟩, (But.of LL).trans ((hb7.wk1 (fun k hk => .inr hk)).trans (hbV1.wk1 (fun k hk => .inl hk))), ?_⟩
          · refine ownD_but hrow6 hbV1 (fun g hg e => ?_)
            rw [e] at hg
            have e2 : g' = b := by simpa [Value.ownBlock] using hg
            obtain ⟨q1, ⟨q2, q3⟩ | ⟨g2, cap, cur, hv, hgb, hh, q⟩⟩ := hrow6
            · simp at q2
            · have e1 : g' = g2 := by have := congrArg Value.ownBlock hv; simpa [Value.ownBlock] using this
              rw [← e1, e2, h6] at hh
              simp at hh
          · rcases hob6 with h | h
            · exact .inl h.symm
            · refine .inr (fun g hg => ?_)
              have : g' = g := by simpa [Value.ownBlock] using hg
              subst this
              have := LC.size
              omega
        have HF := hide hfin
        have HTX := hide (((HOW.out.later la).butT hb7 (fun g cur hg e => hT2.ne hg (by decide) e)).butT hbV1 (fun g cur hg e => by rw [e, h6] at hg; simp at hg))
        clear hfin
        go_wp2_with fail
        go_ret
        exact ⟨rfl, ta, tc, HF.out, HTX.out⟩
end Go.Proofs.Ytaaanmjmgnpcgaa
