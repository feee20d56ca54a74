/- Add, of the program and of the document. -/
import Derived.Test.YtbimdhapkbdmjaaEF
namespace Go.Proofs.Ytbimdhapkbdmjaa
open Go.RowKit Go.Shelf
set_option maxRecDepth 100000
set_option linter.unusedVariables false
set_option linter.unusedSimpArgs false

/-- How many a master has. -/
def ownN (m : Int) (l : List Ex) : Nat := (l.filter (fun x => decide (x.ms = m))).length
/-- What adding tells, and what the list is then. -/
def adE (l : List Ex) (x : Ex) : Int := if rtX x = false then 2 else if l.any (alX x) = true then 10 else if 32 ≤ l.length ∨ 4 ≤ ownN x.ms l then 9 else 0
def adL (l : List Ex) (x : Ex) : List Ex := if adE l x = 0 then l ++ [x] else l
theorem adL_no {l : List Ex} {x : Ex} (h : adE l x ≠ 0) : adL l x = l := by unfold adL; rw [if_neg h]
theorem adL_yes {l : List Ex} {x : Ex} (h : adE l x = 0) : adL l x = l ++ [x] := by unfold adL; rw [if_pos h]

set_option maxHeartbeats 8000000 in
theorem add12_any (base b : Nat) (v : Value) (l : List Ex) (x : Ex) (w : World) (hT : BL 54 base w b v l) (hl : l.length ≤ 1000) (hbs : base ≤ w.heap.size) :
    Calls Try.prog 13 #[.pointer (some ⟨b, 0, none⟩), .agg (exc x).toArray] w fun e w' => e = .returned (.int .i64 (adE l x)) ∧ BLq 54 base w w' b v (adL l x) := by
  have HR9 := hide (fun W => right12_any x W)
  have lb0 : Later w (w.alloc (.cells (exc x).toArray 26)) := (Below.refl _ _).alloc (Nat.le_refl _) _
  have rb := heap_alloc_new w (.cells (exc x).toArray 26)
  obtain ⟨av, cv, rfl, _, _⟩ := (ownE_rd hT.2.2).slice
  have hli : (l.length : Int) ≤ 1000 := by omega
  have HNE : Hid (some b ≠ Value.ownBlock (.slice av l.length cv)) := fun e => hT.ne hT.2.1 (by decide) e.symm
  go_enter Try.func13, Try.ntmps13
  unfold exc at rb
  have rk := block_cell rb
  unfold exc
  go_wp2_with fail
  change Calls _ _ #[.agg (exc x).toArray] (w.alloc (.cells (exc x).toArray 26)) _
  unfold exc at lb0
  unfold exc
  generalize w.alloc _ = w0 at *
  refine (HR9.out w0).mono ?_
  rintro e w1 ⟨rfl, l1⟩
  clear rk
  cases hrt : rtX x with
  | false =>
    have hae : adE l x = 2 := by unfold adE; rw [if_pos hrt]
    have HAE := hide hae
    have HAL := hide (adL_no (l := l) (x := x) (by rw [hae]; omega))
    have lz := lb0.trans l1
    clear hae
    go_wp2_with fail
    go_ret
    exact ⟨by rw [HAE.out]; rfl, by rw [HAL.out]; exact BLq.same hT lz⟩
  | true =>
    have r1 := later_keep l1 rb
    have Lz := lb0.trans l1
    clear l1 rb lb0
    go_upto_region 5 with fail
    refine anyT_begin (R := But (fun _ => False)) 8 rfl (by kernel_rfl) ?_
    have ld : Later w1 w1.drew := Later.drew w1
    have LD := Lz.trans ld
    have rd := later_keep ld r1
    generalize w1.drew = Wd at *
    have hTd := hT.later LD
    have ha : ∀ v1, But (fun _ => False) Wd v1 → ∀ j, v1.cell? ⟨b, j, none⟩ = #[Value.slice av l.length cv][j]? := fun v1 hv => block_cell ((hv.block b (Array.getElem?_eq_some_iff.1 hTd.2.1).1 (fun h => h)).trans hTd.2.1)
    have hb : ∀ v1, But (fun _ => False) Wd v1 → ∀ j, v1.cell? ⟨w.heap.size, j, none⟩ = #[Value.int .u8 x.pr, .int .u32 x.src, .int .u32 x.dst, .int .u16 x.sp, .int .u16 x.dp, .int .u32 x.host, .int .u16 x.hp, .int .i64 x.ms, .int .i64 x.dl][j]? := fun v1 hv => block_cell ((hv.block w.heap.size (Array.getElem?_eq_some_iff.1 rd).1 (fun h => h)).trans rd)
    refine anyT_val (But.pre _) 0 rfl (by kernel_rfl) (by kernel_rfl) (by kernel_rfl) (fun _ _ _ _ h => h) rfl ?_; apply Exists.intro; refine ⟨fun v1 hv1 => ?_, ?_⟩; (· (go_simp; rfl)); simp only [Act.put, List.setIfInBounds_toArray, List.set_cons_zero, List.set_cons_succ]
    refine anyT_val (But.pre _) 1 rfl (by kernel_rfl) (by kernel_rfl) (by kernel_rfl) (fun _ _ _ _ h => h) rfl ?_; apply Exists.intro; refine ⟨fun v1 hv1 => ?_, ?_⟩; (· (go_simp; rfl)); simp only [Act.put, List.setIfInBounds_toArray, List.set_cons_zero, List.set_cons_succ]
    refine anyT_val (But.pre _) 2 rfl (by kernel_rfl) (by kernel_rfl) (by kernel_rfl) (fun _ _ _ _ h => h) rfl ?_; apply Exists.intro; refine ⟨fun v1 hv1 => ?_, ?_⟩; (· (go_simp; rfl)); simp only [Act.put, List.setIfInBounds_toArray, List.set_cons_zero, List.set_cons_succ]
    refine anyT_val (But.pre _) 3 rfl (by kernel_rfl) (by kernel_rfl) (by kernel_rfl) (fun _ _ _ _ h => h) rfl ?_; apply Exists.intro; refine ⟨fun v1 hv1 => ?_, ?_⟩; (· (go_simp; rfl)); simp only [Act.put, List.setIfInBounds_toArray, List.set_cons_zero, List.set_cons_succ]
    refine anyT_val (But.pre _) 4 rfl (by kernel_rfl) (by kernel_rfl) (by kernel_rfl) (fun _ _ _ _ h => h) rfl ?_; apply Exists.intro; refine ⟨fun v1 hv1 => ?_, ?_⟩; (· (go_simp; rfl)); simp only [Act.put, List.setIfInBounds_toArray, List.set_cons_zero, List.set_cons_succ]
    clear ha hb
    refine anyT_one 5 rfl (by kernel_rfl) rfl ?_
    refine wp_enter 29 #[.agg (exc x).toArray] (by unfold exc; go_simp) ?_
    refine (alike12_any x Wd).mono ?_
    rintro e w2 ⟨rfl, hw2⟩
    have l2 : Later Wd w2 := by rw [hw2]; exact (Below.refl _ _).alloc (Nat.le_refl _) _
    have c2 : w2.heap[Wd.heap.size]? = some (.cells (exc x).toArray 26) := by rw [hw2]; exact heap_alloc_new Wd _
    clear hw2
    refine ⟨But.of l2, ?_⟩
    simp only [Act.put, List.setIfInBounds_toArray, List.set_cons_zero, List.set_cons_succ]
    generalize Wd.heap.size = xb at *
    have hT2 := hTd.later l2
    refine anyT_one 6 rfl (by kernel_rfl) rfl ?_
    refine wp_enter 28 #[.slice av l.length cv, .func (.func 45) #[] #[.pointer (some ⟨xb, 0, none⟩)]] (by go_simp) ?_
    refine (containsF_any w2.heap.size 45 #[.pointer (some ⟨xb, 0, none⟩)] _ l (alX x) w2 (ownE_rd hT2.2.2) (Nat.le_refl _) (by omega) (enters_of Try.func45 (by kernel_rfl) rfl) (fun y _ W hW => alike1_any y x xb W (later_keep hW c2))).mono ?_
    rintro e w3 ⟨rfl, l3⟩
    have L3 := (LD.trans l2).trans l3
    have r3 := later_keep l3 (later_keep l2 rd)
    refine ⟨But.of l3, ?_⟩
    simp only [Act.put, List.setIfInBounds_toArray, List.set_cons_zero, List.set_cons_succ]
    clear hT2 c2 l2 l3 hTd rd LD ld r1 Lz
    refine anyT_val (But.pre _) 7 rfl (by kernel_rfl) (by kernel_rfl) (by kernel_rfl) (fun _ _ _ _ h => h) rfl ?_; apply Exists.intro; refine ⟨fun v1 hv1 => ?_, ?_⟩; (· (go_simp; rfl)); simp only [Act.put, List.setIfInBounds_toArray, List.set_cons_zero, List.set_cons_succ]
    refine anyT_done (by kernel_rfl) ?_
    have hT3 := hT.later L3
    have k3 := block_cell hT3.2.1
    have rk := block_cell r3
    cases hhs : l.any (alX x) with
    | true =>
      have hae : adE l x = 10 := by unfold adE; rw [hrt, hhs]; simp
      have HAE := hide hae
      have HAL := hide (adL_no (l := l) (x := x) (by rw [hae]; omega))
      clear hae rk hrt hhs k3
      go_wp2_with fail
      go_ret
      exact ⟨by rw [HAE.out]; rfl, by rw [HAL.out]; exact BLq.same hT L3⟩
    | false =>
      by_cases hfull : 32 ≤ l.length
      · have hae : adE l x = 9 := by unfold adE; rw [hrt, hhs, if_neg (by simp), if_neg (by simp), if_pos (.inl hfull)]
        have HAE := hide hae
        have HAL := hide (adL_no (l := l) (x := x) (by rw [hae]; omega))
        have hf' : (32 : Int) ≤ l.length := by omega
        clear hae rk hrt hhs
        go_wp2_with fail
        go_ret
        exact ⟨by rw [HAE.out]; rfl, by rw [HAL.out]; exact BLq.same hT L3⟩
      · have hf' : ¬ (32 : Int) ≤ l.length := by omega
        have HOW := hide (owned12_any base b _ l x.ms w3 hT3 hl)
        have hon : (l.filter (fun y => decide (y.ms = x.ms))).length = ownN x.ms l := rfl
        rw [hon] at HOW
        clear hon
        go_wp2_with fail
        refine HOW.out.mono ?_
        rintro e w4 ⟨rfl, l4⟩
        have L4 := L3.trans l4
        have r4 := later_keep l4 r3
        clear k3 rk HOW
        by_cases hown : 4 ≤ ownN x.ms l
        · have hae : adE l x = 9 := by unfold adE; rw [hrt, hhs, if_neg (by simp), if_neg (by simp), if_pos (.inr hown)]
          have HAE := hide hae
          have HAL := hide (adL_no (l := l) (x := x) (by rw [hae]; omega))
          have hf2 : (4 : Int) ≤ ownN x.ms l := by omega
          clear hae hrt hhs
          go_wp2_with fail
          go_ret
          exact ⟨by rw [HAE.out]; rfl, by rw [HAL.out]; exact BLq.same hT L4⟩
        · have hae : adE l x = 0 := by unfold adE; rw [hrt, hhs, if_neg (by simp), if_neg (by simp), if_neg (by omega)]
          have HAE := hide hae
          have HAL := hide (adL_yes (l := l) (x := x) hae)
          have hf2 : ¬ (4 : Int) ≤ ownN x.ms l := by omega
          clear hae hrt hhs
          go_upto_region 9 with fail
          have lbx := L4
          have rb := r4
          clear L3 L4 r3 r4 hT3 l4
          generalize hwx : w4 = wx at *
          clear hwx
          refine anyT_begin (R := But (fun g => g = b ∨ Value.ownBlock (.slice av l.length cv) = some g)) 11 rfl (by kernel_rfl) ?_
          have ld : Later wx wx.drew := Later.drew wx
          have LD := lbx.trans ld
          have rd0 := later_keep ld rb
          generalize wx.drew = Wd at *
          have hTd := hT.later LD
          have hnb : w.heap.size ≠ b := fun e => by have := hT.blt; omega
          have hnv : Value.ownBlock (.slice av l.length cv) ≠ some w.heap.size := fun e => by have := (hT.lt e).2; omega
          have ha : ∀ v1, But (fun g => g = b ∨ Value.ownBlock (.slice av l.length cv) = some g) Wd v1 → ∀ j, v1.cell? ⟨w.heap.size, j, none⟩ = #[Value.int .u8 x.pr, .int .u32 x.src, .int .u32 x.dst, .int .u16 x.sp, .int .u16 x.dp, .int .u32 x.host, .int .u16 x.hp, .int .i64 x.ms, .int .i64 x.dl][j]? := fun v1 hv => block_cell ((hv.block w.heap.size (Array.getElem?_eq_some_iff.1 rd0).1 (fun hE => hE.elim hnb hnv)).trans rd0)
          refine anyT_val (But.pre _) 0 rfl (by kernel_rfl) (by kernel_rfl) (by kernel_rfl) (fun _ _ _ _ h => h) rfl ?_; apply Exists.intro; refine ⟨fun v1 hv1 => ?_, ?_⟩; (· (go_simp; rfl)); simp only [Act.put, List.setIfInBounds_toArray, List.set_cons_zero, List.set_cons_succ]
          refine anyT_val (But.pre _) 1 rfl (by kernel_rfl) (by kernel_rfl) (by kernel_rfl) (fun _ _ _ _ h => h) rfl ?_; apply Exists.intro; refine ⟨fun v1 hv1 => ?_, ?_⟩; (· (go_simp; rfl)); simp only [Act.put, List.setIfInBounds_toArray, List.set_cons_zero, List.set_cons_succ]
          refine anyT_val (But.pre _) 2 rfl (by kernel_rfl) (by kernel_rfl) (by kernel_rfl) (fun _ _ _ _ h => h) rfl ?_; apply Exists.intro; refine ⟨fun v1 hv1 => ?_, ?_⟩; (· (go_simp; rfl)); simp only [Act.put, List.setIfInBounds_toArray, List.set_cons_zero, List.set_cons_succ]
          refine anyT_val (But.pre _) 3 rfl (by kernel_rfl) (by kernel_rfl) (by kernel_rfl) (fun _ _ _ _ h => h) rfl ?_; apply Exists.intro; refine ⟨fun v1 hv1 => ?_, ?_⟩; (· (go_simp; rfl)); simp only [Act.put, List.setIfInBounds_toArray, List.set_cons_zero, List.set_cons_succ]
          refine anyT_val (But.pre _) 5 rfl (by kernel_rfl) (by kernel_rfl) (by kernel_rfl) (fun _ _ _ _ h => h) rfl ?_; apply Exists.intro; refine ⟨fun v1 hv1 => ?_, ?_⟩; (· (go_simp; rfl)); simp only [Act.put, List.setIfInBounds_toArray, List.set_cons_zero, List.set_cons_succ]
          clear ha
          have kd := block_cell hTd.2.1
          have l1 : Later Wd (Wd.alloc (.cells (exc x).toArray 26)) := (Below.refl _ _).alloc (Nat.le_refl _) _
          have LL := LD.trans l1
          have k1 := block_cell (later_keep l1 hTd.2.1)
          refine anyT_two 4 6 rfl rfl (by kernel_rfl) rfl rfl ?_ ?_
          · clear k1
            unfold Oper.wp
            go_simp
            refine ⟨But.refl _ _, ?_⟩
            clear kd
            refine anyT_one 6 rfl (by kernel_rfl) rfl ?_
            unfold Oper.wp
            go_simp
            refine ⟨But.of l1, ?_⟩
            change wpAnyT _ _ _ _ _ _ _ _ (Wd.alloc (.cells (exc x).toArray 26))
            have hT1 := hT.later LL
            obtain ⟨g', cap', W6, hrun, hrow6, hbt6, hob6, hg6⟩ := app1E Wd 42 base (.slice av l.length cv) l x hTd.2.2 (Nat.le_trans hbs LD.size) (by omega)
            refine anyT_one 7 rfl (by kernel_rfl) rfl ?_
            refine wp_app (.tmp 38) (.tmp 40) 42 rfl _ _ rfl rfl _ W6 hrun ?_
            have hb6 : But (fun g => g = b ∨ Value.ownBlock (.slice av l.length cv) = some g) (Wd.alloc (.cells (exc x).toArray 26)) W6 := ⟨hg6.os, hg6.tape, hg6.output, hg6.size, fun k hk he => hg6.block k hk (fun e => he (.inr e.symm))⟩
            refine ⟨hb6, ?_⟩
            simp only [Act.put, List.setIfInBounds_toArray, List.set_cons_zero, List.set_cons_succ]
            have h6 : W6.heap[b]? = some (.cells #[.slice av l.length cv] 54 (0, 0)) := (hg6.block b (Array.getElem?_eq_some_iff.1 hT1.2.1).1 HNE.out).trans hT1.2.1
            have k6 := block_cell h6
            have f6 := block_frozen h6
            refine anyT_val (But.pre _) 8 rfl (by kernel_rfl) (by kernel_rfl) (by kernel_rfl) (fun _ _ _ _ h => h) rfl ?_; apply Exists.intro; refine ⟨fun v1 hv1 => ?_, ?_⟩; (· (go_simp; rfl)); simp only [Act.put, List.setIfInBounds_toArray, List.set_cons_zero, List.set_cons_succ]
            refine anyT_val (But.pre _) 9 rfl (by kernel_rfl) (by kernel_rfl) (by kernel_rfl) (fun _ _ _ _ h => h) rfl ?_; apply Exists.intro; refine ⟨fun v1 hv1 => ?_, ?_⟩; (· (go_simp; rfl)); simp only [Act.put, List.setIfInBounds_toArray, List.set_cons_zero, List.set_cons_succ]
            refine anyT_one 10 rfl (by kernel_rfl) rfl ?_
            unfold Oper.wp
            go_simp
            generalize hV : W6.setCell ⟨b, 0, none⟩ _ = V
            have hV3 := heap_set1 h6 0 (.slice (some ⟨g', 0, none⟩) (l.length + 1) cap')
            rw [hV] at hV3
            have hbV2 : But (fun g => g = b ∨ Value.ownBlock (.slice av l.length cv) = some g) W6 V := by rw [← hV]; exact (But.refl (fun g => g = b ∨ Value.ownBlock (.slice av l.length cv) = some g) _).setCell (p := ⟨b, 0, none⟩) (.inl rfl) _
            have hbV1 : But (fun g => g = b) W6 V := by rw [← hV]; exact (But.refl (fun g => g = b) _).setCell (p := ⟨b, 0, none⟩) rfl _
            refine ⟨hbV2, ?_⟩
            clear hV k6 f6
            refine anyT_done (by kernel_rfl) ?_
            have hfin : BLq 54 base w V b (.slice av l.length cv) (l ++ [x]) := by
              refine ⟨.slice (some ⟨g', 0, none⟩) (l.length + 1) cap', ⟨hT.1, hV3, ?_⟩, (But.of LL).trans (hb6.trans hbV2), ?_⟩
              · refine ownE_but hrow6 hbV1 (fun g hg e => ?_)
                rw [e] at hg
                have e2 : g' = b := by simpa [Value.ownBlock] using hg
                obtain ⟨q1, ⟨q2, q3⟩ | ⟨g2, cap, cur, hv, hgb, hh, q⟩⟩ := hrow6
                · simp at q2
                · have e1 : g' = g2 := by have := congrArg Value.ownBlock hv; simpa [Value.ownBlock] using this
                  rw [← e1, e2, h6] at hh
                  simp at hh
              · rcases hob6 with h | h
                · exact .inl h.symm
                · refine .inr (fun g hg => ?_)
                  have : g' = g := by simpa [Value.ownBlock] using hg
                  subst this
                  have := LD.size
                  omega
            have HF := hide hfin
            clear hfin
            go_wp2_with fail
            go_ret
            exact ⟨by rw [HAE.out]; rfl, by rw [HAL.out]; exact HF.out⟩
          · clear kd
            unfold Oper.wp
            go_simp
            refine ⟨But.of l1, ?_⟩
            change wpAnyT _ _ _ _ _ _ _ _ (Wd.alloc (.cells (exc x).toArray 26))
            refine anyT_one 4 rfl (by kernel_rfl) rfl ?_
            generalize hgg : Wd.alloc (.cells (exc x).toArray 26) = W1 at *
            unfold Oper.wp
            go_simp
            refine ⟨But.refl _ _, ?_⟩
            clear k1
            subst hgg
            have hT1 := hT.later LL
            obtain ⟨g', cap', W6, hrun, hrow6, hbt6, hob6, hg6⟩ := app1E Wd 42 base (.slice av l.length cv) l x hTd.2.2 (Nat.le_trans hbs LD.size) (by omega)
            refine anyT_one 7 rfl (by kernel_rfl) rfl ?_
            refine wp_app (.tmp 38) (.tmp 40) 42 rfl _ _ rfl rfl _ W6 hrun ?_
            have hb6 : But (fun g => g = b ∨ Value.ownBlock (.slice av l.length cv) = some g) (Wd.alloc (.cells (exc x).toArray 26)) W6 := ⟨hg6.os, hg6.tape, hg6.output, hg6.size, fun k hk he => hg6.block k hk (fun e => he (.inr e.symm))⟩
            refine ⟨hb6, ?_⟩
            simp only [Act.put, List.setIfInBounds_toArray, List.set_cons_zero, List.set_cons_succ]
            have h6 : W6.heap[b]? = some (.cells #[.slice av l.length cv] 54 (0, 0)) := (hg6.block b (Array.getElem?_eq_some_iff.1 hT1.2.1).1 HNE.out).trans hT1.2.1
            have k6 := block_cell h6
            have f6 := block_frozen h6
            refine anyT_val (But.pre _) 8 rfl (by kernel_rfl) (by kernel_rfl) (by kernel_rfl) (fun _ _ _ _ h => h) rfl ?_; apply Exists.intro; refine ⟨fun v1 hv1 => ?_, ?_⟩; (· (go_simp; rfl)); simp only [Act.put, List.setIfInBounds_toArray, List.set_cons_zero, List.set_cons_succ]
            refine anyT_val (But.pre _) 9 rfl (by kernel_rfl) (by kernel_rfl) (by kernel_rfl) (fun _ _ _ _ h => h) rfl ?_; apply Exists.intro; refine ⟨fun v1 hv1 => ?_, ?_⟩; (· (go_simp; rfl)); simp only [Act.put, List.setIfInBounds_toArray, List.set_cons_zero, List.set_cons_succ]
            refine anyT_one 10 rfl (by kernel_rfl) rfl ?_
            unfold Oper.wp
            go_simp
            generalize hV : W6.setCell ⟨b, 0, none⟩ _ = V
            have hV3 := heap_set1 h6 0 (.slice (some ⟨g', 0, none⟩) (l.length + 1) cap')
            rw [hV] at hV3
            have hbV2 : But (fun g => g = b ∨ Value.ownBlock (.slice av l.length cv) = some g) W6 V := by rw [← hV]; exact (But.refl (fun g => g = b ∨ Value.ownBlock (.slice av l.length cv) = some g) _).setCell (p := ⟨b, 0, none⟩) (.inl rfl) _
            have hbV1 : But (fun g => g = b) W6 V := by rw [← hV]; exact (But.refl (fun g => g = b) _).setCell (p := ⟨b, 0, none⟩) rfl _
            refine ⟨hbV2, ?_⟩
            clear hV k6 f6
            refine anyT_done (by kernel_rfl) ?_
            have hfin : BLq 54 base w V b (.slice av l.length cv) (l ++ [x]) := by
              refine ⟨.slice (some ⟨g', 0, none⟩) (l.length + 1) cap', ⟨hT.1, hV3, ?_⟩, (But.of LL).trans (hb6.trans hbV2), ?_⟩
              · refine ownE_but hrow6 hbV1 (fun g hg e => ?_)
                rw [e] at hg
                have e2 : g' = b := by simpa [Value.ownBlock] using hg
                obtain ⟨q1, ⟨q2, q3⟩ | ⟨g2, cap, cur, hv, hgb, hh, q⟩⟩ := hrow6
                · simp at q2
                · have e1 : g' = g2 := by have := congrArg Value.ownBlock hv; simpa [Value.ownBlock] using this
                  rw [← e1, e2, h6] at hh
                  simp at hh
              · rcases hob6 with h | h
                · exact .inl h.symm
                · refine .inr (fun g hg => ?_)
                  have : g' = g := by simpa [Value.ownBlock] using hg
                  subst this
                  have := LD.size
                  omega
            have HF := hide hfin
            clear hfin
            go_wp2_with fail
            go_ret
            exact ⟨by rw [HAE.out]; rfl, by rw [HAL.out]; exact HF.out⟩
end Go.Proofs.Ytbimdhapkbdmjaa
