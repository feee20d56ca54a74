/- The document's expected flows: Right, Add. -/
import Derived.Test.YtbimdhapkbdmjaaEG
namespace Go.Proofs.Ytbimdhapkbdmjaa
open Go.RowKit Go.Shelf
set_option maxRecDepth 100000
set_option linter.unusedVariables false
set_option linter.unusedSimpArgs false

set_option maxHeartbeats 8000000 in
theorem rright12_any (e : Ex) (w : World) : Calls Try.prog 15 #[.agg (exc e).toArray] w fun en w' => en = .returned (.bool (rtX e)) ∧ Later w w' := by
  obtain ⟨pr, src, dst, sp, dp, host, hp, ms, dl⟩ := e
  unfold exc
  simp only
  have lb0 : Later w (w.alloc (.cells #[.int .u8 pr, .int .u32 src, .int .u32 dst, .int .u16 sp, .int .u16 dp, .int .u32 host, .int .u16 hp, .int .i64 ms, .int .i64 dl] 26)) := (Below.refl _ _).alloc (Nat.le_refl _) _
  have c0 := block_cell (heap_alloc_new w (.cells #[.int .u8 pr, .int .u32 src, .int .u32 dst, .int .u16 sp, .int .u16 dp, .int .u32 host, .int .u16 hp, .int .i64 ms, .int .i64 dl] 26))
  go_enter Try.func15, Try.ntmps15
  go_upto_region 1 with fail
  generalize w.alloc (.cells #[.int .u8 pr, .int .u32 src, .int .u32 dst, .int .u16 sp, .int .u16 dp, .int .u32 host, .int .u16 hp, .int .i64 ms, .int .i64 dl] 26) = w0 at *
  have hcase : pr = 6 ∨ pr = 17 ∨ pr = 47 ∨ (¬ pr = 6 ∧ ¬ pr = 17 ∧ ¬ pr = 47) := by omega
  rcases hcase with rfl | rfl | rfl | ⟨h6, h17, h47⟩
  case inr.inr.inr =>
    go_wp2_with fail
    go_ret
    exact ⟨by simp [rtX, crX, *], lb0⟩
  all_goals
    by_cases h1 : dst = 0
    · subst h1
      go_wp2_with fail
      all_goals go_ret
      all_goals exact ⟨by first | (simp [rtX, crX, *]; done) | (simp_all [rtX, crX]; done) | (simp_all [rtX, crX]; omega), lb0⟩
    · by_cases h2 : host = 0
      · subst h2
        go_wp2_with fail
        all_goals go_ret
        all_goals exact ⟨by first | (simp [rtX, crX, *]; done) | (simp_all [rtX, crX]; done) | (simp_all [rtX, crX]; omega), lb0⟩
      · by_cases h3 : dp = 0
        · subst h3
          go_wp2_with fail
          all_goals go_ret
          all_goals exact ⟨by first | (simp [rtX, crX, *]; done) | (simp_all [rtX, crX]; done) | (simp_all [rtX, crX]; omega), lb0⟩
        · by_cases h4 : hp = 0
          · subst h4
            go_wp2_with fail
            all_goals go_ret
            all_goals exact ⟨by first | (simp [rtX, crX, *]; done) | (simp_all [rtX, crX]; done) | (simp_all [rtX, crX]; omega), lb0⟩
          · by_cases h5 : 0 ≤ ms
            · by_cases h6 : 0 ≤ dl
              · by_cases h7 : dl ≤ 1099511627776
                · by_cases h8 : sp = 0
                  · go_wp2_with fail
                    all_goals go_ret
                    all_goals exact ⟨by first | (simp [rtX, crX, *]; done) | (simp_all [rtX, crX]; done) | (simp_all [rtX, crX]; omega), lb0⟩
                  · go_wp2_with fail
                    all_goals go_ret
                    all_goals exact ⟨by first | (simp [rtX, crX, *]; done) | (simp_all [rtX, crX]; done) | (simp_all [rtX, crX]; omega), lb0⟩
                · go_wp2_with fail
                  all_goals go_ret
                  all_goals exact ⟨by first | (simp [rtX, crX, *]; done) | (simp_all [rtX, crX]; done) | (simp_all [rtX, crX]; omega), lb0⟩
              · go_wp2_with fail
                all_goals go_ret
                all_goals exact ⟨by first | (simp [rtX, crX, *]; done) | (simp_all [rtX, crX]; done) | (simp_all [rtX, crX]; omega), lb0⟩
            · go_wp2_with fail
              all_goals go_ret
              all_goals exact ⟨by first | (simp [rtX, crX, *]; done) | (simp_all [rtX, crX]; done) | (simp_all [rtX, crX]; omega), lb0⟩

theorem ownN_snoc (m : Int) (l : List Ex) (y : Ex) : (y.ms = m → ownN m (l ++ [y]) = ownN m l + 1) ∧ (¬ y.ms = m → ownN m (l ++ [y]) = ownN m l) := by
  unfold ownN
  rw [List.filter_append]
  exact ⟨fun h => by simp [h], fun h => by simp [h]⟩
theorem ownN_le (m : Int) (l : List Ex) : ownN m l ≤ l.length := List.length_filter_le _ _

set_option maxHeartbeats 8000000 in
theorem radd12_any (base b : Nat) (v : Value) (l : List Ex) (x : Ex) (w : World) (hT : BL 64 base w b v l) (hl : l.length ≤ 1000) (hbs : base ≤ w.heap.size) :
    Calls Try.prog 40 #[.pointer (some ⟨b, 0, none⟩), .agg (exc x).toArray] w fun e w' => e = .returned (.int .i64 (adE l x)) ∧ BLq 64 base w w' b v (adL l x) := by
  have HR9 := hide (fun W => rright12_any x W)
  have lb0 : Later w (w.alloc (.cells (exc x).toArray 26)) := (Below.refl _ _).alloc (Nat.le_refl _) _
  have rb := heap_alloc_new w (.cells (exc x).toArray 26)
  obtain ⟨av, cv, rfl, _, _⟩ := (ownE_rd hT.2.2).slice
  have hli : (l.length : Int) ≤ 1000 := by omega
  have HNE : Hid (some b ≠ Value.ownBlock (.slice av l.length cv)) := fun e => hT.ne hT.2.1 (by decide) e.symm
  go_enter Try.func40, Try.ntmps40
  unfold exc at rb
  have rk := block_cell rb
  unfold exc
  go_wp2_with fail
  change Calls _ _ #[.agg (exc x).toArray] (w.alloc (.cells (exc x).toArray 26)) _
  unfold exc at lb0
  unfold exc
  generalize w.alloc _ = w0 at *
  refine (HR9.out w0).mono ?_
  rintro e w1 ⟨rfl, l1⟩
  clear rk
  cases hrt : rtX x with
  | false =>
    have hae : adE l x = 2 := by unfold adE; rw [if_pos hrt]
    have HAE := hide hae
    have HAL := hide (adL_no (l := l) (x := x) (by rw [hae]; omega))
    have lz := lb0.trans l1
    clear hae
    go_wp2_with fail
    go_ret
    exact ⟨by rw [HAE.out]; rfl, by rw [HAL.out]; exact BLq.same hT lz⟩
  | true =>
    have r1 := later_keep l1 rb
    have Lz := lb0.trans l1
    have HRT := hide hrt
    clear l1 rb lb0 hrt
    go_wp2_with fail
    go_loopw [5, 6] (fun o i wr => ∃ k : Nat, k ≤ l.length ∧ i = .int .i64 (k : Int) ∧ o = .int .i64 (ownN x.ms (l.take k) : Int) ∧ (∀ y ∈ l.take k, alX x y = false) ∧ Later w1 wr) (fun _ i _ => l.length - (intOf i).toNat)
    case atStart => exact ⟨0, by omega, rfl, rfl, by simp, Later.refl _⟩
    case round =>
      obtain ⟨k, hk, rfl, rfl, hno, lr⟩ := hrel
      have HNO := hide hno
      have L1 := Lz.trans lr
      have rr := later_keep lr r1
      have hTr := hT.later L1
      have hob := ownN_le x.ms (l.take k)
      have hob2 : (ownN x.ms (l.take k) : Int) ≤ 1000 := by have : (l.take k).length ≤ l.length := by simp; omega
                                                            omega
      clear hno hob
      by_cases hkl : k < l.length
      · obtain ⟨g, off, cp, e, _, _, hgn, hcs⟩ := (ownE_rd hTr.2.2).cells (by omega)
        simp at e
        obtain ⟨rfl, rfl⟩ := e
        have c0 := hcs k hkl 0 (by omega)
        have c1 := hcs k hkl 1 (by omega)
        have c2 := hcs k hkl 2 (by omega)
        have c3 := hcs k hkl 3 (by omega)
        have c4 := hcs k hkl 4 (by omega)
        have c5 := hcs k hkl 5 (by omega)
        have c6 := hcs k hkl 6 (by omega)
        have c7 := hcs k hkl 7 (by omega)
        have c8 := hcs k hkl 8 (by omega)
        have hkl' : (k : Int) < l.length := by omega
        have htk : l.take (k + 1) = l.take k ++ [l[k]] := (List.take_append_getElem hkl).symm
        have HOW : Hid ((l[k].ms = x.ms → ownN x.ms (l.take (k + 1)) = ownN x.ms (l.take k) + 1) ∧ (¬ l[k].ms = x.ms → ownN x.ms (l.take (k + 1)) = ownN x.ms (l.take k))) := by rw [htk]; exact ownN_snoc x.ms (l.take k) l[k]
        have HNO2 : Hid (alX x l[k] = false → ∀ y ∈ l.take (k + 1), alX x y = false) := fun h y hy => by
          rw [htk] at hy
          rcases List.mem_append.1 hy with h' | h'
          · exact HNO.out y h'
          · rw [show y = l[k] from by simpa using h']; exact h
        have HK10 : Hid (alX x l[k] = true → adE l x = 10) := fun h => by
          unfold adE
          rw [HRT.out, show l.any (alX x) = true from List.any_eq_true.2 ⟨l[k], List.getElem_mem hkl, h⟩]
          simp
        have HKL : Hid (alX x l[k] = true → adL l x = l) := fun h => adL_no (by rw [HK10.out h]; omega)
        clear hcs htk
        have kb := block_cell hTr.2.1
        generalize l[k] = r at *
        obtain ⟨pr, src, dst, sp, dp, host, hp, ms, dl⟩ := r
        simp only [exc, List.getElem?_cons_zero, List.getElem?_cons_succ, Nat.add_zero] at c0 c1 c2 c3 c4 c5 c6 c7 c8
        have la : Later wr (wr.alloc (.cells #[.int .u8 pr, .int .u32 src, .int .u32 dst, .int .u16 sp, .int .u16 dp, .int .u32 host, .int .u16 hp, .int .i64 ms, .int .i64 dl] 26)) := (Below.refl _ _).alloc (Nat.le_refl _) _
        have cB := heap_alloc_new wr (.cells #[.int .u8 pr, .int .u32 src, .int .u32 dst, .int .u16 sp, .int .u16 dp, .int .u32 host, .int .u16 hp, .int .i64 ms, .int .i64 dl] 26)
        have rB := later_keep la rr
        have L2 := L1.trans la
        have L2' := lr.trans la
        go_upto_region 10 with fail
        generalize wr.alloc (.cells #[.int .u8 pr, .int .u32 src, .int .u32 dst, .int .u16 sp, .int .u16 dp, .int .u32 host, .int .u16 hp, .int .i64 ms, .int .i64 dl] 26) = w2 at *
        clear c0 c1 c2 c3 c4 c5 c6 c7 c8 kb
        have kB := block_cell cB
        have rk := block_cell rB
        generalize ownN x.ms (l.take k) = oc at *
        by_cases e1 : pr = x.pr
        · by_cases e2 : dst = x.dst
          · by_cases e3 : dp = x.dp
            · skip
              go_wp2_with fail
              go_ret
              exact ⟨by rw [HK10.out (by unfold alX; simp [e1, e2, e3])]; rfl, by rw [HKL.out (by unfold alX; simp [e1, e2, e3])]; exact BLq.same hT L2⟩
            · skip
              have HNA : Hid (alX x ⟨pr, src, dst, sp, dp, host, hp, ms, dl⟩ = false) := by show _ = _; unfold alX; simp [*]
              by_cases hms : ms = x.ms
              · have HOW2 := hide (HOW.out.1 hms)
                go_wp2_with fail
                go_roundw
                case rel => exact ⟨k + 1, by omega, by go_num, by rw [HOW2.out]; go_num, HNO2.out HNA.out, L2'⟩
                case measure => simp [intOf]; omega
              · have HOW2 := hide (HOW.out.2 hms)
                go_wp2_with fail
                go_roundw
                case rel => exact ⟨k + 1, by omega, by go_num, by rw [HOW2.out], HNO2.out HNA.out, L2'⟩
                case measure => simp [intOf]; omega
          · skip
            have HNA : Hid (alX x ⟨pr, src, dst, sp, dp, host, hp, ms, dl⟩ = false) := by show _ = _; unfold alX; simp [*]
            by_cases hms : ms = x.ms
            · have HOW2 := hide (HOW.out.1 hms)
              go_wp2_with fail
              go_roundw
              case rel => exact ⟨k + 1, by omega, by go_num, by rw [HOW2.out]; go_num, HNO2.out HNA.out, L2'⟩
              case measure => simp [intOf]; omega
            · have HOW2 := hide (HOW.out.2 hms)
              go_wp2_with fail
              go_roundw
              case rel => exact ⟨k + 1, by omega, by go_num, by rw [HOW2.out], HNO2.out HNA.out, L2'⟩
              case measure => simp [intOf]; omega
        · skip
          have HNA : Hid (alX x ⟨pr, src, dst, sp, dp, host, hp, ms, dl⟩ = false) := by show _ = _; unfold alX; simp [*]
          by_cases hms : ms = x.ms
          · have HOW2 := hide (HOW.out.1 hms)
            go_wp2_with fail
            go_roundw
            case rel => exact ⟨k + 1, by omega, by go_num, by rw [HOW2.out]; go_num, HNO2.out HNA.out, L2'⟩
            case measure => simp [intOf]; omega
          · have HOW2 := hide (HOW.out.2 hms)
            go_wp2_with fail
            go_roundw
            case rel => exact ⟨k + 1, by omega, by go_num, by rw [HOW2.out], HNO2.out HNA.out, L2'⟩
            case measure => simp [intOf]; omega
      · obtain rfl : k = l.length := by omega
        simp only [List.take_length] at *
        have HNA : Hid (l.any (alX x) = false) := by show _ = _; rw [List.any_eq_false]; intro y hy; rw [HNO.out y hy]; simp
        have kb := block_cell hTr.2.1
        by_cases hfull : 32 ≤ l.length
        · have hae : adE l x = 9 := by unfold adE; rw [HRT.out, HNA.out, if_neg (by simp), if_neg (by simp), if_pos (.inl hfull)]
          have HAE := hide hae
          have HAL := hide (adL_no (l := l) (x := x) (by rw [hae]; omega))
          have hf' : (32 : Int) ≤ l.length := by omega
          clear hae
          go_wp2_with fail
          go_ret
          exact ⟨by rw [HAE.out]; rfl, by rw [HAL.out]; exact BLq.same hT L1⟩
        · have hf' : ¬ (32 : Int) ≤ l.length := by omega
          by_cases hown : 4 ≤ ownN x.ms l
          · have hae : adE l x = 9 := by unfold adE; rw [HRT.out, HNA.out, if_neg (by simp), if_neg (by simp), if_pos (.inr hown)]
            have HAE := hide hae
            have HAL := hide (adL_no (l := l) (x := x) (by rw [hae]; omega))
            have hf2 : (4 : Int) ≤ ownN x.ms l := by omega
            clear hae
            go_wp2_with fail
            go_ret
            exact ⟨by rw [HAE.out]; rfl, by rw [HAL.out]; exact BLq.same hT L1⟩
          · have hae : adE l x = 0 := by unfold adE; rw [HRT.out, HNA.out, if_neg (by simp), if_neg (by simp), if_neg (by omega)]
            have HAE := hide hae
            have HAL := hide (adL_yes (l := l) (x := x) hae)
            have hf2 : ¬ (4 : Int) ≤ ownN x.ms l := by omega
            clear hae
            go_upto_region 16 with fail
            have lbx := L1
            have rb := rr
            clear L1 rr hTr lr r1 kb
            generalize hwx : wr = wx at *
            clear hwx
            refine anyT_begin (R := But (fun g => g = b ∨ Value.ownBlock (.slice av l.length cv) = some g)) 11 rfl (by kernel_rfl) ?_
            have ld : Later wx wx.drew := Later.drew wx
            have LD := lbx.trans ld
            have rd0 := later_keep ld rb
            generalize wx.drew = Wd at *
            have hTd := hT.later LD
            have hnb : w.heap.size ≠ b := fun e => by have := hT.blt; omega
            have hnv : Value.ownBlock (.slice av l.length cv) ≠ some w.heap.size := fun e => by have := (hT.lt e).2; omega
            have ha : ∀ v1, But (fun g => g = b ∨ Value.ownBlock (.slice av l.length cv) = some g) Wd v1 → ∀ j, v1.cell? ⟨w.heap.size, j, none⟩ = #[Value.int .u8 x.pr, .int .u32 x.src, .int .u32 x.dst, .int .u16 x.sp, .int .u16 x.dp, .int .u32 x.host, .int .u16 x.hp, .int .i64 x.ms, .int .i64 x.dl][j]? := fun v1 hv => block_cell ((hv.block w.heap.size (Array.getElem?_eq_some_iff.1 rd0).1 (fun hE => hE.elim hnb hnv)).trans rd0)
            refine anyT_val (But.pre _) 0 rfl (by kernel_rfl) (by kernel_rfl) (by kernel_rfl) (fun _ _ _ _ h => h) rfl ?_; apply Exists.intro; refine ⟨fun v1 hv1 => ?_, ?_⟩; (· (go_simp; rfl)); simp only [Act.put, List.setIfInBounds_toArray, List.set_cons_zero, List.set_cons_succ]
            refine anyT_val (But.pre _) 1 rfl (by kernel_rfl) (by kernel_rfl) (by kernel_rfl) (fun _ _ _ _ h => h) rfl ?_; apply Exists.intro; refine ⟨fun v1 hv1 => ?_, ?_⟩; (· (go_simp; rfl)); simp only [Act.put, List.setIfInBounds_toArray, List.set_cons_zero, List.set_cons_succ]
            refine anyT_val (But.pre _) 2 rfl (by kernel_rfl) (by kernel_rfl) (by kernel_rfl) (fun _ _ _ _ h => h) rfl ?_; apply Exists.intro; refine ⟨fun v1 hv1 => ?_, ?_⟩; (· (go_simp; rfl)); simp only [Act.put, List.setIfInBounds_toArray, List.set_cons_zero, List.set_cons_succ]
            refine anyT_val (But.pre _) 3 rfl (by kernel_rfl) (by kernel_rfl) (by kernel_rfl) (fun _ _ _ _ h => h) rfl ?_; apply Exists.intro; refine ⟨fun v1 hv1 => ?_, ?_⟩; (· (go_simp; rfl)); simp only [Act.put, List.setIfInBounds_toArray, List.set_cons_zero, List.set_cons_succ]
            refine anyT_val (But.pre _) 5 rfl (by kernel_rfl) (by kernel_rfl) (by kernel_rfl) (fun _ _ _ _ h => h) rfl ?_; apply Exists.intro; refine ⟨fun v1 hv1 => ?_, ?_⟩; (· (go_simp; rfl)); simp only [Act.put, List.setIfInBounds_toArray, List.set_cons_zero, List.set_cons_succ]
            clear ha
            have kd := block_cell hTd.2.1
            have l1 : Later Wd (Wd.alloc (.cells (exc x).toArray 26)) := (Below.refl _ _).alloc (Nat.le_refl _) _
            have LL := LD.trans l1
            have k1 := block_cell (later_keep l1 hTd.2.1)
            refine anyT_two 4 6 rfl rfl (by kernel_rfl) rfl rfl ?_ ?_
            · clear k1
              unfold Oper.wp
              go_simp
              refine ⟨But.refl _ _, ?_⟩
              clear kd
              refine anyT_one 6 rfl (by kernel_rfl) rfl ?_
              unfold Oper.wp
              go_simp
              refine ⟨But.of l1, ?_⟩
              change wpAnyT _ _ _ _ _ _ _ _ (Wd.alloc (.cells (exc x).toArray 26))
              have hT1 := hT.later LL
              obtain ⟨g', cap', W6, hrun, hrow6, hbt6, hob6, hg6⟩ := app1E Wd 42 base (.slice av l.length cv) l x hTd.2.2 (Nat.le_trans hbs LD.size) (by omega)
              refine anyT_one 7 rfl (by kernel_rfl) rfl ?_
              refine wp_app (.tmp 71) (.tmp 73) 42 rfl _ _ rfl rfl _ W6 hrun ?_
              have hb6 : But (fun g => g = b ∨ Value.ownBlock (.slice av l.length cv) = some g) (Wd.alloc (.cells (exc x).toArray 26)) W6 := ⟨hg6.os, hg6.tape, hg6.output, hg6.size, fun k hk he => hg6.block k hk (fun e => he (.inr e.symm))⟩
              refine ⟨hb6, ?_⟩
              simp only [Act.put, List.setIfInBounds_toArray, List.set_cons_zero, List.set_cons_succ]
              have h6 : W6.heap[b]? = some (.cells #[.slice av l.length cv] 64 (0, 0)) := (hg6.block b (Array.getElem?_eq_some_iff.1 hT1.2.1).1 HNE.out).trans hT1.2.1
              have k6 := block_cell h6
              have f6 := block_frozen h6
              refine anyT_val (But.pre _) 8 rfl (by kernel_rfl) (by kernel_rfl) (by kernel_rfl) (fun _ _ _ _ h => h) rfl ?_; apply Exists.intro; refine ⟨fun v1 hv1 => ?_, ?_⟩; (· (go_simp; rfl)); simp only [Act.put, List.setIfInBounds_toArray, List.set_cons_zero, List.set_cons_succ]
              refine anyT_val (But.pre _) 9 rfl (by kernel_rfl) (by kernel_rfl) (by kernel_rfl) (fun _ _ _ _ h => h) rfl ?_; apply Exists.intro; refine ⟨fun v1 hv1 => ?_, ?_⟩; (· (go_simp; rfl)); simp only [Act.put, List.setIfInBounds_toArray, List.set_cons_zero, List.set_cons_succ]
              refine anyT_one 10 rfl (by kernel_rfl) rfl ?_
              unfold Oper.wp
              go_simp
              generalize hV : W6.setCell ⟨b, 0, none⟩ _ = V
              have hV3 := heap_set1 h6 0 (.slice (some ⟨g', 0, none⟩) (l.length + 1) cap')
              rw [hV] at hV3
              have hbV2 : But (fun g => g = b ∨ Value.ownBlock (.slice av l.length cv) = some g) W6 V := by rw [← hV]; exact (But.refl (fun g => g = b ∨ Value.ownBlock (.slice av l.length cv) = some g) _).setCell (p := ⟨b, 0, none⟩) (.inl rfl) _
              have hbV1 : But (fun g => g = b) W6 V := by rw [← hV]; exact (But.refl (fun g => g = b) _).setCell (p := ⟨b, 0, none⟩) rfl _
              refine ⟨hbV2, ?_⟩
              clear hV k6 f6
              refine anyT_done (by kernel_rfl) ?_
              have hfin : BLq 64 base w V b (.slice av l.length cv) (l ++ [x]) := by
                refine ⟨.slice (some ⟨g', 0, none⟩) (l.length + 1) cap', ⟨hT.1, hV3, ?_⟩, (But.of LL).trans (hb6.trans hbV2), ?_⟩
                · refine ownE_but hrow6 hbV1 (fun g hg e => ?_)
                  rw [e] at hg
                  have e2 : g' = b := by simpa [Value.ownBlock] using hg
                  obtain ⟨q1, ⟨q2, q3⟩ | ⟨g2, cap, cur, hv, hgb, hh, q⟩⟩ := hrow6
                  · simp at q2
                  · have e1 : g' = g2 := by have := congrArg Value.ownBlock hv; simpa [Value.ownBlock] using this
                    rw [← e1, e2, h6] at hh
                    simp at hh
                · rcases hob6 with h | h
                  · exact .inl h.symm
                  · refine .inr (fun g hg => ?_)
                    have : g' = g := by simpa [Value.ownBlock] using hg
                    subst this
                    have := LD.size
                    omega
              have HF := hide hfin
              clear hfin
              go_wp2_with fail
              go_ret
              exact ⟨by rw [HAE.out]; rfl, by rw [HAL.out]; exact HF.out⟩
            · clear kd
              unfold Oper.wp
              go_simp
              refine ⟨But.of l1, ?_⟩
              change wpAnyT _ _ _ _ _ _ _ _ (Wd.alloc (.cells (exc x).toArray 26))
              refine anyT_one 4 rfl (by kernel_rfl) rfl ?_
              generalize hgg : Wd.alloc (.cells (exc x).toArray 26) = W1 at *
              unfold Oper.wp
              go_simp
              refine ⟨But.refl _ _, ?_⟩
              clear k1
              subst hgg
              have hT1 := hT.later LL
              obtain ⟨g', cap', W6, hrun, hrow6, hbt6, hob6, hg6⟩ := app1E Wd 42 base (.slice av l.length cv) l x hTd.2.2 (Nat.le_trans hbs LD.size) (by omega)
              refine anyT_one 7 rfl (by kernel_rfl) rfl ?_
              refine wp_app (.tmp 71) (.tmp 73) 42 rfl _ _ rfl rfl _ W6 hrun ?_
              have hb6 : But (fun g => g = b ∨ Value.ownBlock (.slice av l.length cv) = some g) (Wd.alloc (.cells (exc x).toArray 26)) W6 := ⟨hg6.os, hg6.tape, hg6.output, hg6.size, fun k hk he => hg6.block k hk (fun e => he (.inr e.symm))⟩
              refine ⟨hb6, ?_⟩
              simp only [Act.put, List.setIfInBounds_toArray, List.set_cons_zero, List.set_cons_succ]
              have h6 : W6.heap[b]? = some (.cells #[.slice av l.length cv] 64 (0, 0)) := (hg6.block b (Array.getElem?_eq_some_iff.1 hT1.2.1).1 HNE.out).trans hT1.2.1
              have k6 := block_cell h6
              have f6 := block_frozen h6
              refine anyT_val (But.pre _) 8 rfl (by kernel_rfl) (by kernel_rfl) (by kernel_rfl) (fun _ _ _ _ h => h) rfl ?_; apply Exists.intro; refine ⟨fun v1 hv1 => ?_, ?_⟩; (· (go_simp; rfl)); simp only [Act.put, List.setIfInBounds_toArray, List.set_cons_zero, List.set_cons_succ]
              refine anyT_val (But.pre _) 9 rfl (by kernel_rfl) (by kernel_rfl) (by kernel_rfl) (fun _ _ _ _ h => h) rfl ?_; apply Exists.intro; refine ⟨fun v1 hv1 => ?_, ?_⟩; (· (go_simp; rfl)); simp only [Act.put, List.setIfInBounds_toArray, List.set_cons_zero, List.set_cons_succ]
              refine anyT_one 10 rfl (by kernel_rfl) rfl ?_
              unfold Oper.wp
              go_simp
              generalize hV : W6.setCell ⟨b, 0, none⟩ _ = V
              have hV3 := heap_set1 h6 0 (.slice (some ⟨g', 0, none⟩) (l.length + 1) cap')
              rw [hV] at hV3
              have hbV2 : But (fun g => g = b ∨ Value.ownBlock (.slice av l.length cv) = some g) W6 V := by rw [← hV]; exact (But.refl (fun g => g = b ∨ Value.ownBlock (.slice av l.length cv) = some g) _).setCell (p := ⟨b, 0, none⟩) (.inl rfl) _
              have hbV1 : But (fun g => g = b) W6 V := by rw [← hV]; exact (But.refl (fun g => g = b) _).setCell (p := ⟨b, 0, none⟩) rfl _
              refine ⟨hbV2, ?_⟩
              clear hV k6 f6
              refine anyT_done (by kernel_rfl) ?_
              have hfin : BLq 64 base w V b (.slice av l.length cv) (l ++ [x]) := by
                refine ⟨.slice (some ⟨g', 0, none⟩) (l.length + 1) cap', ⟨hT.1, hV3, ?_⟩, (But.of LL).trans (hb6.trans hbV2), ?_⟩
                · refine ownE_but hrow6 hbV1 (fun g hg e => ?_)
                  rw [e] at hg
                  have e2 : g' = b := by simpa [Value.ownBlock] using hg
                  obtain ⟨q1, ⟨q2, q3⟩ | ⟨g2, cap, cur, hv, hgb, hh, q⟩⟩ := hrow6
                  · simp at q2
                  · have e1 : g' = g2 := by have := congrArg Value.ownBlock hv; simpa [Value.ownBlock] using this
                    rw [← e1, e2, h6] at hh
                    simp at hh
                · rcases hob6 with h | h
                  · exact .inl h.symm
                  · refine .inr (fun g hg => ?_)
                    have : g' = g := by simpa [Value.ownBlock] using hg
                    subst this
                    have := LD.size
                    omega
              have HF := hide hfin
              clear hfin
              go_wp2_with fail
              go_ret
              exact ⟨by rw [HAE.out]; rfl, by rw [HAL.out]; exact HF.out⟩
end Go.Proofs.Ytbimdhapkbdmjaa
