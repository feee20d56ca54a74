/- Package segs: the bytes of options. -/
import Derived.Test.YtclkfmdlgffbeaaSG
import Derived.Test.YtclkfmdlgffbeaaRx
namespace Go.Proofs.Ytclkfmdlgffbeaa
open Go.RowKit Go.Shelf
set_option maxRecDepth 100000
set_option linter.unusedVariables false
set_option linter.unusedSimpArgs false

theorem HSt.below {tl : List Value} {t : TypeId} {ub : Nat} {N : Nat → Prop} {ys : List Int} {W W' : World} (h : HSt tl t ub N ys W) (l : Later W W') : HSt tl t ub N ys W' := by
  obtain ⟨v, h1, h2, h3⟩ := h
  refine ⟨v, (l.block ub (Array.getElem?_eq_some_iff.1 h1).1).trans h1, ⟨h2.1, h2.2.imp id ?_⟩, h3⟩
  rintro ⟨g, cap, cur, e, hg, hh, r⟩
  exact ⟨g, cap, cur, e, hg, (l.block g (Array.getElem?_eq_some_iff.1 hh).1).trans hh, r⟩
theorem HSt.cell {tl : List Value} {t : TypeId} {ub : Nat} {N : Nat → Prop} {ys : List Int} {W : World} (h : HSt tl t ub N ys W) : ∃ a c, W.cell? ⟨ub, 0, none⟩ = some (.slice a ys.length c) ∧ Ow (ub + 1) W (.slice a ys.length c) ys ∧ ys.length ≤ c := by
  obtain ⟨v, h1, h2, h3⟩ := h
  have hO := Ow.of_row h2
  obtain ⟨a, c, rfl, hc, _⟩ := hO.slice
  exact ⟨a, c, by have := block_cell h1 0; simpa using this, hO, hc⟩

/-- How many bytes lack up to a word. -/
def hpad (ub : Nat) (W : World) : Nat := match W.cell? ⟨ub, 0, none⟩ with | some (.slice _ n _) => padn n | _ => 0

set_option maxHeartbeats 4000000 in
theorem optionBytes_any (sv : Value) (os : List Opt) (w : World) (hB : ByO os) (hI : RdO w.heap.size w sv os) (hl : ∀ o ∈ os, o.2.length ≤ 140737488355000) :
    Calls Try.prog 29 #[sv] w fun e w' => Below w.heap.size w w' ∧ ((¬ obOk os ∧ e = .returned (.tuple #[.slice none 0 0, .bool false])) ∨
      (obOk os ∧ ∃ a c, e = .returned (.tuple #[.slice a (pad (obs os)).length c, .bool true]) ∧ Ow w.heap.size w' (.slice a (pad (obs os)).length c) (pad (obs os)))) := by
  obtain ⟨a, cap, rfl, hc1, hc2⟩ := hI.slice
  have h0 : HSt [] 61 w.heap.size (fun _ => False) [] (w.alloc (.cells #[.slice none 0 0] 61)) := ⟨.slice none 0 0, heap_alloc_new _ _, World.ownsRow_nil _ _ _ _, fun _ h => by cases h⟩
  have hb0 : Below w.heap.size w (w.alloc (.cells #[.slice none 0 0] 61)) := (Below.refl _ _).alloc (Nat.le_refl _) _
  go_enter Try.func29, Try.ntmps29
  go_wp2
  generalize w.alloc (.cells #[.slice none 0 0] 61) = W0 at *
  go_loopw [9] (fun i wr => ∃ k : Nat, k ≤ os.length ∧ i = .int .i64 (k : Int) ∧ HSt [] 61 w.heap.size (fun _ => False) (obs (os.take k)) wr ∧ Below w.heap.size w wr ∧ (∀ o ∈ os.take k, okO o) ∧ (obs (os.take k)).length ≤ 40)
    (fun i _ => os.length - (intOf i).toNat)
  case atStart => exact ⟨0, by omega, rfl, h0, hb0, by simp, by simp [obs]⟩
  case round =>
    obtain ⟨k, hk, rfl, hH, hb, hok, h40⟩ := hrel
    have hub := hH.lt
    by_cases hlt : k < os.length
    · obtain ⟨b, off, cp, e, _, _, hbb, hcs⟩ := (hI.below hb).cells (by omega)
      simp at e
      obtain ⟨rfl, rfl⟩ := e
      obtain ⟨s, c0, c1, hRs⟩ := hcs k hlt
      clear hcs
      obtain ⟨ax, cx, rfl, hs1, hs2⟩ := hRs.slice
      have hmem : os[k]?.getD (0, []) ∈ os := by simp [hlt]
      have hol := hl _ hmem
      have hoB := hB _ hmem
      have HT : Hid (os.take (k + 1) = os.take k ++ [os[k]?.getD (0, [])]) := by show _ = _; rw [List.take_add_one]; simp [hlt]
      clear hmem
      generalize os[k]?.getD (0, []) = o at *
      obtain ⟨kd, dt⟩ := o
      dsimp only at c0 hRs hs1 hol hoB c1
      have hRo := (rob_iff (kd, dt))
      have hOz := (oszi_eq (kd, dt))
      have hO1 := ob1_length (kd, dt)
      dsimp only at hRo hOz
      have HRo := hide hRo
      have HOz := hide hOz
      have HO1 := hide hO1
      clear hRo hOz hO1
      have hlt' : (k : Int) < os.length := by omega
      have hbw : Below w.heap.size w (wr.alloc (.cells #[.int .u8 kd, .slice ax dt.length cx] 57)) := hb.trans ((Below.refl _ wr).alloc hb.size _)
      have hHw := hH.alloc (.cells #[.int .u8 kd, .slice ax dt.length cx] 57)
      have ox : (wr.alloc (.cells #[.int .u8 kd, .slice ax dt.length cx] 57)).heap[wr.heap.size]? = some (.cells #[.int .u8 kd, .slice ax dt.length cx] 57) := heap_alloc_new _ _
      have hsw : (wr.alloc (.cells #[.int .u8 kd, .slice ax dt.length cx] 57)).heap.size = wr.heap.size + 1 := by simp
      have OX := hide ox
      have HSW := hide hsw
      clear ox hsw
      have hRw := hRs.below ((Below.refl _ wr).alloc hb.size (.cells #[.int .u8 kd, .slice ax dt.length cx] 57))
      go_upto_region 5 with fail
      generalize wr.alloc (.cells #[.int .u8 kd, .slice ax dt.length cx] 57) = W1 at *
      obtain ⟨ah, ch, hcell, hOh, hch⟩ := hHw.cell
      refine anyR_begin Later.pre Later.drew 12 rfl (by kernel_rfl) (fun W2 hW2 => ?_)
      have qo : ∀ v1, Later W2 v1 → ∀ i, v1.cell? ⟨wr.heap.size, i, none⟩ = #[Value.int .u8 kd, .slice ax dt.length cx][i]? := fun v1 h => block_cell (later_keep (hW2.trans h) OX.out)
      have qh : ∀ v1, Later W2 v1 → v1.cell? ⟨w.heap.size, 0, none⟩ = some (.slice ah (obs (os.take k)).length ch) := fun v1 h => (hW2.trans h).cell hcell
      refine anyR_val Later.pre 0 rfl (by kernel_rfl) (by kernel_rfl) (by kernel_rfl) (fun _ _ _ _ h => h) rfl ?_; apply Exists.intro; refine ⟨fun w1 hw1 => ?_, ?_⟩; (· (go_simp; rfl)); simp only [Act.put, List.setIfInBounds_toArray, List.set_cons_zero, List.set_cons_succ]
      refine anyR_take Later.pre 1 (.bool (rob kd dt.length)) rfl (by kernel_rfl) (by kernel_rfl) (by kernel_rfl) (fun _ _ _ h => h) rfl (fun v1 hv1 => goes_call 54 #[.agg #[.int .u8 kd, .slice ax dt.length cx]] (by go_simp) ?_) ?_
      · exact (rightO_any kd ax dt.length cx v1)
      simp only [Act.put, List.setIfInBounds_toArray, List.set_cons_zero, List.set_cons_succ]
      have hmm : (kd, dt) ∈ os := by have h2 : (kd, dt) ∈ os.take (k + 1) := (by rw [HT.out]; simp); exact List.mem_of_mem_take h2
      have hbad : ¬ okO (kd, dt) → ¬ obOk os := fun h h' => h (h'.1 _ hmm)
      clear hmm
      cases hro : rob kd dt.length with
      | false =>
        have HN := hide (hbad (fun h => by have := (HRo.out.2 h); rw [hro] at this; cases this))
        clear hbad hro
        refine anyR_val Later.pre 2 rfl (by kernel_rfl) (by kernel_rfl) (by kernel_rfl) (fun _ _ _ _ h => h) rfl ?_; apply Exists.intro; refine ⟨fun w1 hw1 => ?_, ?_⟩; (· (go_simp; rfl)); simp only [Act.put, List.setIfInBounds_toArray, List.set_cons_zero, List.set_cons_succ]
        refine anyR_val Later.pre 3 rfl (by kernel_rfl) (by kernel_rfl) (by kernel_rfl) (fun _ _ _ _ h => h) rfl ?_; apply Exists.intro; refine ⟨fun w1 hw1 => ?_, ?_⟩; (· (go_simp; rfl)); simp only [Act.put, List.setIfInBounds_toArray, List.set_cons_zero, List.set_cons_succ]
        refine anyR_skip Later.pre 4 rfl (by kernel_rfl) (by kernel_rfl) (by kernel_rfl) (fun _ _ _ h => h) (by rfl) ?_; simp only [Act.put, List.setIfInBounds_toArray, List.set_cons_zero, List.set_cons_succ]
        refine anyR_skip Later.pre 5 rfl (by kernel_rfl) (by kernel_rfl) (by kernel_rfl) (fun _ _ _ h => h) (by rfl) ?_; simp only [Act.put, List.setIfInBounds_toArray, List.set_cons_zero, List.set_cons_succ]
        refine anyR_skip Later.pre 6 rfl (by kernel_rfl) (by kernel_rfl) (by kernel_rfl) (fun _ _ _ h => h) (by rfl) ?_; simp only [Act.put, List.setIfInBounds_toArray, List.set_cons_zero, List.set_cons_succ]
        refine anyR_skip Later.pre 7 rfl (by kernel_rfl) (by kernel_rfl) (by kernel_rfl) (fun _ _ _ h => h) (by rfl) ?_; simp only [Act.put, List.setIfInBounds_toArray, List.set_cons_zero, List.set_cons_succ]
        refine anyR_skip Later.pre 8 rfl (by kernel_rfl) (by kernel_rfl) (by kernel_rfl) (fun _ _ _ h => h) (by rfl) ?_; simp only [Act.put, List.setIfInBounds_toArray, List.set_cons_zero, List.set_cons_succ]
        refine anyR_skip Later.pre 9 rfl (by kernel_rfl) (by kernel_rfl) (by kernel_rfl) (fun _ _ _ h => h) (by rfl) ?_; simp only [Act.put, List.setIfInBounds_toArray, List.set_cons_zero, List.set_cons_succ]
        refine anyR_skip Later.pre 10 rfl (by kernel_rfl) (by kernel_rfl) (by kernel_rfl) (fun _ _ _ h => h) (by rfl) ?_; simp only [Act.put, List.setIfInBounds_toArray, List.set_cons_zero, List.set_cons_succ]
        refine anyR_val Later.pre 11 rfl (by kernel_rfl) (by kernel_rfl) (by kernel_rfl) (fun _ _ _ _ h => h) rfl ?_; apply Exists.intro; refine ⟨fun w1 hw1 => ?_, ?_⟩; (· (go_simp; rfl)); simp only [Act.put, List.setIfInBounds_toArray, List.set_cons_zero, List.set_cons_succ]
        refine anyR_done (by kernel_rfl) (fun W8 hW8 => ?_)
        have hw8 : Below w.heap.size w W8 := hbw.trans ((hW2.trans hW8).mono hbw.size)
        clear qo qh
        go_wp2_with fail
        exact bodyPost_ret (v := .tuple #[.slice none 0 0, .bool false]) (by simp [results, Try.results29, go_sem]) rfl ⟨hw8, .inl ⟨HN.out, rfl⟩⟩
      | true =>
        have hokx : okO (kd, dt) := HRo.out.1 hro
        clear hbad hro
        refine anyR_val Later.pre 2 rfl (by kernel_rfl) (by kernel_rfl) (by kernel_rfl) (fun _ _ _ _ h => h) rfl ?_; apply Exists.intro; refine ⟨fun w1 hw1 => ?_, ?_⟩; (· (go_simp; rfl)); simp only [Act.put, List.setIfInBounds_toArray, List.set_cons_zero, List.set_cons_succ]
        refine anyR_val Later.pre 3 rfl (by kernel_rfl) (by kernel_rfl) (by kernel_rfl) (fun _ _ _ _ h => h) rfl ?_; apply Exists.intro; refine ⟨fun w1 hw1 => ?_, ?_⟩; (· (go_simp; rfl)); simp only [Act.put, List.setIfInBounds_toArray, List.set_cons_zero, List.set_cons_succ]
        refine anyR_valG Later.pre 4 rfl (by kernel_rfl) (by kernel_rfl) (by kernel_rfl) (fun _ _ _ _ h => h) (by rfl) ?_; apply Exists.intro; refine ⟨fun w1 hw1 => ?_, ?_⟩; (· (go_simp; rfl)); simp only [Act.put, List.setIfInBounds_toArray, List.set_cons_zero, List.set_cons_succ]
        refine anyR_takeG Later.pre 5 (.int .i64 (oszi kd dt.length)) rfl (by kernel_rfl) (by kernel_rfl) (by kernel_rfl) (fun _ _ _ h => h) (by rfl) (fun v1 hv1 => goes_call 55 #[.agg #[.int .u8 kd, .slice ax dt.length cx]] (by go_simp) ?_) ?_
        · exact (oSize_any kd ax dt.length cx v1 (by omega))
        simp only [Act.put, List.setIfInBounds_toArray, List.set_cons_zero, List.set_cons_succ]
        refine anyR_valG Later.pre 6 rfl (by kernel_rfl) (by kernel_rfl) (by kernel_rfl) (fun _ _ _ _ h => h) (by rfl) ?_; apply Exists.intro; refine ⟨fun w1 hw1 => ?_, ?_⟩; (· (go_simp; rfl)); simp only [Act.put, List.setIfInBounds_toArray, List.set_cons_zero, List.set_cons_succ]
        refine anyR_valG Later.pre 7 rfl (by kernel_rfl) (by kernel_rfl) (by kernel_rfl) (fun _ _ _ _ h => h) (by rfl) ?_; apply Exists.intro; refine ⟨fun w1 hw1 => ?_, ?_⟩; (· (go_simp; rfl)); simp only [Act.put, List.setIfInBounds_toArray, List.set_cons_zero, List.set_cons_succ]
        refine anyR_valG Later.pre 8 rfl (by kernel_rfl) (by kernel_rfl) (by kernel_rfl) (fun _ _ _ _ h => h) (by rfl) ?_; apply Exists.intro; refine ⟨fun w1 hw1 => ?_, ?_⟩; (· (go_simp; rfl)); simp only [Act.put, List.setIfInBounds_toArray, List.set_cons_zero, List.set_cons_succ]
        refine anyR_valG Later.pre 9 rfl (by kernel_rfl) (by kernel_rfl) (by kernel_rfl) (fun _ _ _ _ h => h) (by rfl) ?_; apply Exists.intro; refine ⟨fun w1 hw1 => ?_, ?_⟩; (· (go_simp; rfl)); simp only [Act.put, List.setIfInBounds_toArray, List.set_cons_zero, List.set_cons_succ]
        refine anyR_valG Later.pre 10 rfl (by kernel_rfl) (by kernel_rfl) (by kernel_rfl) (fun _ _ _ _ h => h) (by rfl) ?_; apply Exists.intro; refine ⟨fun w1 hw1 => ?_, ?_⟩; (· (go_simp; rfl)); simp only [Act.put, List.setIfInBounds_toArray, List.set_cons_zero, List.set_cons_succ]
        refine anyR_val Later.pre 11 rfl (by kernel_rfl) (by kernel_rfl) (by kernel_rfl) (fun _ _ _ _ h => h) rfl ?_; apply Exists.intro; refine ⟨fun w1 hw1 => ?_, ?_⟩; (· (go_simp; rfl)); simp only [Act.put, List.setIfInBounds_toArray, List.set_cons_zero, List.set_cons_succ]
        refine anyR_done (by kernel_rfl) (fun W8 hW8 => ?_)
        have hl8 := hW2.trans hW8
        have hw8 : Below w.heap.size w W8 := hbw.trans (hl8.mono hbw.size)
        have hH8 := hHw.below hl8
        have ox8 := later_keep hl8 OX.out
        have hs8 : wr.heap.size + 1 ≤ W8.heap.size := by have := hl8.size; have := HSW.out; omega
        have hR8 := hRw.below (hl8.mono (by have := HSW.out; have := hb.size; omega))
        clear qo qh hOh hcell hRw hHw hbw hW2 hW8 hl8 OX HSW
        have hT2 : (obs (os.take (k + 1))).length = (obs (os.take k)).length + (ob1 (kd, dt)).length := by rw [HT.out, obs_snoc, List.length_append]
        rw [HO1.out] at hT2
        by_cases hbig : (40 : Int) - ((obs (os.take k)).length : Int) < oszi kd dt.length
        · have HN : Hid (¬ obOk os) := by
            show ¬ obOk os
            intro h
            have h2 := h.2
            have h3 : (obs os).length = (obs (os.take (k + 1))).length + (obs (os.drop (k + 1))).length := by rw [← List.length_append, ← obs_app, List.take_append_drop]
            have h4 := HOz.out
            omega
          rw [show decide (IntKind.i64.wrap (40 - ((obs (os.take k)).length : Int)) < oszi kd dt.length) = true from by rw [IntKind.wrap_i64]; simp; omega]
          go_wp2_with fail
          exact bodyPost_ret (v := .tuple #[.slice none 0 0, .bool false]) (by simp [results, Try.results29, go_sem]) rfl ⟨hw8, .inl ⟨HN.out, rfl⟩⟩
        · have hsm : (obs (os.take (k + 1))).length ≤ 40 := by have h4 := HOz.out; omega
          have HSM := hide hsm
          clear hsm hT2
          rw [show decide (IntKind.i64.wrap (40 - ((obs (os.take k)).length : Int)) < oszi kd dt.length) = false from by rw [IntKind.wrap_i64]; simp; omega]
          have K8 := block_cell ox8
          go_wp2_with fail
          have hR9 := Rd.new [kd] 5 W8 (by simp) (by simp)
          have hH9 := hH8.below ((Below.refl _ W8).alloc (Nat.le_refl _) (.cells #[.int .u8 kd] 5))
          refine (put_any [] 61 w.heap.size (fun b => False ∨ b = wr.heap.size) _ _ [kd] _ _ hH9 (fun b hb => by rcases hb with h | h; exact h.elim; subst h; exact ⟨by first | omega | (simp; omega), by omega⟩) hR9 (by simp; omega)).mono ?_
          rintro e W9 ⟨rfl, hH10, hE9⟩
          have hE9' : But (fun b => w.heap.size ≤ b ∧ ¬ (False ∨ b = wr.heap.size)) W8 W9 := (But.of ((Below.refl _ W8).alloc (Nat.le_refl _) _)).trans hE9
          have hw9 : Below w.heap.size w W9 := hw8.trans (hE9'.below (by omega) (fun k h e => by omega))
          have ox9 := (hE9'.block wr.heap.size (by omega) (by simp)).trans ox8
          have hR10 := hR8.below (hE9'.below (by omega) (fun k h e => by omega))
          have hs9 : wr.heap.size + 1 ≤ W9.heap.size := Nat.le_trans hs8 hE9'.size
          clear hR9 hH9 hH8 hE9 hE9' ox8 hR8 K8
          have K9 := block_cell ox9
          by_cases hk1 : kd = 1
          · have t1 : (kd != 1) = false := by simp [hk1]
            have HO : Hid (obs (os.take (k + 1)) = obs (os.take k) ++ [kd]) := by show _ = _; rw [HT.out, obs_snoc]; unfold ob1; rw [if_pos hk1]; simp [hk1]
            have HK := hide hk1
            clear hk1
            go_wp2_with fail
            go_roundw
            case rel => exact ⟨k + 1, by omega, by go_num, by rw [HO.out]; exact hH10.weaken (fun _ h => h.elim), hw9, by rw [HT.out]; intro o ho; rcases List.mem_append.1 ho with h | h; exact hok o h; simp at h; subst h; exact hokx, HSM.out⟩
            case measure => simp [intOf]; omega
          · have t1 : (kd != 1) = true := by simp [hk1]
            have HO : Hid (obs (os.take (k + 1)) = obs (os.take k) ++ [kd] ++ [2 + (dt.length : Int)] ++ dt) := by show _ = _; rw [HT.out, obs_snoc]; unfold ob1; rw [if_neg hk1]; simp
            have HK := hide hk1
            have hzz : oszi kd dt.length = 2 + (dt.length : Int) := by unfold oszi; rw [if_neg hk1]
            have HZ := hide hzz
            have hd38 : dt.length ≤ 38 := by have h := HSM.out; rw [HO.out] at h; simp at h; omega
            clear hk1 hzz
            go_wp2_with fail
            refine (oSize_any kd ax dt.length cx W9 (by omega)).mono ?_
            rintro e Wa ⟨rfl, hba⟩
            rw [HZ.out]
            have hwr : IntKind.u8.wrap (2 + (dt.length : Int)) = 2 + (dt.length : Int) := by rw [IntKind.wrap_u8]; omega
            have hwa : Below w.heap.size w Wa := hw9.trans (hba.mono hw9.size)
            have oxa := later_keep hba ox9
            have hHa := hH10.below hba
            have hRa := hR10.below (hba.mono (by omega))
            have hsa : wr.heap.size + 1 ≤ Wa.heap.size := Nat.le_trans hs9 hba.size
            clear K9 ox9 hH10 hR10 hba
            go_wp2_with fail
            have hRb := Rd.new [2 + (dt.length : Int)] 5 Wa (by simp) (by simp)
            have hHb := hHa.below ((Below.refl _ Wa).alloc (Nat.le_refl _) (.cells #[.int .u8 (2 + (dt.length : Int))] 5))
            refine (put_any [] 61 w.heap.size (fun b => False ∨ b = wr.heap.size) _ _ [2 + (dt.length : Int)] _ _ hHb (fun b hb => by rcases hb with h | h; exact h.elim; subst h; exact ⟨by first | omega | (simp; omega), by omega⟩) hRb (by simp; omega)).mono ?_
            rintro e Wb ⟨rfl, hHc, hEb⟩
            have hEb' : But (fun b => w.heap.size ≤ b ∧ ¬ (False ∨ b = wr.heap.size)) Wa Wb := (But.of ((Below.refl _ Wa).alloc (Nat.le_refl _) _)).trans hEb
            have hwb : Below w.heap.size w Wb := hwa.trans (hEb'.below (by omega) (fun k h e => by omega))
            have oxb := (hEb'.block wr.heap.size (by omega) (by simp)).trans oxa
            have hRc := hRa.below (hEb'.below (by omega) (fun k h e => by omega))
            have hsb : wr.heap.size + 1 ≤ Wb.heap.size := Nat.le_trans hsa hEb'.size
            clear hRb hHb hHa hEb hEb' oxa hRa
            have Kb := block_cell oxb
            go_wp2_with fail
            refine (put_any [] 61 w.heap.size (fun b => False ∨ b = wr.heap.size) _ _ dt _ _ hHc (fun b hb => by rcases hb with h | h; exact h.elim; subst h; exact ⟨by first | omega | (simp; omega), by omega⟩) hRc (by simp; omega)).mono ?_
            rintro e Wc ⟨rfl, hHd, hEc⟩
            have hwc : Below w.heap.size w Wc := hwb.trans (hEc.below (by omega) (fun k h e => by omega))
            clear Kb
            go_wp2_with fail
            go_roundw
            case rel => exact ⟨k + 1, by omega, by go_num, by rw [HO.out]; exact hHd.weaken (fun _ h => h.elim), hwc, by rw [HT.out]; intro o ho; rcases List.mem_append.1 ho with h | h; exact hok o h; simp at h; subst h; exact hokx, HSM.out⟩
            case measure => simp [intOf]; omega
    · obtain rfl : k = os.length := by omega
      rw [List.take_length] at hH hok h40
      have HOK : Hid (obOk os) := ⟨hok, h40⟩
      clear hlt hok
      go_wp2_with fail
      clear hI hl hB
      go_loopw [] (fun wr => ∃ m : Nat, m ≤ padn (obs os).length ∧ HSt [] 61 w.heap.size (fun _ => False) (obs os ++ List.replicate m 0) wr ∧ Below w.heap.size w wr) (fun wr => hpad w.heap.size wr)
      case atStart => exact ⟨0, Nat.zero_le _, by simpa using hH, hb⟩
      case round =>
        obtain ⟨m, hm, hHm, hbm⟩ := hrel
        have hubm := hHm.lt
        have hbw := hbm.size
        obtain ⟨ah, ch, hcell, hOh, hch⟩ := hHm.cell
        have hln : (obs os ++ List.replicate m 0).length = (obs os).length + m := by simp
        have HLN := hide hln
        clear hln
        generalize hgl : (obs os ++ List.replicate m 0).length = L at *
        have hL : L = (obs os).length + m := HLN.out
        clear HLN
        by_cases hd : L % 4 = 0
        · have t4 : ((L : Int).tmod 4 != 0) = false := by
            rw [Int.tmod_eq_emod_of_nonneg (by omega)]
            simp
            omega
          have hme : m = padn (obs os).length := by unfold padn at *; omega
          subst hme
          have hpd : obs os ++ List.replicate (padn (obs os).length) 0 = pad (obs os) := rfl
          rw [hpd] at hOh hgl
          subst hgl
          have t5 : (((pad (obs os)).length : Int) % 4 != 0) = false := by simp; omega
          have HPD := hide hm
          clear hL hm hd hpd hHm
          generalize hgl : (pad (obs os)).length = L at *
          have HGL := hide hgl
          clear hgl
          go_wp2_with fail
          exact bodyPost_ret (v := .tuple #[.slice ah L ch, .bool true]) (by simp [results, Try.results29, go_sem]) rfl ⟨hbm, .inr ⟨HOK.out, ah, ch, by rw [HGL.out], by rw [HGL.out]; exact hOh.mono (Nat.le_succ _)⟩⟩
        · have t4 : ((L : Int).tmod 4 != 0) = true := by
            rw [Int.tmod_eq_emod_of_nonneg (by omega)]
            simp
            omega
          have hlt : m + 1 ≤ padn (obs os).length := by unfold padn at *; omega
          have t5 : ((L : Int) % 4 != 0) = true := by simp; omega
          have h44 : L ≤ 44 := by unfold padn at *; omega
          have HD := hide hd
          have HL := hide hL
          have HGL := hide hgl
          clear hd hL hgl
          go_wp2_with fail
          have hRb := Rd.new [0] 5 wr (by simp) (by simp)
          have hHb := hHm.below ((Below.refl _ wr).alloc (Nat.le_refl _) (.cells #[.int .u8 0] 5))
          refine (put_any [] 61 w.heap.size (fun _ => False) _ _ [0] _ _ hHb (fun b hb => hb.elim) hRb (by have := HGL.out; simp at this ⊢; omega)).mono ?_
          rintro e Wb ⟨rfl, hHc, hEb⟩
          have hEb' : But (fun b => w.heap.size ≤ b ∧ ¬ False) wr Wb := (But.of ((Below.refl _ wr).alloc (Nat.le_refl _) _)).trans hEb
          have hwb : Below w.heap.size w Wb := hbm.trans (hEb'.below (by omega) (fun k h e => by omega))
          clear hRb hHb hEb hEb' hOh
          go_wp2_with fail
          obtain ⟨ai, ci, hcell2, _, _⟩ := hHc.cell
          have HE : Hid (obs os ++ List.replicate m 0 ++ [0] = obs os ++ List.replicate (m + 1) 0) := by show _ = _; rw [List.append_assoc, List.replicate_succ']
          rw [HE.out] at hHc hcell2
          go_roundw
          case rel => exact ⟨m + 1, hlt, hHc, hwb⟩
          case measure =>
            unfold hpad
            rw [hcell, hcell2]
            have h1 := HL.out
            have h2 := HD.out
            simp only [List.length_append, List.length_replicate]
            show padn _ < padn _
            unfold padn at *
            omega
end Go.Proofs.Ytclkfmdlgffbeaa
