/- Several texts in one. -/
import Derived.Test.YtojoaidnkljcpaaDoorX2
import Derived.Test.YtojoaidnkljcpaaDoorX3
import Derived.Test.YtojoaidnkljcpaaDoorRt
import Derived.Test.YtojoaidnkljcpaaDoorCB
import Derived.Test.YtojoaidnkljcpaaDoorSE
import Derived.Test.YtojoaidnkljcpaaDoorKN
/- The document's ParseGre: the beginning. -/
namespace Go.Proofs.YtojoaidnkljcpaaDoor
open Go.RowKit Go.Shelf
set_option maxRecDepth 100000
set_option linter.unusedVariables false
set_option linter.unusedSimpArgs false

set_option maxHeartbeats 8000000 in
theorem rbegin_any (sv : Value) (zs : List Int) (h4 : 4 ≤ zs.length) (w : World) (hI : Rd w.heap.size w sv zs) :
    Calls Tryd.prog 56 #[sv] w fun e w' => e = .returned (.bool (bgk (bgz zs))) ∧ Below w.heap.size w w' := by
  obtain ⟨b, off, cap, rfl, hlc, hmc, hbb, hcs⟩ := hI.cells (by omega)
  unfold bgz
  have d0 : w.cell? ⟨b, off, none⟩ = some (.int .u8 (zs[0]?.getD 0)) := hcs 0 (by omega)
  have d1 := hcs 1 (by omega)
  have d2 := hcs 2 (by omega)
  have d3 := hcs 3 (by omega)
  clear hcs hI
  generalize zs[0]?.getD 0 = x0 at *
  generalize zs[1]?.getD 0 = x1 at *
  generalize zs[2]?.getD 0 = x2 at *
  generalize zs[3]?.getD 0 = x3 at *
  generalize zs.length = n at *
  have i4 : 4 ≤ (n : Int) := by omega
  have i4' : ¬ (n : Int) < 4 := by omega
  have i0 : 0 < n := by omega
  have i1 : (1 : Int) < n := by omega
  have i2 : (2 : Int) < n := by omega
  have i3 : (3 : Int) < n := by omega
  cases ap : (x0 == 32)
  · cases aq : (x0 == 48)
    · skip
      have HV : Hid (bgk (bgo x0 x1 x2 x3) = false) := by show _ = _; simp [bgo, bgk, pick4, *]
      go_enter Tryd.func56, Tryd.ntmps56
      go_wp2
      go_ret
      exact ⟨by rw [HV.out]; rfl, Below.refl _ _⟩
    · skip
      cases bp : (x1 == 1)
      · cases bq : (x1 == 129)
        · skip
          have HV : Hid (bgk (bgo x0 x1 x2 x3) = false) := by show _ = _; simp [bgo, bgk, pick4, *]
          go_enter Tryd.func56, Tryd.ntmps56
          go_wp2
          go_ret
          exact ⟨by rw [HV.out]; rfl, Below.refl _ _⟩
        · skip
          cases cp : (x2 == 136)
          · skip
            have HV : Hid (bgk (bgo x0 x1 x2 x3) = false) := by show _ = _; simp [bgo, bgk, pick4, *]
            go_enter Tryd.func56, Tryd.ntmps56
            go_wp2
            go_ret
            exact ⟨by rw [HV.out]; rfl, Below.refl _ _⟩
          · cases dp : (x3 == 11)
            · skip
              have HV : Hid (bgk (bgo x0 x1 x2 x3) = false) := by show _ = _; simp [bgo, bgk, pick4, *]
              go_enter Tryd.func56, Tryd.ntmps56
              go_wp2
              go_ret
              exact ⟨by rw [HV.out]; rfl, Below.refl _ _⟩
            · skip
              have HV : Hid (bgk (bgo x0 x1 x2 x3) = true) := by show _ = _; simp [bgo, bgk, pick4, *]
              go_enter Tryd.func56, Tryd.ntmps56
              go_wp2
              go_ret
              exact ⟨by rw [HV.out]; rfl, Below.refl _ _⟩
      · have bq : (x1 == 129) = false := by have := beq_iff_eq.1 bp; subst this; rfl
        cases cp : (x2 == 136)
        · skip
          have HV : Hid (bgk (bgo x0 x1 x2 x3) = false) := by show _ = _; simp [bgo, bgk, pick4, *]
          go_enter Tryd.func56, Tryd.ntmps56
          go_wp2
          go_ret
          exact ⟨by rw [HV.out]; rfl, Below.refl _ _⟩
        · cases dp : (x3 == 11)
          · skip
            have HV : Hid (bgk (bgo x0 x1 x2 x3) = false) := by show _ = _; simp [bgo, bgk, pick4, *]
            go_enter Tryd.func56, Tryd.ntmps56
            go_wp2
            go_ret
            exact ⟨by rw [HV.out]; rfl, Below.refl _ _⟩
          · skip
            have HV : Hid (bgk (bgo x0 x1 x2 x3) = true) := by show _ = _; simp [bgo, bgk, pick4, *]
            go_enter Tryd.func56, Tryd.ntmps56
            go_wp2
            go_ret
            exact ⟨by rw [HV.out]; rfl, Below.refl _ _⟩
  · have aq : (x0 == 48) = false := by have := beq_iff_eq.1 ap; subst this; rfl
    cases bp : (x1 == 1)
    · cases bq : (x1 == 129)
      · skip
        have HV : Hid (bgk (bgo x0 x1 x2 x3) = false) := by show _ = _; simp [bgo, bgk, pick4, *]
        go_enter Tryd.func56, Tryd.ntmps56
        go_wp2
        go_ret
        exact ⟨by rw [HV.out]; rfl, Below.refl _ _⟩
      · skip
        cases cp : (x2 == 136)
        · skip
          have HV : Hid (bgk (bgo x0 x1 x2 x3) = false) := by show _ = _; simp [bgo, bgk, pick4, *]
          go_enter Tryd.func56, Tryd.ntmps56
          go_wp2
          go_ret
          exact ⟨by rw [HV.out]; rfl, Below.refl _ _⟩
        · cases dp : (x3 == 11)
          · skip
            have HV : Hid (bgk (bgo x0 x1 x2 x3) = false) := by show _ = _; simp [bgo, bgk, pick4, *]
            go_enter Tryd.func56, Tryd.ntmps56
            go_wp2
            go_ret
            exact ⟨by rw [HV.out]; rfl, Below.refl _ _⟩
          · skip
            have HV : Hid (bgk (bgo x0 x1 x2 x3) = true) := by show _ = _; simp [bgo, bgk, pick4, *]
            go_enter Tryd.func56, Tryd.ntmps56
            go_wp2
            go_ret
            exact ⟨by rw [HV.out]; rfl, Below.refl _ _⟩
    · have bq : (x1 == 129) = false := by have := beq_iff_eq.1 bp; subst this; rfl
      cases cp : (x2 == 136)
      · skip
        have HV : Hid (bgk (bgo x0 x1 x2 x3) = false) := by show _ = _; simp [bgo, bgk, pick4, *]
        go_enter Tryd.func56, Tryd.ntmps56
        go_wp2
        go_ret
        exact ⟨by rw [HV.out]; rfl, Below.refl _ _⟩
      · cases dp : (x3 == 11)
        · skip
          have HV : Hid (bgk (bgo x0 x1 x2 x3) = false) := by show _ = _; simp [bgo, bgk, pick4, *]
          go_enter Tryd.func56, Tryd.ntmps56
          go_wp2
          go_ret
          exact ⟨by rw [HV.out]; rfl, Below.refl _ _⟩
        · skip
          have HV : Hid (bgk (bgo x0 x1 x2 x3) = true) := by show _ = _; simp [bgo, bgk, pick4, *]
          go_enter Tryd.func56, Tryd.ntmps56
          go_wp2
          go_ret
          exact ⟨by rw [HV.out]; rfl, Below.refl _ _⟩
end Go.Proofs.YtojoaidnkljcpaaDoor

/- The document's ParseGre. -/
namespace Go.Proofs.YtojoaidnkljcpaaDoor
open Go.RowKit Go.Shelf
set_option maxRecDepth 100000
set_option linter.unusedVariables false
set_option linter.unusedSimpArgs false

theorem bgo_parts (a b c d : Int) (h : bgo a b c d ≠ 4) : (a == 48) = ghs (bgo a b c d) ∧ (b == 129) = gha (bgo a b c d) := by
  unfold bgo at *
  cases a1 : (a == 32) <;> cases a2 : (a == 48) <;> cases b1 : (b == 1) <;> cases b2 : (b == 129) <;> cases c1 : (c == 136) <;> cases d1 : (d == 11) <;> simp [a1, a2, b1, b2, c1, d1, pick4, ghs, gha] at h ⊢
  all_goals first
    | (have e1 := beq_iff_eq.1 a1; have e2 := beq_iff_eq.1 a2; omega)
    | (have e1 := beq_iff_eq.1 b1; have e2 := beq_iff_eq.1 b2; omega)

set_option maxHeartbeats 8000000 in
theorem rparseGre_any (tos id ttl proto src dst : Int) (keep : Bool) (so sd : Value) (zs : List Int) (w : World) (hB : Mt.By zs) (hI : Rd w.heap.size w sd zs) (hl : zs.length ≤ 140737488355328) :
    Calls Tryd.prog 31 #[.agg #[.int .u8 tos, .int .u16 id, .bool keep, .int .u8 ttl, .int .u8 proto, .int .u32 src, .int .u32 dst, so, sd]] w fun e w' => Below w.heap.size w w' ∧ ((pge proto zs ≠ 0 ∧ e = .returned (.tuple #[.agg zf.toArray, .int .i64 (pge proto zs)])) ∨
      (pge proto zs = 0 ∧ ∃ ad cd, e = .returned (.tuple #[.agg #[.int .u16 (getAt2 zs 6), .bool (ghs (bgz zs)), .bool (gha (bgz zs)), .int .u32 (gsq (bgz zs) zs), .int .u32 (gak (bgz zs) zs), .slice ad (zs.length - ghd (bgz zs)) cd], .int .i64 0]) ∧ Ow w.heap.size w' (.slice ad (zs.length - ghd (bgz zs)) cd) (zs.drop (ghd (bgz zs))))) := by
  obtain ⟨ad, cd, rfl, hl1, hm1⟩ := hI.slice
  have hb0 : Below w.heap.size w ((w.alloc (.cells #[.int .u8 tos, .int .u16 id, .bool keep, .int .u8 ttl, .int .u8 proto, .int .u32 src, .int .u32 dst, so, .slice ad zs.length cd] 26)).alloc (.cells zf.toArray 52)) := ((Below.refl _ _).alloc (Nat.le_refl _) _).alloc (by simp) _
  have r0 : ((w.alloc (.cells #[.int .u8 tos, .int .u16 id, .bool keep, .int .u8 ttl, .int .u8 proto, .int .u32 src, .int .u32 dst, so, .slice ad zs.length cd] 26)).alloc (.cells zf.toArray 52)).heap[w.heap.size + 1]? = some (.cells zf.toArray 52 (0, 0)) := by have := heap_alloc_new (w.alloc (.cells #[.int .u8 tos, .int .u16 id, .bool keep, .int .u8 ttl, .int .u8 proto, .int .u32 src, .int .u32 dst, so, .slice ad zs.length cd] 26)) (.cells zf.toArray 52); simpa using this
  have hs0 : ((w.alloc (.cells #[.int .u8 tos, .int .u16 id, .bool keep, .int .u8 ttl, .int .u8 proto, .int .u32 src, .int .u32 dst, so, .slice ad zs.length cd] 26)).alloc (.cells zf.toArray 52)).heap.size = w.heap.size + 1 + 1 := by simp
  have R0 := hide r0
  have HS := hide hs0
  clear r0 hs0
  by_cases c1 : proto = 47
  · have t1 : (proto != 47) = false := by simp [c1]
    have C1 := hide c1
    clear c1
    by_cases c2 : zs.length < 8
    · have t2 : (zs.length : Int) < 8 := by omega
      have HF : Hid (pge proto zs = 3) := by show _ = _; unfold pge; rw [if_neg (by simp [C1.out]), if_pos c2]
      go_enter Tryd.func31, Tryd.ntmps31
      go_wp2_with fail
      exact bodyPost_ret (v := .tuple #[.agg zf.toArray, .int .i64 3]) (by simp [results, Tryd.results31, go_sem]) rfl ⟨hb0, .inl ⟨by rw [HF.out]; decide, by rw [HF.out]⟩⟩
    · have t2 : ¬ (zs.length : Int) < 8 := by omega
      go_enter Tryd.func31, Tryd.ntmps31
      go_wp2_with fail
      generalize (w.alloc (.cells #[.int .u8 tos, .int .u16 id, .bool keep, .int .u8 ttl, .int .u8 proto, .int .u32 src, .int .u32 dst, so, .slice ad zs.length cd] 26)).alloc (.cells zf.toArray 52) = W0 at *
      refine (rbegin_any _ zs (by omega) W0 ((hI.below hb0).mono hb0.size)).mono ?_
      rintro e w1 ⟨rfl, hb1⟩
      have r1 := (hb1.block (w.heap.size + 1) (by have := HS.out; omega)).trans R0.out
      have hw1 : Below w.heap.size w w1 := hb0.trans (hb1.mono hb0.size)
      have hs1 : w.heap.size + 1 + 1 ≤ w1.heap.size := by have := hb1.size; have := HS.out; omega
      by_cases c3 : bgz zs = 4
      · have HF : Hid (pge proto zs = 4) := by show _ = _; unfold pge; rw [if_neg (by simp [C1.out]), if_neg c2, if_pos c3]
        rw [show bgk (bgz zs) = false from by rw [c3]; rfl]
        clear c3
        have RR := block_cell r1
        have FF := block_frozen r1
        go_wp2_with fail
        generalize hV : (((((w1.setCell ⟨w.heap.size + 1, 0, none⟩ _).setCell ⟨w.heap.size + 1, 1, none⟩ _).setCell ⟨w.heap.size + 1, 2, none⟩ _).setCell ⟨w.heap.size + 1, 3, none⟩ _).setCell ⟨w.heap.size + 1, 4, none⟩ _).setCell ⟨w.heap.size + 1, 5, none⟩ _ = V8
        have hV9 : V8 = putRow w1 (w.heap.size + 1) 0 [Value.int .u16 0, .bool false, .bool false, .int .u32 0, .int .u32 0, .slice none 0 0] := hV.symm
        have hb8 : But (fun b => b = w.heap.size + 1) w1 V8 := by rw [hV9]; exact putRow_but (E := fun b => b = w.heap.size + 1) (n := w.heap.size + 1) rfl _ _ _ _ (But.refl _ _)
        have p8 := putRow_all [Value.int .u16 0, .bool false, .bool false, .int .u32 0, .int .u32 0, .slice none 0 0] r1 rfl
        rw [← hV9] at p8
        clear hV hV9
        have P8 := block_cell p8
        have hw8 : Below w.heap.size w V8 := (hw1).trans (hb8.below (hw1).size (fun k h e => by omega))
        exact bodyPost_ret (v := .tuple #[.agg zf.toArray, .int .i64 4]) (by simp [results, Tryd.results31, go_sem, P8]) rfl (⟨hw8, .inl ⟨by rw [HF.out]; decide, by rw [HF.out]⟩⟩)
      · rw [show bgk (bgz zs) = true from by simp [bgk, c3]]
        obtain ⟨ths, tha⟩ := bgo_parts (zs[0]?.getD 0) (zs[1]?.getD 0) (zs[2]?.getD 0) (zs[3]?.getD 0) c3
        change _ = ghs (bgz zs) at ths
        change _ = gha (bgz zs) at tha
        have hn3 : bgz zs ≤ 3 := by have := bgo_le (zs[0]?.getD 0) (zs[1]?.getD 0) (zs[2]?.getD 0) (zs[3]?.getD 0); have : bgz zs ≤ 4 := this; omega
        obtain ⟨b, off, cap, e0, hlc, hmc, hbb, hcs⟩ := hI.cells (by omega)
        have hcl := e0
        simp at hcl
        obtain ⟨rfl, rfl⟩ := hcl
        clear e0
        have d0 := hcs 0 (by omega)
        have d1 := hcs 1 (by omega)
        have hwd : Below w.heap.size w w1.drew := hw1.trans ((Later.drew w1).mono hw1.size)
        obtain ⟨N, HN⟩ : ∃ N, Hid (bgz zs = N) := ⟨_, rfl⟩
        rw [HN.out] at ths tha hn3
        obtain ⟨hs, HHs⟩ : ∃ hs, Hid (ghs N = hs) := ⟨_, rfl⟩
        obtain ⟨ha, HHa⟩ : ∃ ha, Hid (gha N = ha) := ⟨_, rfl⟩
        rw [HHs.out] at ths
        rw [HHa.out] at tha
        generalize zs[0]?.getD 0 = x0 at *
        generalize zs[1]?.getD 0 = x1 at *
        clear c3
        go_upto_region 8 with fail
        go_cut [5] (fun p wx => ∃ mb, p = .pointer (some ⟨mb, 0, none⟩) ∧ w1.heap.size ≤ mb ∧ Later w1 wx ∧ wx.heap[mb]? = some (.cells #[.int .u16 (getAt2 zs 6), .bool hs, .bool ha, .int .u32 0, .int .u32 0, .slice none 0 0] 52 (0, 0)))
        case first =>
          refine anyT_begin (R := But (fun b => w1.heap.size ≤ b)) 13 rfl (by kernel_rfl) ?_
          have hd : Later w1 w1.drew := Later.drew w1
          generalize w1.drew = Wd at *
          have hbel : ∀ v1, But (fun b => w1.heap.size ≤ b) Wd v1 → Below w.heap.size w v1 := fun v1 h => hwd.trans (h.below hwd.size (fun k hk e => by omega))
          have q0 : ∀ v1, But (fun b => w1.heap.size ≤ b) Wd v1 → v1.cell? ⟨b, off, none⟩ = some (.int .u8 x0) := fun v1 h => ((hbel v1 h).cell (p := ⟨b, off, none⟩) hbb).trans d0
          have q1 : ∀ v1, But (fun b => w1.heap.size ≤ b) Wd v1 → v1.cell? ⟨b, off + 1, none⟩ = some (.int .u8 x1) := fun v1 h => ((hbel v1 h).cell (p := ⟨b, off + 1, none⟩) hbb).trans d1
          have hr : ∀ v1, But (fun b => w1.heap.size ≤ b) Wd v1 → Rd w.heap.size v1 (.slice (some ⟨b, off, none⟩) zs.length cd) zs := fun v1 h => hI.below (hbel v1 h)
          have i0 : 0 < zs.length := by omega
          have i1 : (1 : Int) < zs.length := by omega
          clear d0 d1
          refine anyT_val (But.pre _) 0 rfl (by kernel_rfl) (by kernel_rfl) (by kernel_rfl) (fun _ _ _ _ h => h) rfl ?_; apply Exists.intro; refine ⟨fun v1 hv1 => ?_, ?_⟩; (· (go_simp; rfl)); simp only [Act.put, List.setIfInBounds_toArray, List.set_cons_zero, List.set_cons_succ]
          refine anyT_val (But.pre _) 2 rfl (by kernel_rfl) (by kernel_rfl) (by kernel_rfl) (fun _ _ _ _ h => h) rfl ?_; apply Exists.intro; refine ⟨fun v1 hv1 => ?_, ?_⟩; (· (go_simp; rfl)); simp only [Act.put, List.setIfInBounds_toArray, List.set_cons_zero, List.set_cons_succ]
          refine anyT_val (But.pre _) 3 rfl (by kernel_rfl) (by kernel_rfl) (by kernel_rfl) (fun _ _ _ _ h => h) rfl ?_; apply Exists.intro; refine ⟨fun v1 hv1 => ?_, ?_⟩; (· (go_simp; rfl)); simp only [Act.put, List.setIfInBounds_toArray, List.set_cons_zero, List.set_cons_succ]
          refine anyT_val (But.pre _) 4 rfl (by kernel_rfl) (by kernel_rfl) (by kernel_rfl) (fun _ _ _ _ h => h) rfl ?_; apply Exists.intro; refine ⟨fun v1 hv1 => ?_, ?_⟩; (· (go_simp; rfl)); simp only [Act.put, List.setIfInBounds_toArray, List.set_cons_zero, List.set_cons_succ]
          refine anyT_val (But.pre _) 5 rfl (by kernel_rfl) (by kernel_rfl) (by kernel_rfl) (fun _ _ _ _ h => h) rfl ?_; apply Exists.intro; refine ⟨fun v1 hv1 => ?_, ?_⟩; (· (go_simp; rfl)); simp only [Act.put, List.setIfInBounds_toArray, List.set_cons_zero, List.set_cons_succ]
          refine anyT_val (But.pre _) 6 rfl (by kernel_rfl) (by kernel_rfl) (by kernel_rfl) (fun _ _ _ _ h => h) rfl ?_; apply Exists.intro; refine ⟨fun v1 hv1 => ?_, ?_⟩; (· (go_simp; rfl)); simp only [Act.put, List.setIfInBounds_toArray, List.set_cons_zero, List.set_cons_succ]
          refine anyT_val (But.pre _) 7 rfl (by kernel_rfl) (by kernel_rfl) (by kernel_rfl) (fun _ _ _ _ h => h) rfl ?_; apply Exists.intro; refine ⟨fun v1 hv1 => ?_, ?_⟩; (· (go_simp; rfl)); simp only [Act.put, List.setIfInBounds_toArray, List.set_cons_zero, List.set_cons_succ]
          refine anyT_val (But.pre _) 8 rfl (by kernel_rfl) (by kernel_rfl) (by kernel_rfl) (fun _ _ _ _ h => h) rfl ?_; apply Exists.intro; refine ⟨fun v1 hv1 => ?_, ?_⟩; (· (go_simp; rfl)); simp only [Act.put, List.setIfInBounds_toArray, List.set_cons_zero, List.set_cons_succ]
          refine anyT_val (But.pre _) 9 rfl (by kernel_rfl) (by kernel_rfl) (by kernel_rfl) (fun _ _ _ _ h => h) rfl ?_; apply Exists.intro; refine ⟨fun v1 hv1 => ?_, ?_⟩; (· (go_simp; rfl)); simp only [Act.put, List.setIfInBounds_toArray, List.set_cons_zero, List.set_cons_succ]
          refine anyT_two 1 11 rfl rfl (by kernel_rfl) rfl rfl ?_ ?_
          · refine wp_enter 53 #[.slice (some ⟨b, off, none⟩) zs.length cd, .int .i64 6] (by go_simp) ?_
            refine (rget16_at _ zs hB 6 (by omega) (by omega) Wd (hr _ (But.refl _ _))).mono ?_
            rintro e W2 ⟨rfl, q, hq⟩
            have lW2 : Later Wd W2 := by rw [hq]; exact below_draw (Later.refl _) q
            clear hq
            refine ⟨But.of lW2, ?_⟩
            simp only [Act.put, List.setIfInBounds_toArray, List.set_cons_zero, List.set_cons_succ]
            refine anyT_val (But.pre _) 10 rfl (by kernel_rfl) (by kernel_rfl) (by kernel_rfl) (fun _ _ _ _ h => h) rfl ?_; apply Exists.intro; refine ⟨fun v1 hv1 => ?_, ?_⟩; (· (go_simp; rfl)); simp only [Act.put, List.setIfInBounds_toArray, List.set_cons_zero, List.set_cons_succ]
            refine anyT_one 11 rfl (by kernel_rfl) rfl ?_
            unfold Oper.wp
            go_simp
            have zW3 : (W2.alloc (.cells #[.int .u16 0, .bool false, .bool false, .int .u32 0, .int .u32 0, .slice none 0 0] 52)).heap[W2.heap.size]? = some (.cells #[.int .u16 0, .bool false, .bool false, .int .u32 0, .int .u32 0, .slice none 0 0] 52) := heap_alloc_new W2 _
            have lW3 : Later W2 (W2.alloc (.cells #[.int .u16 0, .bool false, .bool false, .int .u32 0, .int .u32 0, .slice none 0 0] 52)) := (Below.refl _ _).alloc (Nat.le_refl _) _
            refine ⟨But.of lW3, ?_⟩
            generalize W2.alloc (.cells #[.int .u16 0, .bool false, .bool false, .int .u32 0, .int .u32 0, .slice none 0 0] 52) = W3 at *
            have zc := zW3
            have hml : w1.heap.size ≤ W2.heap.size := Nat.le_trans hd.size lW2.size
            have lall := Later.trans hd (Later.trans lW2 lW3)
            refine anyT_one 12 rfl (by kernel_rfl) rfl ?_
            have k4 := block_cell zc
            have f4 : ∀ j, W3.frozen? ⟨W2.heap.size, j, none⟩ = false := block_frozen zc
            unfold Oper.wp
            go_simp
            generalize hV7 : (((((W3.setCell ⟨W2.heap.size, 0, none⟩ _).setCell ⟨W2.heap.size, 1, none⟩ _).setCell ⟨W2.heap.size, 2, none⟩ _).setCell ⟨W2.heap.size, 3, none⟩ _).setCell ⟨W2.heap.size, 4, none⟩ _).setCell ⟨W2.heap.size, 5, none⟩ _ = V7
            have hV8 : V7 = putRow W3 W2.heap.size 0 [.int .u16 (getAt2 zs 6), .bool hs, .bool ha, .int .u32 0, .int .u32 0, .slice none 0 0] := hV7.symm
            have hb7 : But (fun b => b = W2.heap.size) W3 V7 := by rw [hV8]; exact putRow_rb _ _
            have p7 := putRow_all [Value.int .u16 (getAt2 zs 6), .bool hs, .bool ha, .int .u32 0, .int .u32 0, .slice none 0 0] zc rfl
            rw [← hV8] at p7
            clear hV7 hV8 k4 f4
            refine ⟨⟨hb7.os, hb7.tape, hb7.output, hb7.size, fun i hi he => hb7.block i hi (fun e => he (by omega))⟩, ?_⟩
            refine anyT_done (by kernel_rfl) ?_
            have lz : Later w1 V7 := Below.trans (B := w1.heap.size) lall (hb7.below lall.size (fun k hk e => by omega))
            go_wp2_with fail
            go_meet
            case rel => exact ⟨W2.heap.size, rfl, hml, lz, p7⟩
          · unfold Oper.wp
            go_simp
            have zW2 : (Wd.alloc (.cells #[.int .u16 0, .bool false, .bool false, .int .u32 0, .int .u32 0, .slice none 0 0] 52)).heap[Wd.heap.size]? = some (.cells #[.int .u16 0, .bool false, .bool false, .int .u32 0, .int .u32 0, .slice none 0 0] 52) := heap_alloc_new Wd _
            have lW2 : Later Wd (Wd.alloc (.cells #[.int .u16 0, .bool false, .bool false, .int .u32 0, .int .u32 0, .slice none 0 0] 52)) := (Below.refl _ _).alloc (Nat.le_refl _) _
            refine ⟨But.of lW2, ?_⟩
            generalize Wd.alloc (.cells #[.int .u16 0, .bool false, .bool false, .int .u32 0, .int .u32 0, .slice none 0 0] 52) = W2 at *
            refine anyT_one 1 rfl (by kernel_rfl) rfl ?_
            refine wp_enter 53 #[.slice (some ⟨b, off, none⟩) zs.length cd, .int .i64 6] (by go_simp) ?_
            refine (rget16_at _ zs hB 6 (by omega) (by omega) W2 (hr _ (But.of lW2))).mono ?_
            rintro e W3 ⟨rfl, q, hq⟩
            have lW3 : Later W2 W3 := by rw [hq]; exact below_draw (Later.refl _) q
            clear hq
            refine ⟨But.of lW3, ?_⟩
            simp only [Act.put, List.setIfInBounds_toArray, List.set_cons_zero, List.set_cons_succ]
            refine anyT_val (But.pre _) 10 rfl (by kernel_rfl) (by kernel_rfl) (by kernel_rfl) (fun _ _ _ _ h => h) rfl ?_; apply Exists.intro; refine ⟨fun v1 hv1 => ?_, ?_⟩; (· (go_simp; rfl)); simp only [Act.put, List.setIfInBounds_toArray, List.set_cons_zero, List.set_cons_succ]
            have zc := (lW3.block Wd.heap.size (Array.getElem?_eq_some_iff.1 zW2).1).trans zW2
            have hml : w1.heap.size ≤ Wd.heap.size := hd.size
            have lall := Later.trans hd (Later.trans lW2 lW3)
            refine anyT_one 12 rfl (by kernel_rfl) rfl ?_
            have k4 := block_cell zc
            have f4 : ∀ j, W3.frozen? ⟨Wd.heap.size, j, none⟩ = false := block_frozen zc
            unfold Oper.wp
            go_simp
            generalize hV7 : (((((W3.setCell ⟨Wd.heap.size, 0, none⟩ _).setCell ⟨Wd.heap.size, 1, none⟩ _).setCell ⟨Wd.heap.size, 2, none⟩ _).setCell ⟨Wd.heap.size, 3, none⟩ _).setCell ⟨Wd.heap.size, 4, none⟩ _).setCell ⟨Wd.heap.size, 5, none⟩ _ = V7
            have hV8 : V7 = putRow W3 Wd.heap.size 0 [.int .u16 (getAt2 zs 6), .bool hs, .bool ha, .int .u32 0, .int .u32 0, .slice none 0 0] := hV7.symm
            have hb7 : But (fun b => b = Wd.heap.size) W3 V7 := by rw [hV8]; exact putRow_rb _ _
            have p7 := putRow_all [Value.int .u16 (getAt2 zs 6), .bool hs, .bool ha, .int .u32 0, .int .u32 0, .slice none 0 0] zc rfl
            rw [← hV8] at p7
            clear hV7 hV8 k4 f4
            refine ⟨⟨hb7.os, hb7.tape, hb7.output, hb7.size, fun i hi he => hb7.block i hi (fun e => he (by omega))⟩, ?_⟩
            refine anyT_done (by kernel_rfl) ?_
            have lz : Later w1 V7 := Below.trans (B := w1.heap.size) lall (hb7.below lall.size (fun k hk e => by omega))
            go_wp2_with fail
            go_meet
            case rel => exact ⟨Wd.heap.size, rfl, hml, lz, p7⟩
        case rest =>
          obtain ⟨mb, rfl, hml, lc, mc⟩ := hcut
          have r2 := (lc.block (w.heap.size + 1) (by omega)).trans r1
          have hw2 := hw1.trans (lc.mono hw1.size)
          clear d0 d1 hwd ths tha
          have HG4 : Hid (getAt2 zs 4 = wat zs 4) := by show _ = _; unfold getAt2; rw [if_pos (by omega)]; rfl
          have hLb := wat_bd hB 4
          obtain ⟨g6, HG6⟩ : ∃ g6, Hid (getAt2 zs 6 = g6) := ⟨_, rfl⟩
          rw [HG6.out] at mc
          obtain ⟨L, HL⟩ : ∃ L, Hid (wat zs 4 = L) := ⟨_, rfl⟩
          rw [HL.out] at hLb
          have HG4 : Hid (getAt2 zs 4 = L) := HG4.out.trans HL.out
          have hN4 : N = 0 ∨ N = 1 ∨ N = 2 ∨ N = 3 := by omega
          clear hn3
          rcases hN4 with rfl | rfl | rfl | rfl
          · skip
            have e1 : hs = false := HHs.out.symm
            have e2 : ha = false := HHa.out.symm
            subst e1 e2
            have MC := block_cell mc
            go_wp2_with fail
            refine (rget16_at _ zs hB 4 (by omega) hl wc (hI.below hw2)).mono ?_
            rw [HG4.out]
            rintro e w3 ⟨rfl, q, hq⟩
            have l3 : Later wc w3 := by rw [hq]; exact below_draw (Later.refl _) q
            clear hq MC
            have m3 := (l3.block mb (Array.getElem?_eq_some_iff.1 mc).1).trans mc
            have r3 := (l3.block (w.heap.size + 1) (Array.getElem?_eq_some_iff.1 r2).1).trans r2
            have hw3 := hw2.trans (l3.mono hw2.size)
            have M3 := block_cell m3
            have hgd : Hid (ghd 0 = 8) := rfl
            by_cases c4 : (zs.length : Int) < 8 + L
            · have HF : Hid (pge proto zs = 3) := by show _ = _; unfold pge; rw [if_neg (by simp [C1.out]), if_neg c2, HN.out, if_neg (by decide), HL.out, hgd.out, if_pos (by omega)]
              have RR := block_cell r3
              have FF := block_frozen r3
              go_wp2_with fail
              generalize hV : (((((w3.setCell ⟨w.heap.size + 1, 0, none⟩ _).setCell ⟨w.heap.size + 1, 1, none⟩ _).setCell ⟨w.heap.size + 1, 2, none⟩ _).setCell ⟨w.heap.size + 1, 3, none⟩ _).setCell ⟨w.heap.size + 1, 4, none⟩ _).setCell ⟨w.heap.size + 1, 5, none⟩ _ = V8
              have hV9 : V8 = putRow w3 (w.heap.size + 1) 0 [Value.int .u16 0, .bool false, .bool false, .int .u32 0, .int .u32 0, .slice none 0 0] := hV.symm
              have hb8 : But (fun b => b = w.heap.size + 1) w3 V8 := by rw [hV9]; exact putRow_but (E := fun b => b = w.heap.size + 1) (n := w.heap.size + 1) rfl _ _ _ _ (But.refl _ _)
              have p8 := putRow_all [Value.int .u16 0, .bool false, .bool false, .int .u32 0, .int .u32 0, .slice none 0 0] r3 rfl
              rw [← hV9] at p8
              clear hV hV9
              have P8 := block_cell p8
              have hw8 : Below w.heap.size w V8 := (hw3).trans (hb8.below (hw3).size (fun k h e => by omega))
              exact bodyPost_ret (v := .tuple #[.agg zf.toArray, .int .i64 3]) (by simp [results, Tryd.results31, go_sem, P8]) rfl (⟨hw8, .inl ⟨by rw [HF.out]; decide, by rw [HF.out]⟩⟩)
            · by_cases c5 : 8 + L < (zs.length : Int)
              · have HF : Hid (pge proto zs = 4) := by show _ = _; unfold pge; rw [if_neg (by simp [C1.out]), if_neg c2, HN.out, if_neg (by decide), HL.out, hgd.out, if_neg (by omega), if_pos (by omega)]
                have RR := block_cell r3
                have FF := block_frozen r3
                go_wp2_with fail
                generalize hV : (((((w3.setCell ⟨w.heap.size + 1, 0, none⟩ _).setCell ⟨w.heap.size + 1, 1, none⟩ _).setCell ⟨w.heap.size + 1, 2, none⟩ _).setCell ⟨w.heap.size + 1, 3, none⟩ _).setCell ⟨w.heap.size + 1, 4, none⟩ _).setCell ⟨w.heap.size + 1, 5, none⟩ _ = V8
                have hV9 : V8 = putRow w3 (w.heap.size + 1) 0 [Value.int .u16 0, .bool false, .bool false, .int .u32 0, .int .u32 0, .slice none 0 0] := hV.symm
                have hb8 : But (fun b => b = w.heap.size + 1) w3 V8 := by rw [hV9]; exact putRow_but (E := fun b => b = w.heap.size + 1) (n := w.heap.size + 1) rfl _ _ _ _ (But.refl _ _)
                have p8 := putRow_all [Value.int .u16 0, .bool false, .bool false, .int .u32 0, .int .u32 0, .slice none 0 0] r3 rfl
                rw [← hV9] at p8
                clear hV hV9
                have P8 := block_cell p8
                have hw8 : Below w.heap.size w V8 := (hw3).trans (hb8.below (hw3).size (fun k h e => by omega))
                exact bodyPost_ret (v := .tuple #[.agg zf.toArray, .int .i64 4]) (by simp [results, Tryd.results31, go_sem, P8]) rfl (⟨hw8, .inl ⟨by rw [HF.out]; decide, by rw [HF.out]⟩⟩)
              · have HF : Hid (pge proto zs = 0) := by show _ = _; unfold pge; rw [if_neg (by simp [C1.out]), if_neg c2, HN.out, if_neg (by decide), HL.out, hgd.out, if_neg (by omega), if_neg (by omega)]
                have hH : 8 ≤ zs.length := by omega
                go_upto_region 25 with fail
                go_cut [5] (fun p wx => p = .pointer (some ⟨mb, 0, none⟩) ∧ But (fun b => b = mb) w3 wx ∧ ∃ a3 c3, wx.heap[mb]? = some (.cells #[.int .u16 g6, .bool false, .bool false, .int .u32 0, .int .u32 0, .slice a3 (zs.length - 8) c3] 52 (0, 0)) ∧ Ow (w.heap.size + 1 + 1) wx (.slice a3 (zs.length - 8) c3) (zs.drop 8))
                case first =>
                  refine anyT_begin (R := But (fun b => b = mb)) 8 rfl (by kernel_rfl) ?_
                  have hd : Later w3 w3.drew := Later.drew w3
                  have md := (hd.block mb (Array.getElem?_eq_some_iff.1 m3).1).trans m3
                  have hwd : Below w.heap.size w w3.drew := hw3.trans (hd.mono hw3.size)
                  generalize w3.drew = Wd at *
                  have hs8 : Rd w.heap.size Wd (.slice (if cd = 8 then some (⟨b, off, none⟩ : Addr) else some ⟨b, off + 8, none⟩) (zs.length - 8) (cd - 8)) (zs.drop 8) := (hI.below hwd).cutAt 8 (by omega)
                  generalize hE8 : (if cd = 8 then some (⟨b, off, none⟩ : Addr) else some ⟨b, off + 8, none⟩) = ad8 at *
                  have i8 : (8 : Int) ≤ zs.length := by omega
                  have i8c : (zs.length : Int) ≤ cd := by omega
                  have i8n : ¬ zs.length < 8 := by omega
                  refine anyT_val (But.pre _) 0 rfl (by kernel_rfl) (by kernel_rfl) (by kernel_rfl) (fun _ _ _ _ h => h) rfl ?_; apply Exists.intro; refine ⟨fun v1 hv1 => ?_, ?_⟩; (· (go_simp; rfl)); simp only [Act.put, List.setIfInBounds_toArray, List.set_cons_zero, List.set_cons_succ]
                  refine anyT_val (But.pre _) 2 rfl (by kernel_rfl) (by kernel_rfl) (by kernel_rfl) (fun _ _ _ _ h => h) rfl ?_; apply Exists.intro; refine ⟨fun v1 hv1 => ?_, ?_⟩; (· (go_simp; rfl)); simp only [Act.put, List.setIfInBounds_toArray, List.set_cons_zero, List.set_cons_succ]
                  refine anyT_val (But.pre _) 3 rfl (by kernel_rfl) (by kernel_rfl) (by kernel_rfl) (fun _ _ _ _ h => h) rfl ?_; apply Exists.intro; refine ⟨fun v1 hv1 => ?_, ?_⟩; (· (go_simp; rfl)); simp only [Act.put, List.setIfInBounds_toArray, List.set_cons_zero, List.set_cons_succ]
                  refine anyT_val (But.pre _) 4 rfl (by kernel_rfl) (by kernel_rfl) (by kernel_rfl) (fun _ _ _ _ h => h) rfl ⟨.slice ad8 (zs.length - 8) (cd - 8), fun v1 hv1 => by go_simp, ?_⟩
                  simp only [Act.put, List.setIfInBounds_toArray, List.set_cons_zero, List.set_cons_succ]
                  refine anyT_one 1 rfl (by kernel_rfl) rfl ?_
                  have kd := block_cell md
                  unfold Oper.wp
                  go_simp
                  refine ⟨But.refl _ _, ?_⟩
                  refine anyT_one 5 rfl (by kernel_rfl) rfl ?_
                  obtain ⟨i0, hi, hz0, hz1, hz2⟩ := info_parts info_u8
                  have hsd : w.heap.size + 1 + 1 ≤ Wd.heap.size := by have := (Array.getElem?_eq_some_iff.1 md).1; omega
                  obtain ⟨v3, W3, hrun3, hown3, hgr3⟩ := run_app (P := Tryd.prog) Wd 24 24 5 (w.heap.size + 1 + 1) i0 Tryd.underlying24 hi hz0 hz1 hz2 (.slice none 0 0) [] (World.ownsRow_nil _ _ _ _) w.heap.size _ (zs.drop 8) hs8 (by simp; omega) hsd
                  have hl3 : Later Wd W3 := (Below.refl _ Wd).grown hgr3 (Nat.le_refl _) (fun _ e => by cases e)
                  have hO3 := Ow.of_row hown3
                  rw [List.nil_append] at hO3
                  clear hown3
                  obtain ⟨a3, c3, rfl, hq3, hm3⟩ := hO3.slice
                  rw [List.length_drop] at hO3 hrun3
                  refine wp_app (.tmp 75) (.tmp 78) 24 rfl _ _ rfl rfl _ W3 hrun3 ⟨But.of hl3, ?_⟩
                  simp only [Act.put, List.setIfInBounds_toArray, List.set_cons_zero, List.set_cons_succ]
                  refine anyT_val (But.pre _) 6 rfl (by kernel_rfl) (by kernel_rfl) (by kernel_rfl) (fun _ _ _ _ h => h) rfl ?_; apply Exists.intro; refine ⟨fun v1 hv1 => ?_, ?_⟩; (· (go_simp; rfl)); simp only [Act.put, List.setIfInBounds_toArray, List.set_cons_zero, List.set_cons_succ]
                  have m6 := (hl3.block mb (Array.getElem?_eq_some_iff.1 md).1).trans md
                  have k6 := block_cell m6
                  have f6 : ∀ j, W3.frozen? ⟨mb, j, none⟩ = false := block_frozen m6
                  clear kd
                  refine anyT_one 7 rfl (by kernel_rfl) rfl ?_
                  unfold Oper.wp
                  go_simp
                  refine ⟨(But.refl (fun b => b = mb) _).setCell (p := ⟨mb, 5, none⟩) rfl _, ?_⟩
                  refine anyT_done (by kernel_rfl) ?_
                  have m7 : (W3.setCell ⟨mb, 5, none⟩ (.slice a3 (zs.length - 8) c3)).heap[mb]? = some (.cells #[.int .u16 g6, .bool false, .bool false, .int .u32 0, .int .u32 0, .slice a3 (zs.length - 8) c3] 52 (0, 0)) := heap_set1 m6 5 _
                  have b7 : But (fun b => b = mb) w3 (W3.setCell ⟨mb, 5, none⟩ (.slice a3 (zs.length - 8) c3)) := (But.of (E := fun b => b = mb) (Later.trans hd hl3)).setCell (p := ⟨mb, 5, none⟩) rfl _
                  have hO7 : Ow (w.heap.size + 1 + 1) (W3.setCell ⟨mb, 5, none⟩ (.slice a3 (zs.length - 8) c3)) (.slice a3 (zs.length - 8) c3) (zs.drop 8) := hO3.other m6 (by decide) ((But.refl (fun b => b = mb) _).setCell (p := ⟨mb, 5, none⟩) rfl _)
                  go_wp2_with fail
                  go_meet
                  case rel => exact ⟨rfl, b7, a3, c3, m7, hO7⟩
                case rest =>
                  obtain ⟨rfl, bc, a3, c3, mx, hOx⟩ := hcut
                  have rx := (bc.block (w.heap.size + 1) (Array.getElem?_eq_some_iff.1 r3).1 (by omega)).trans r3
                  have hwx := hw3.trans (bc.below hw3.size (fun k hk e => by omega))
                  have MX := block_cell mx
                  have RX := block_cell rx
                  have FX := block_frozen rx
                  go_wp2_with fail
                  generalize hV : (((((wc.setCell ⟨w.heap.size + 1, 0, none⟩ _).setCell ⟨w.heap.size + 1, 1, none⟩ _).setCell ⟨w.heap.size + 1, 2, none⟩ _).setCell ⟨w.heap.size + 1, 3, none⟩ _).setCell ⟨w.heap.size + 1, 4, none⟩ _).setCell ⟨w.heap.size + 1, 5, none⟩ _ = V8
                  have hV9 : V8 = putRow wc (w.heap.size + 1) 0 [Value.int .u16 g6, .bool false, .bool false, .int .u32 0, .int .u32 0, .slice a3 (zs.length - 8) c3] := hV.symm
                  have hb8 : But (fun b => b = w.heap.size + 1) wc V8 := by rw [hV9]; exact putRow_but (E := fun b => b = w.heap.size + 1) (n := w.heap.size + 1) rfl _ _ _ _ (But.refl _ _)
                  have p8 := putRow_all [Value.int .u16 g6, .bool false, .bool false, .int .u32 0, .int .u32 0, .slice a3 (zs.length - 8) c3] rx rfl
                  rw [← hV9] at p8
                  clear hV hV9
                  have P8 := block_cell p8
                  have hw8 : Below w.heap.size w V8 := (hwx).trans (hb8.below (hwx).size (fun k h e => by omega))
                  exact bodyPost_ret (v := .tuple #[.agg #[.int .u16 g6, .bool false, .bool false, .int .u32 0, .int .u32 0, .slice a3 (zs.length - 8) c3], .int .i64 0]) (by simp [results, Tryd.results31, go_sem, P8]) rfl (⟨hw8, .inr ⟨HF.out, a3, c3, by rw [HN.out, HG6.out]; rfl, by rw [HN.out]; exact (hOx.other rx (by decide) hb8).mono (by omega)⟩⟩)
          · skip
            have e1 : hs = true := HHs.out.symm
            have e2 : ha = false := HHa.out.symm
            subst e1 e2
            have MC := block_cell mc
            go_wp2_with fail
            refine (rget16_at _ zs hB 4 (by omega) hl wc (hI.below hw2)).mono ?_
            rw [HG4.out]
            rintro e w3 ⟨rfl, q, hq⟩
            have l3 : Later wc w3 := by rw [hq]; exact below_draw (Later.refl _) q
            clear hq MC
            have m3 := (l3.block mb (Array.getElem?_eq_some_iff.1 mc).1).trans mc
            have r3 := (l3.block (w.heap.size + 1) (Array.getElem?_eq_some_iff.1 r2).1).trans r2
            have hw3 := hw2.trans (l3.mono hw2.size)
            have M3 := block_cell m3
            have hgd : Hid (ghd 1 = 12) := rfl
            by_cases c4 : (zs.length : Int) < 12 + L
            · have HF : Hid (pge proto zs = 3) := by show _ = _; unfold pge; rw [if_neg (by simp [C1.out]), if_neg c2, HN.out, if_neg (by decide), HL.out, hgd.out, if_pos (by omega)]
              have RR := block_cell r3
              have FF := block_frozen r3
              go_wp2_with fail
              generalize hV : (((((w3.setCell ⟨w.heap.size + 1, 0, none⟩ _).setCell ⟨w.heap.size + 1, 1, none⟩ _).setCell ⟨w.heap.size + 1, 2, none⟩ _).setCell ⟨w.heap.size + 1, 3, none⟩ _).setCell ⟨w.heap.size + 1, 4, none⟩ _).setCell ⟨w.heap.size + 1, 5, none⟩ _ = V8
              have hV9 : V8 = putRow w3 (w.heap.size + 1) 0 [Value.int .u16 0, .bool false, .bool false, .int .u32 0, .int .u32 0, .slice none 0 0] := hV.symm
              have hb8 : But (fun b => b = w.heap.size + 1) w3 V8 := by rw [hV9]; exact putRow_but (E := fun b => b = w.heap.size + 1) (n := w.heap.size + 1) rfl _ _ _ _ (But.refl _ _)
              have p8 := putRow_all [Value.int .u16 0, .bool false, .bool false, .int .u32 0, .int .u32 0, .slice none 0 0] r3 rfl
              rw [← hV9] at p8
              clear hV hV9
              have P8 := block_cell p8
              have hw8 : Below w.heap.size w V8 := (hw3).trans (hb8.below (hw3).size (fun k h e => by omega))
              exact bodyPost_ret (v := .tuple #[.agg zf.toArray, .int .i64 3]) (by simp [results, Tryd.results31, go_sem, P8]) rfl (⟨hw8, .inl ⟨by rw [HF.out]; decide, by rw [HF.out]⟩⟩)
            · by_cases c5 : 12 + L < (zs.length : Int)
              · have HF : Hid (pge proto zs = 4) := by show _ = _; unfold pge; rw [if_neg (by simp [C1.out]), if_neg c2, HN.out, if_neg (by decide), HL.out, hgd.out, if_neg (by omega), if_pos (by omega)]
                have RR := block_cell r3
                have FF := block_frozen r3
                go_wp2_with fail
                generalize hV : (((((w3.setCell ⟨w.heap.size + 1, 0, none⟩ _).setCell ⟨w.heap.size + 1, 1, none⟩ _).setCell ⟨w.heap.size + 1, 2, none⟩ _).setCell ⟨w.heap.size + 1, 3, none⟩ _).setCell ⟨w.heap.size + 1, 4, none⟩ _).setCell ⟨w.heap.size + 1, 5, none⟩ _ = V8
                have hV9 : V8 = putRow w3 (w.heap.size + 1) 0 [Value.int .u16 0, .bool false, .bool false, .int .u32 0, .int .u32 0, .slice none 0 0] := hV.symm
                have hb8 : But (fun b => b = w.heap.size + 1) w3 V8 := by rw [hV9]; exact putRow_but (E := fun b => b = w.heap.size + 1) (n := w.heap.size + 1) rfl _ _ _ _ (But.refl _ _)
                have p8 := putRow_all [Value.int .u16 0, .bool false, .bool false, .int .u32 0, .int .u32 0, .slice none 0 0] r3 rfl
                rw [← hV9] at p8
                clear hV hV9
                have P8 := block_cell p8
                have hw8 : Below w.heap.size w V8 := (hw3).trans (hb8.below (hw3).size (fun k h e => by omega))
                exact bodyPost_ret (v := .tuple #[.agg zf.toArray, .int .i64 4]) (by simp [results, Tryd.results31, go_sem, P8]) rfl (⟨hw8, .inl ⟨by rw [HF.out]; decide, by rw [HF.out]⟩⟩)
              · have HF : Hid (pge proto zs = 0) := by show _ = _; unfold pge; rw [if_neg (by simp [C1.out]), if_neg c2, HN.out, if_neg (by decide), HL.out, hgd.out, if_neg (by omega), if_neg (by omega)]
                have hH : 12 ≤ zs.length := by omega
                go_wp2_with fail
                refine (rget32_at _ zs hB 8 (by omega) hl w3 (hI.below hw3)).mono ?_
                rintro e x3 ⟨rfl, q, hq⟩
                have lx3 : Later w3 x3 := by rw [hq]; exact below_draw (Later.refl _) q
                clear hq
                have mx3 := (lx3.block mb (Array.getElem?_eq_some_iff.1 m3).1).trans m3
                have rx3 := (lx3.block (w.heap.size + 1) (Array.getElem?_eq_some_iff.1 r3).1).trans r3
                have hx3 := hw3.trans (lx3.mono hw3.size)
                have K3 := block_cell mx3
                have F3 := block_frozen mx3
                have my3 : (x3.setCell ⟨mb, 3, none⟩ (.int .u32 (getAt4 zs 8))).heap[mb]? = some (.cells #[.int .u16 g6, .bool true, .bool false, .int .u32 (getAt4 zs 8), .int .u32 0, .slice none 0 0] 52 (0, 0)) := heap_set1 mx3 3 _
                have by3 : But (fun b => b = mb) x3 (x3.setCell ⟨mb, 3, none⟩ (.int .u32 (getAt4 zs 8))) := (But.refl (fun b => b = mb) _).setCell (p := ⟨mb, 3, none⟩) rfl _
                have ry3 := (by3.block (w.heap.size + 1) (Array.getElem?_eq_some_iff.1 rx3).1 (by omega)).trans rx3
                have hy3 : Below w.heap.size w _ := hx3.trans (by3.below hx3.size (fun k hk e => by omega))
                have KY3 := block_cell my3
                go_upto_region 25 with fail
                clear K3 F3
                generalize x3.setCell ⟨mb, 3, none⟩ (.int .u32 (getAt4 zs 8)) = y3 at *
                go_cut [5] (fun p wx => p = .pointer (some ⟨mb, 0, none⟩) ∧ But (fun b => b = mb) y3 wx ∧ ∃ a3 c3, wx.heap[mb]? = some (.cells #[.int .u16 g6, .bool true, .bool false, .int .u32 (getAt4 zs 8), .int .u32 0, .slice a3 (zs.length - 12) c3] 52 (0, 0)) ∧ Ow (w.heap.size + 1 + 1) wx (.slice a3 (zs.length - 12) c3) (zs.drop 12))
                case first =>
                  refine anyT_begin (R := But (fun b => b = mb)) 8 rfl (by kernel_rfl) ?_
                  have hd : Later y3 y3.drew := Later.drew y3
                  have md := (hd.block mb (Array.getElem?_eq_some_iff.1 my3).1).trans my3
                  have hwd : Below w.heap.size w y3.drew := hy3.trans (hd.mono hy3.size)
                  generalize y3.drew = Wd at *
                  have hs8 : Rd w.heap.size Wd (.slice (if cd = 12 then some (⟨b, off, none⟩ : Addr) else some ⟨b, off + 12, none⟩) (zs.length - 12) (cd - 12)) (zs.drop 12) := (hI.below hwd).cutAt 12 (by omega)
                  generalize hE8 : (if cd = 12 then some (⟨b, off, none⟩ : Addr) else some ⟨b, off + 12, none⟩) = ad8 at *
                  have i8 : (12 : Int) ≤ zs.length := by omega
                  have i8c : (zs.length : Int) ≤ cd := by omega
                  have i8n : ¬ zs.length < 12 := by omega
                  refine anyT_val (But.pre _) 0 rfl (by kernel_rfl) (by kernel_rfl) (by kernel_rfl) (fun _ _ _ _ h => h) rfl ?_; apply Exists.intro; refine ⟨fun v1 hv1 => ?_, ?_⟩; (· (go_simp; rfl)); simp only [Act.put, List.setIfInBounds_toArray, List.set_cons_zero, List.set_cons_succ]
                  refine anyT_val (But.pre _) 2 rfl (by kernel_rfl) (by kernel_rfl) (by kernel_rfl) (fun _ _ _ _ h => h) rfl ?_; apply Exists.intro; refine ⟨fun v1 hv1 => ?_, ?_⟩; (· (go_simp; rfl)); simp only [Act.put, List.setIfInBounds_toArray, List.set_cons_zero, List.set_cons_succ]
                  refine anyT_val (But.pre _) 3 rfl (by kernel_rfl) (by kernel_rfl) (by kernel_rfl) (fun _ _ _ _ h => h) rfl ?_; apply Exists.intro; refine ⟨fun v1 hv1 => ?_, ?_⟩; (· (go_simp; rfl)); simp only [Act.put, List.setIfInBounds_toArray, List.set_cons_zero, List.set_cons_succ]
                  refine anyT_val (But.pre _) 4 rfl (by kernel_rfl) (by kernel_rfl) (by kernel_rfl) (fun _ _ _ _ h => h) rfl ⟨.slice ad8 (zs.length - 12) (cd - 12), fun v1 hv1 => by go_simp, ?_⟩
                  simp only [Act.put, List.setIfInBounds_toArray, List.set_cons_zero, List.set_cons_succ]
                  refine anyT_one 1 rfl (by kernel_rfl) rfl ?_
                  have kd := block_cell md
                  unfold Oper.wp
                  go_simp
                  refine ⟨But.refl _ _, ?_⟩
                  refine anyT_one 5 rfl (by kernel_rfl) rfl ?_
                  obtain ⟨i0, hi, hz0, hz1, hz2⟩ := info_parts info_u8
                  have hsd : w.heap.size + 1 + 1 ≤ Wd.heap.size := by have := (Array.getElem?_eq_some_iff.1 md).1; omega
                  obtain ⟨v3, W3, hrun3, hown3, hgr3⟩ := run_app (P := Tryd.prog) Wd 24 24 5 (w.heap.size + 1 + 1) i0 Tryd.underlying24 hi hz0 hz1 hz2 (.slice none 0 0) [] (World.ownsRow_nil _ _ _ _) w.heap.size _ (zs.drop 12) hs8 (by simp; omega) hsd
                  have hl3 : Later Wd W3 := (Below.refl _ Wd).grown hgr3 (Nat.le_refl _) (fun _ e => by cases e)
                  have hO3 := Ow.of_row hown3
                  rw [List.nil_append] at hO3
                  clear hown3
                  obtain ⟨a3, c3, rfl, hq3, hm3⟩ := hO3.slice
                  rw [List.length_drop] at hO3 hrun3
                  refine wp_app (.tmp 75) (.tmp 78) 24 rfl _ _ rfl rfl _ W3 hrun3 ⟨But.of hl3, ?_⟩
                  simp only [Act.put, List.setIfInBounds_toArray, List.set_cons_zero, List.set_cons_succ]
                  refine anyT_val (But.pre _) 6 rfl (by kernel_rfl) (by kernel_rfl) (by kernel_rfl) (fun _ _ _ _ h => h) rfl ?_; apply Exists.intro; refine ⟨fun v1 hv1 => ?_, ?_⟩; (· (go_simp; rfl)); simp only [Act.put, List.setIfInBounds_toArray, List.set_cons_zero, List.set_cons_succ]
                  have m6 := (hl3.block mb (Array.getElem?_eq_some_iff.1 md).1).trans md
                  have k6 := block_cell m6
                  have f6 : ∀ j, W3.frozen? ⟨mb, j, none⟩ = false := block_frozen m6
                  clear kd
                  refine anyT_one 7 rfl (by kernel_rfl) rfl ?_
                  unfold Oper.wp
                  go_simp
                  refine ⟨(But.refl (fun b => b = mb) _).setCell (p := ⟨mb, 5, none⟩) rfl _, ?_⟩
                  refine anyT_done (by kernel_rfl) ?_
                  have m7 : (W3.setCell ⟨mb, 5, none⟩ (.slice a3 (zs.length - 12) c3)).heap[mb]? = some (.cells #[.int .u16 g6, .bool true, .bool false, .int .u32 (getAt4 zs 8), .int .u32 0, .slice a3 (zs.length - 12) c3] 52 (0, 0)) := heap_set1 m6 5 _
                  have b7 : But (fun b => b = mb) y3 (W3.setCell ⟨mb, 5, none⟩ (.slice a3 (zs.length - 12) c3)) := (But.of (E := fun b => b = mb) (Later.trans hd hl3)).setCell (p := ⟨mb, 5, none⟩) rfl _
                  have hO7 : Ow (w.heap.size + 1 + 1) (W3.setCell ⟨mb, 5, none⟩ (.slice a3 (zs.length - 12) c3)) (.slice a3 (zs.length - 12) c3) (zs.drop 12) := hO3.other m6 (by decide) ((But.refl (fun b => b = mb) _).setCell (p := ⟨mb, 5, none⟩) rfl _)
                  go_wp2_with fail
                  go_meet
                  case rel => exact ⟨rfl, b7, a3, c3, m7, hO7⟩
                case rest =>
                  obtain ⟨rfl, bc, a3, c3, mx, hOx⟩ := hcut
                  have rx := (bc.block (w.heap.size + 1) (Array.getElem?_eq_some_iff.1 ry3).1 (by omega)).trans ry3
                  have hwx := hy3.trans (bc.below hy3.size (fun k hk e => by omega))
                  have MX := block_cell mx
                  have RX := block_cell rx
                  have FX := block_frozen rx
                  go_wp2_with fail
                  generalize hV : (((((wc.setCell ⟨w.heap.size + 1, 0, none⟩ _).setCell ⟨w.heap.size + 1, 1, none⟩ _).setCell ⟨w.heap.size + 1, 2, none⟩ _).setCell ⟨w.heap.size + 1, 3, none⟩ _).setCell ⟨w.heap.size + 1, 4, none⟩ _).setCell ⟨w.heap.size + 1, 5, none⟩ _ = V8
                  have hV9 : V8 = putRow wc (w.heap.size + 1) 0 [Value.int .u16 g6, .bool true, .bool false, .int .u32 (getAt4 zs 8), .int .u32 0, .slice a3 (zs.length - 12) c3] := hV.symm
                  have hb8 : But (fun b => b = w.heap.size + 1) wc V8 := by rw [hV9]; exact putRow_but (E := fun b => b = w.heap.size + 1) (n := w.heap.size + 1) rfl _ _ _ _ (But.refl _ _)
                  have p8 := putRow_all [Value.int .u16 g6, .bool true, .bool false, .int .u32 (getAt4 zs 8), .int .u32 0, .slice a3 (zs.length - 12) c3] rx rfl
                  rw [← hV9] at p8
                  clear hV hV9
                  have P8 := block_cell p8
                  have hw8 : Below w.heap.size w V8 := (hwx).trans (hb8.below (hwx).size (fun k h e => by omega))
                  exact bodyPost_ret (v := .tuple #[.agg #[.int .u16 g6, .bool true, .bool false, .int .u32 (getAt4 zs 8), .int .u32 0, .slice a3 (zs.length - 12) c3], .int .i64 0]) (by simp [results, Tryd.results31, go_sem, P8]) rfl (⟨hw8, .inr ⟨HF.out, a3, c3, by rw [HN.out, HG6.out]; rfl, by rw [HN.out]; exact (hOx.other rx (by decide) hb8).mono (by omega)⟩⟩)
          · skip
            have e1 : hs = false := HHs.out.symm
            have e2 : ha = true := HHa.out.symm
            subst e1 e2
            have MC := block_cell mc
            go_wp2_with fail
            refine (rget16_at _ zs hB 4 (by omega) hl wc (hI.below hw2)).mono ?_
            rw [HG4.out]
            rintro e w3 ⟨rfl, q, hq⟩
            have l3 : Later wc w3 := by rw [hq]; exact below_draw (Later.refl _) q
            clear hq MC
            have m3 := (l3.block mb (Array.getElem?_eq_some_iff.1 mc).1).trans mc
            have r3 := (l3.block (w.heap.size + 1) (Array.getElem?_eq_some_iff.1 r2).1).trans r2
            have hw3 := hw2.trans (l3.mono hw2.size)
            have M3 := block_cell m3
            have hgd : Hid (ghd 2 = 12) := rfl
            by_cases c4 : (zs.length : Int) < 12 + L
            · have HF : Hid (pge proto zs = 3) := by show _ = _; unfold pge; rw [if_neg (by simp [C1.out]), if_neg c2, HN.out, if_neg (by decide), HL.out, hgd.out, if_pos (by omega)]
              have RR := block_cell r3
              have FF := block_frozen r3
              go_wp2_with fail
              generalize hV : (((((w3.setCell ⟨w.heap.size + 1, 0, none⟩ _).setCell ⟨w.heap.size + 1, 1, none⟩ _).setCell ⟨w.heap.size + 1, 2, none⟩ _).setCell ⟨w.heap.size + 1, 3, none⟩ _).setCell ⟨w.heap.size + 1, 4, none⟩ _).setCell ⟨w.heap.size + 1, 5, none⟩ _ = V8
              have hV9 : V8 = putRow w3 (w.heap.size + 1) 0 [Value.int .u16 0, .bool false, .bool false, .int .u32 0, .int .u32 0, .slice none 0 0] := hV.symm
              have hb8 : But (fun b => b = w.heap.size + 1) w3 V8 := by rw [hV9]; exact putRow_but (E := fun b => b = w.heap.size + 1) (n := w.heap.size + 1) rfl _ _ _ _ (But.refl _ _)
              have p8 := putRow_all [Value.int .u16 0, .bool false, .bool false, .int .u32 0, .int .u32 0, .slice none 0 0] r3 rfl
              rw [← hV9] at p8
              clear hV hV9
              have P8 := block_cell p8
              have hw8 : Below w.heap.size w V8 := (hw3).trans (hb8.below (hw3).size (fun k h e => by omega))
              exact bodyPost_ret (v := .tuple #[.agg zf.toArray, .int .i64 3]) (by simp [results, Tryd.results31, go_sem, P8]) rfl (⟨hw8, .inl ⟨by rw [HF.out]; decide, by rw [HF.out]⟩⟩)
            · by_cases c5 : 12 + L < (zs.length : Int)
              · have HF : Hid (pge proto zs = 4) := by show _ = _; unfold pge; rw [if_neg (by simp [C1.out]), if_neg c2, HN.out, if_neg (by decide), HL.out, hgd.out, if_neg (by omega), if_pos (by omega)]
                have RR := block_cell r3
                have FF := block_frozen r3
                go_wp2_with fail
                generalize hV : (((((w3.setCell ⟨w.heap.size + 1, 0, none⟩ _).setCell ⟨w.heap.size + 1, 1, none⟩ _).setCell ⟨w.heap.size + 1, 2, none⟩ _).setCell ⟨w.heap.size + 1, 3, none⟩ _).setCell ⟨w.heap.size + 1, 4, none⟩ _).setCell ⟨w.heap.size + 1, 5, none⟩ _ = V8
                have hV9 : V8 = putRow w3 (w.heap.size + 1) 0 [Value.int .u16 0, .bool false, .bool false, .int .u32 0, .int .u32 0, .slice none 0 0] := hV.symm
                have hb8 : But (fun b => b = w.heap.size + 1) w3 V8 := by rw [hV9]; exact putRow_but (E := fun b => b = w.heap.size + 1) (n := w.heap.size + 1) rfl _ _ _ _ (But.refl _ _)
                have p8 := putRow_all [Value.int .u16 0, .bool false, .bool false, .int .u32 0, .int .u32 0, .slice none 0 0] r3 rfl
                rw [← hV9] at p8
                clear hV hV9
                have P8 := block_cell p8
                have hw8 : Below w.heap.size w V8 := (hw3).trans (hb8.below (hw3).size (fun k h e => by omega))
                exact bodyPost_ret (v := .tuple #[.agg zf.toArray, .int .i64 4]) (by simp [results, Tryd.results31, go_sem, P8]) rfl (⟨hw8, .inl ⟨by rw [HF.out]; decide, by rw [HF.out]⟩⟩)
              · have HF : Hid (pge proto zs = 0) := by show _ = _; unfold pge; rw [if_neg (by simp [C1.out]), if_neg c2, HN.out, if_neg (by decide), HL.out, hgd.out, if_neg (by omega), if_neg (by omega)]
                have hH : 12 ≤ zs.length := by omega
                go_wp2_with fail
                refine (rget32_at _ zs hB 8 (by omega) hl w3 (hI.below hw3)).mono ?_
                rintro e x3 ⟨rfl, q, hq⟩
                have lx3 : Later w3 x3 := by rw [hq]; exact below_draw (Later.refl _) q
                clear hq
                have mx3 := (lx3.block mb (Array.getElem?_eq_some_iff.1 m3).1).trans m3
                have rx3 := (lx3.block (w.heap.size + 1) (Array.getElem?_eq_some_iff.1 r3).1).trans r3
                have hx3 := hw3.trans (lx3.mono hw3.size)
                have K3 := block_cell mx3
                have F3 := block_frozen mx3
                have my3 : (x3.setCell ⟨mb, 4, none⟩ (.int .u32 (getAt4 zs 8))).heap[mb]? = some (.cells #[.int .u16 g6, .bool false, .bool true, .int .u32 0, .int .u32 (getAt4 zs 8), .slice none 0 0] 52 (0, 0)) := heap_set1 mx3 4 _
                have by3 : But (fun b => b = mb) x3 (x3.setCell ⟨mb, 4, none⟩ (.int .u32 (getAt4 zs 8))) := (But.refl (fun b => b = mb) _).setCell (p := ⟨mb, 4, none⟩) rfl _
                have ry3 := (by3.block (w.heap.size + 1) (Array.getElem?_eq_some_iff.1 rx3).1 (by omega)).trans rx3
                have hy3 : Below w.heap.size w _ := hx3.trans (by3.below hx3.size (fun k hk e => by omega))
                have KY3 := block_cell my3
                go_upto_region 25 with fail
                clear K3 F3
                generalize x3.setCell ⟨mb, 4, none⟩ (.int .u32 (getAt4 zs 8)) = y3 at *
                go_cut [5] (fun p wx => p = .pointer (some ⟨mb, 0, none⟩) ∧ But (fun b => b = mb) y3 wx ∧ ∃ a3 c3, wx.heap[mb]? = some (.cells #[.int .u16 g6, .bool false, .bool true, .int .u32 0, .int .u32 (getAt4 zs 8), .slice a3 (zs.length - 12) c3] 52 (0, 0)) ∧ Ow (w.heap.size + 1 + 1) wx (.slice a3 (zs.length - 12) c3) (zs.drop 12))
                case first =>
                  refine anyT_begin (R := But (fun b => b = mb)) 8 rfl (by kernel_rfl) ?_
                  have hd : Later y3 y3.drew := Later.drew y3
                  have md := (hd.block mb (Array.getElem?_eq_some_iff.1 my3).1).trans my3
                  have hwd : Below w.heap.size w y3.drew := hy3.trans (hd.mono hy3.size)
                  generalize y3.drew = Wd at *
                  have hs8 : Rd w.heap.size Wd (.slice (if cd = 12 then some (⟨b, off, none⟩ : Addr) else some ⟨b, off + 12, none⟩) (zs.length - 12) (cd - 12)) (zs.drop 12) := (hI.below hwd).cutAt 12 (by omega)
                  generalize hE8 : (if cd = 12 then some (⟨b, off, none⟩ : Addr) else some ⟨b, off + 12, none⟩) = ad8 at *
                  have i8 : (12 : Int) ≤ zs.length := by omega
                  have i8c : (zs.length : Int) ≤ cd := by omega
                  have i8n : ¬ zs.length < 12 := by omega
                  refine anyT_val (But.pre _) 0 rfl (by kernel_rfl) (by kernel_rfl) (by kernel_rfl) (fun _ _ _ _ h => h) rfl ?_; apply Exists.intro; refine ⟨fun v1 hv1 => ?_, ?_⟩; (· (go_simp; rfl)); simp only [Act.put, List.setIfInBounds_toArray, List.set_cons_zero, List.set_cons_succ]
                  refine anyT_val (But.pre _) 2 rfl (by kernel_rfl) (by kernel_rfl) (by kernel_rfl) (fun _ _ _ _ h => h) rfl ?_; apply Exists.intro; refine ⟨fun v1 hv1 => ?_, ?_⟩; (· (go_simp; rfl)); simp only [Act.put, List.setIfInBounds_toArray, List.set_cons_zero, List.set_cons_succ]
                  refine anyT_val (But.pre _) 3 rfl (by kernel_rfl) (by kernel_rfl) (by kernel_rfl) (fun _ _ _ _ h => h) rfl ?_; apply Exists.intro; refine ⟨fun v1 hv1 => ?_, ?_⟩; (· (go_simp; rfl)); simp only [Act.put, List.setIfInBounds_toArray, List.set_cons_zero, List.set_cons_succ]
                  refine anyT_val (But.pre _) 4 rfl (by kernel_rfl) (by kernel_rfl) (by kernel_rfl) (fun _ _ _ _ h => h) rfl ⟨.slice ad8 (zs.length - 12) (cd - 12), fun v1 hv1 => by go_simp, ?_⟩
                  simp only [Act.put, List.setIfInBounds_toArray, List.set_cons_zero, List.set_cons_succ]
                  refine anyT_one 1 rfl (by kernel_rfl) rfl ?_
                  have kd := block_cell md
                  unfold Oper.wp
                  go_simp
                  refine ⟨But.refl _ _, ?_⟩
                  refine anyT_one 5 rfl (by kernel_rfl) rfl ?_
                  obtain ⟨i0, hi, hz0, hz1, hz2⟩ := info_parts info_u8
                  have hsd : w.heap.size + 1 + 1 ≤ Wd.heap.size := by have := (Array.getElem?_eq_some_iff.1 md).1; omega
                  obtain ⟨v3, W3, hrun3, hown3, hgr3⟩ := run_app (P := Tryd.prog) Wd 24 24 5 (w.heap.size + 1 + 1) i0 Tryd.underlying24 hi hz0 hz1 hz2 (.slice none 0 0) [] (World.ownsRow_nil _ _ _ _) w.heap.size _ (zs.drop 12) hs8 (by simp; omega) hsd
                  have hl3 : Later Wd W3 := (Below.refl _ Wd).grown hgr3 (Nat.le_refl _) (fun _ e => by cases e)
                  have hO3 := Ow.of_row hown3
                  rw [List.nil_append] at hO3
                  clear hown3
                  obtain ⟨a3, c3, rfl, hq3, hm3⟩ := hO3.slice
                  rw [List.length_drop] at hO3 hrun3
                  refine wp_app (.tmp 75) (.tmp 78) 24 rfl _ _ rfl rfl _ W3 hrun3 ⟨But.of hl3, ?_⟩
                  simp only [Act.put, List.setIfInBounds_toArray, List.set_cons_zero, List.set_cons_succ]
                  refine anyT_val (But.pre _) 6 rfl (by kernel_rfl) (by kernel_rfl) (by kernel_rfl) (fun _ _ _ _ h => h) rfl ?_; apply Exists.intro; refine ⟨fun v1 hv1 => ?_, ?_⟩; (· (go_simp; rfl)); simp only [Act.put, List.setIfInBounds_toArray, List.set_cons_zero, List.set_cons_succ]
                  have m6 := (hl3.block mb (Array.getElem?_eq_some_iff.1 md).1).trans md
                  have k6 := block_cell m6
                  have f6 : ∀ j, W3.frozen? ⟨mb, j, none⟩ = false := block_frozen m6
                  clear kd
                  refine anyT_one 7 rfl (by kernel_rfl) rfl ?_
                  unfold Oper.wp
                  go_simp
                  refine ⟨(But.refl (fun b => b = mb) _).setCell (p := ⟨mb, 5, none⟩) rfl _, ?_⟩
                  refine anyT_done (by kernel_rfl) ?_
                  have m7 : (W3.setCell ⟨mb, 5, none⟩ (.slice a3 (zs.length - 12) c3)).heap[mb]? = some (.cells #[.int .u16 g6, .bool false, .bool true, .int .u32 0, .int .u32 (getAt4 zs 8), .slice a3 (zs.length - 12) c3] 52 (0, 0)) := heap_set1 m6 5 _
                  have b7 : But (fun b => b = mb) y3 (W3.setCell ⟨mb, 5, none⟩ (.slice a3 (zs.length - 12) c3)) := (But.of (E := fun b => b = mb) (Later.trans hd hl3)).setCell (p := ⟨mb, 5, none⟩) rfl _
                  have hO7 : Ow (w.heap.size + 1 + 1) (W3.setCell ⟨mb, 5, none⟩ (.slice a3 (zs.length - 12) c3)) (.slice a3 (zs.length - 12) c3) (zs.drop 12) := hO3.other m6 (by decide) ((But.refl (fun b => b = mb) _).setCell (p := ⟨mb, 5, none⟩) rfl _)
                  go_wp2_with fail
                  go_meet
                  case rel => exact ⟨rfl, b7, a3, c3, m7, hO7⟩
                case rest =>
                  obtain ⟨rfl, bc, a3, c3, mx, hOx⟩ := hcut
                  have rx := (bc.block (w.heap.size + 1) (Array.getElem?_eq_some_iff.1 ry3).1 (by omega)).trans ry3
                  have hwx := hy3.trans (bc.below hy3.size (fun k hk e => by omega))
                  have MX := block_cell mx
                  have RX := block_cell rx
                  have FX := block_frozen rx
                  go_wp2_with fail
                  generalize hV : (((((wc.setCell ⟨w.heap.size + 1, 0, none⟩ _).setCell ⟨w.heap.size + 1, 1, none⟩ _).setCell ⟨w.heap.size + 1, 2, none⟩ _).setCell ⟨w.heap.size + 1, 3, none⟩ _).setCell ⟨w.heap.size + 1, 4, none⟩ _).setCell ⟨w.heap.size + 1, 5, none⟩ _ = V8
                  have hV9 : V8 = putRow wc (w.heap.size + 1) 0 [Value.int .u16 g6, .bool false, .bool true, .int .u32 0, .int .u32 (getAt4 zs 8), .slice a3 (zs.length - 12) c3] := hV.symm
                  have hb8 : But (fun b => b = w.heap.size + 1) wc V8 := by rw [hV9]; exact putRow_but (E := fun b => b = w.heap.size + 1) (n := w.heap.size + 1) rfl _ _ _ _ (But.refl _ _)
                  have p8 := putRow_all [Value.int .u16 g6, .bool false, .bool true, .int .u32 0, .int .u32 (getAt4 zs 8), .slice a3 (zs.length - 12) c3] rx rfl
                  rw [← hV9] at p8
                  clear hV hV9
                  have P8 := block_cell p8
                  have hw8 : Below w.heap.size w V8 := (hwx).trans (hb8.below (hwx).size (fun k h e => by omega))
                  exact bodyPost_ret (v := .tuple #[.agg #[.int .u16 g6, .bool false, .bool true, .int .u32 0, .int .u32 (getAt4 zs 8), .slice a3 (zs.length - 12) c3], .int .i64 0]) (by simp [results, Tryd.results31, go_sem, P8]) rfl (⟨hw8, .inr ⟨HF.out, a3, c3, by rw [HN.out, HG6.out]; rfl, by rw [HN.out]; exact (hOx.other rx (by decide) hb8).mono (by omega)⟩⟩)
          · skip
            have e1 : hs = true := HHs.out.symm
            have e2 : ha = true := HHa.out.symm
            subst e1 e2
            have MC := block_cell mc
            go_wp2_with fail
            refine (rget16_at _ zs hB 4 (by omega) hl wc (hI.below hw2)).mono ?_
            rw [HG4.out]
            rintro e w3 ⟨rfl, q, hq⟩
            have l3 : Later wc w3 := by rw [hq]; exact below_draw (Later.refl _) q
            clear hq MC
            have m3 := (l3.block mb (Array.getElem?_eq_some_iff.1 mc).1).trans mc
            have r3 := (l3.block (w.heap.size + 1) (Array.getElem?_eq_some_iff.1 r2).1).trans r2
            have hw3 := hw2.trans (l3.mono hw2.size)
            have M3 := block_cell m3
            have hgd : Hid (ghd 3 = 16) := rfl
            by_cases c4 : (zs.length : Int) < 16 + L
            · have HF : Hid (pge proto zs = 3) := by show _ = _; unfold pge; rw [if_neg (by simp [C1.out]), if_neg c2, HN.out, if_neg (by decide), HL.out, hgd.out, if_pos (by omega)]
              have RR := block_cell r3
              have FF := block_frozen r3
              go_wp2_with fail
              generalize hV : (((((w3.setCell ⟨w.heap.size + 1, 0, none⟩ _).setCell ⟨w.heap.size + 1, 1, none⟩ _).setCell ⟨w.heap.size + 1, 2, none⟩ _).setCell ⟨w.heap.size + 1, 3, none⟩ _).setCell ⟨w.heap.size + 1, 4, none⟩ _).setCell ⟨w.heap.size + 1, 5, none⟩ _ = V8
              have hV9 : V8 = putRow w3 (w.heap.size + 1) 0 [Value.int .u16 0, .bool false, .bool false, .int .u32 0, .int .u32 0, .slice none 0 0] := hV.symm
              have hb8 : But (fun b => b = w.heap.size + 1) w3 V8 := by rw [hV9]; exact putRow_but (E := fun b => b = w.heap.size + 1) (n := w.heap.size + 1) rfl _ _ _ _ (But.refl _ _)
              have p8 := putRow_all [Value.int .u16 0, .bool false, .bool false, .int .u32 0, .int .u32 0, .slice none 0 0] r3 rfl
              rw [← hV9] at p8
              clear hV hV9
              have P8 := block_cell p8
              have hw8 : Below w.heap.size w V8 := (hw3).trans (hb8.below (hw3).size (fun k h e => by omega))
              exact bodyPost_ret (v := .tuple #[.agg zf.toArray, .int .i64 3]) (by simp [results, Tryd.results31, go_sem, P8]) rfl (⟨hw8, .inl ⟨by rw [HF.out]; decide, by rw [HF.out]⟩⟩)
            · by_cases c5 : 16 + L < (zs.length : Int)
              · have HF : Hid (pge proto zs = 4) := by show _ = _; unfold pge; rw [if_neg (by simp [C1.out]), if_neg c2, HN.out, if_neg (by decide), HL.out, hgd.out, if_neg (by omega), if_pos (by omega)]
                have RR := block_cell r3
                have FF := block_frozen r3
                go_wp2_with fail
                generalize hV : (((((w3.setCell ⟨w.heap.size + 1, 0, none⟩ _).setCell ⟨w.heap.size + 1, 1, none⟩ _).setCell ⟨w.heap.size + 1, 2, none⟩ _).setCell ⟨w.heap.size + 1, 3, none⟩ _).setCell ⟨w.heap.size + 1, 4, none⟩ _).setCell ⟨w.heap.size + 1, 5, none⟩ _ = V8
                have hV9 : V8 = putRow w3 (w.heap.size + 1) 0 [Value.int .u16 0, .bool false, .bool false, .int .u32 0, .int .u32 0, .slice none 0 0] := hV.symm
                have hb8 : But (fun b => b = w.heap.size + 1) w3 V8 := by rw [hV9]; exact putRow_but (E := fun b => b = w.heap.size + 1) (n := w.heap.size + 1) rfl _ _ _ _ (But.refl _ _)
                have p8 := putRow_all [Value.int .u16 0, .bool false, .bool false, .int .u32 0, .int .u32 0, .slice none 0 0] r3 rfl
                rw [← hV9] at p8
                clear hV hV9
                have P8 := block_cell p8
                have hw8 : Below w.heap.size w V8 := (hw3).trans (hb8.below (hw3).size (fun k h e => by omega))
                exact bodyPost_ret (v := .tuple #[.agg zf.toArray, .int .i64 4]) (by simp [results, Tryd.results31, go_sem, P8]) rfl (⟨hw8, .inl ⟨by rw [HF.out]; decide, by rw [HF.out]⟩⟩)
              · have HF : Hid (pge proto zs = 0) := by show _ = _; unfold pge; rw [if_neg (by simp [C1.out]), if_neg c2, HN.out, if_neg (by decide), HL.out, hgd.out, if_neg (by omega), if_neg (by omega)]
                have hH : 16 ≤ zs.length := by omega
                go_wp2_with fail
                refine (rget32_at _ zs hB 8 (by omega) hl w3 (hI.below hw3)).mono ?_
                rintro e x3 ⟨rfl, q, hq⟩
                have lx3 : Later w3 x3 := by rw [hq]; exact below_draw (Later.refl _) q
                clear hq
                have mx3 := (lx3.block mb (Array.getElem?_eq_some_iff.1 m3).1).trans m3
                have rx3 := (lx3.block (w.heap.size + 1) (Array.getElem?_eq_some_iff.1 r3).1).trans r3
                have hx3 := hw3.trans (lx3.mono hw3.size)
                have K3 := block_cell mx3
                have F3 := block_frozen mx3
                have my3 : (x3.setCell ⟨mb, 3, none⟩ (.int .u32 (getAt4 zs 8))).heap[mb]? = some (.cells #[.int .u16 g6, .bool true, .bool true, .int .u32 (getAt4 zs 8), .int .u32 0, .slice none 0 0] 52 (0, 0)) := heap_set1 mx3 3 _
                have by3 : But (fun b => b = mb) x3 (x3.setCell ⟨mb, 3, none⟩ (.int .u32 (getAt4 zs 8))) := (But.refl (fun b => b = mb) _).setCell (p := ⟨mb, 3, none⟩) rfl _
                have ry3 := (by3.block (w.heap.size + 1) (Array.getElem?_eq_some_iff.1 rx3).1 (by omega)).trans rx3
                have hy3 : Below w.heap.size w _ := hx3.trans (by3.below hx3.size (fun k hk e => by omega))
                have KY3 := block_cell my3
                go_wp2_with fail
                clear K3 F3
                generalize x3.setCell ⟨mb, 3, none⟩ (.int .u32 (getAt4 zs 8)) = y3 at *
                refine (rget32_at _ zs hB 12 (by omega) hl y3 (hI.below hy3)).mono ?_
                rintro e x4 ⟨rfl, q, hq⟩
                have lx4 : Later y3 x4 := by rw [hq]; exact below_draw (Later.refl _) q
                clear hq
                have mx4 := (lx4.block mb (Array.getElem?_eq_some_iff.1 my3).1).trans my3
                have rx4 := (lx4.block (w.heap.size + 1) (Array.getElem?_eq_some_iff.1 ry3).1).trans ry3
                have hx4 := hy3.trans (lx4.mono hy3.size)
                have K4 := block_cell mx4
                have F4 := block_frozen mx4
                have my4 : (x4.setCell ⟨mb, 4, none⟩ (.int .u32 (getAt4 zs 12))).heap[mb]? = some (.cells #[.int .u16 g6, .bool true, .bool true, .int .u32 (getAt4 zs 8), .int .u32 (getAt4 zs 12), .slice none 0 0] 52 (0, 0)) := heap_set1 mx4 4 _
                have by4 : But (fun b => b = mb) x4 (x4.setCell ⟨mb, 4, none⟩ (.int .u32 (getAt4 zs 12))) := (But.refl (fun b => b = mb) _).setCell (p := ⟨mb, 4, none⟩) rfl _
                have ry4 := (by4.block (w.heap.size + 1) (Array.getElem?_eq_some_iff.1 rx4).1 (by omega)).trans rx4
                have hy4 : Below w.heap.size w _ := hx4.trans (by4.below hx4.size (fun k hk e => by omega))
                have KY4 := block_cell my4
                go_upto_region 25 with fail
                clear K4 F4
                generalize x4.setCell ⟨mb, 4, none⟩ (.int .u32 (getAt4 zs 12)) = y4 at *
                go_cut [5] (fun p wx => p = .pointer (some ⟨mb, 0, none⟩) ∧ But (fun b => b = mb) y4 wx ∧ ∃ a3 c3, wx.heap[mb]? = some (.cells #[.int .u16 g6, .bool true, .bool true, .int .u32 (getAt4 zs 8), .int .u32 (getAt4 zs 12), .slice a3 (zs.length - 16) c3] 52 (0, 0)) ∧ Ow (w.heap.size + 1 + 1) wx (.slice a3 (zs.length - 16) c3) (zs.drop 16))
                case first =>
                  refine anyT_begin (R := But (fun b => b = mb)) 8 rfl (by kernel_rfl) ?_
                  have hd : Later y4 y4.drew := Later.drew y4
                  have md := (hd.block mb (Array.getElem?_eq_some_iff.1 my4).1).trans my4
                  have hwd : Below w.heap.size w y4.drew := hy4.trans (hd.mono hy4.size)
                  generalize y4.drew = Wd at *
                  have hs8 : Rd w.heap.size Wd (.slice (if cd = 16 then some (⟨b, off, none⟩ : Addr) else some ⟨b, off + 16, none⟩) (zs.length - 16) (cd - 16)) (zs.drop 16) := (hI.below hwd).cutAt 16 (by omega)
                  generalize hE8 : (if cd = 16 then some (⟨b, off, none⟩ : Addr) else some ⟨b, off + 16, none⟩) = ad8 at *
                  have i8 : (16 : Int) ≤ zs.length := by omega
                  have i8c : (zs.length : Int) ≤ cd := by omega
                  have i8n : ¬ zs.length < 16 := by omega
                  refine anyT_val (But.pre _) 0 rfl (by kernel_rfl) (by kernel_rfl) (by kernel_rfl) (fun _ _ _ _ h => h) rfl ?_; apply Exists.intro; refine ⟨fun v1 hv1 => ?_, ?_⟩; (· (go_simp; rfl)); simp only [Act.put, List.setIfInBounds_toArray, List.set_cons_zero, List.set_cons_succ]
                  refine anyT_val (But.pre _) 2 rfl (by kernel_rfl) (by kernel_rfl) (by kernel_rfl) (fun _ _ _ _ h => h) rfl ?_; apply Exists.intro; refine ⟨fun v1 hv1 => ?_, ?_⟩; (· (go_simp; rfl)); simp only [Act.put, List.setIfInBounds_toArray, List.set_cons_zero, List.set_cons_succ]
                  refine anyT_val (But.pre _) 3 rfl (by kernel_rfl) (by kernel_rfl) (by kernel_rfl) (fun _ _ _ _ h => h) rfl ?_; apply Exists.intro; refine ⟨fun v1 hv1 => ?_, ?_⟩; (· (go_simp; rfl)); simp only [Act.put, List.setIfInBounds_toArray, List.set_cons_zero, List.set_cons_succ]
                  refine anyT_val (But.pre _) 4 rfl (by kernel_rfl) (by kernel_rfl) (by kernel_rfl) (fun _ _ _ _ h => h) rfl ⟨.slice ad8 (zs.length - 16) (cd - 16), fun v1 hv1 => by go_simp, ?_⟩
                  simp only [Act.put, List.setIfInBounds_toArray, List.set_cons_zero, List.set_cons_succ]
                  refine anyT_one 1 rfl (by kernel_rfl) rfl ?_
                  have kd := block_cell md
                  unfold Oper.wp
                  go_simp
                  refine ⟨But.refl _ _, ?_⟩
                  refine anyT_one 5 rfl (by kernel_rfl) rfl ?_
                  obtain ⟨i0, hi, hz0, hz1, hz2⟩ := info_parts info_u8
                  have hsd : w.heap.size + 1 + 1 ≤ Wd.heap.size := by have := (Array.getElem?_eq_some_iff.1 md).1; omega
                  obtain ⟨v3, W3, hrun3, hown3, hgr3⟩ := run_app (P := Tryd.prog) Wd 24 24 5 (w.heap.size + 1 + 1) i0 Tryd.underlying24 hi hz0 hz1 hz2 (.slice none 0 0) [] (World.ownsRow_nil _ _ _ _) w.heap.size _ (zs.drop 16) hs8 (by simp; omega) hsd
                  have hl3 : Later Wd W3 := (Below.refl _ Wd).grown hgr3 (Nat.le_refl _) (fun _ e => by cases e)
                  have hO3 := Ow.of_row hown3
                  rw [List.nil_append] at hO3
                  clear hown3
                  obtain ⟨a3, c3, rfl, hq3, hm3⟩ := hO3.slice
                  rw [List.length_drop] at hO3 hrun3
                  refine wp_app (.tmp 75) (.tmp 78) 24 rfl _ _ rfl rfl _ W3 hrun3 ⟨But.of hl3, ?_⟩
                  simp only [Act.put, List.setIfInBounds_toArray, List.set_cons_zero, List.set_cons_succ]
                  refine anyT_val (But.pre _) 6 rfl (by kernel_rfl) (by kernel_rfl) (by kernel_rfl) (fun _ _ _ _ h => h) rfl ?_; apply Exists.intro; refine ⟨fun v1 hv1 => ?_, ?_⟩; (· (go_simp; rfl)); simp only [Act.put, List.setIfInBounds_toArray, List.set_cons_zero, List.set_cons_succ]
                  have m6 := (hl3.block mb (Array.getElem?_eq_some_iff.1 md).1).trans md
                  have k6 := block_cell m6
                  have f6 : ∀ j, W3.frozen? ⟨mb, j, none⟩ = false := block_frozen m6
                  clear kd
                  refine anyT_one 7 rfl (by kernel_rfl) rfl ?_
                  unfold Oper.wp
                  go_simp
                  refine ⟨(But.refl (fun b => b = mb) _).setCell (p := ⟨mb, 5, none⟩) rfl _, ?_⟩
                  refine anyT_done (by kernel_rfl) ?_
                  have m7 : (W3.setCell ⟨mb, 5, none⟩ (.slice a3 (zs.length - 16) c3)).heap[mb]? = some (.cells #[.int .u16 g6, .bool true, .bool true, .int .u32 (getAt4 zs 8), .int .u32 (getAt4 zs 12), .slice a3 (zs.length - 16) c3] 52 (0, 0)) := heap_set1 m6 5 _
                  have b7 : But (fun b => b = mb) y4 (W3.setCell ⟨mb, 5, none⟩ (.slice a3 (zs.length - 16) c3)) := (But.of (E := fun b => b = mb) (Later.trans hd hl3)).setCell (p := ⟨mb, 5, none⟩) rfl _
                  have hO7 : Ow (w.heap.size + 1 + 1) (W3.setCell ⟨mb, 5, none⟩ (.slice a3 (zs.length - 16) c3)) (.slice a3 (zs.length - 16) c3) (zs.drop 16) := hO3.other m6 (by decide) ((But.refl (fun b => b = mb) _).setCell (p := ⟨mb, 5, none⟩) rfl _)
                  go_wp2_with fail
                  go_meet
                  case rel => exact ⟨rfl, b7, a3, c3, m7, hO7⟩
                case rest =>
                  obtain ⟨rfl, bc, a3, c3, mx, hOx⟩ := hcut
                  have rx := (bc.block (w.heap.size + 1) (Array.getElem?_eq_some_iff.1 ry4).1 (by omega)).trans ry4
                  have hwx := hy4.trans (bc.below hy4.size (fun k hk e => by omega))
                  have MX := block_cell mx
                  have RX := block_cell rx
                  have FX := block_frozen rx
                  go_wp2_with fail
                  generalize hV : (((((wc.setCell ⟨w.heap.size + 1, 0, none⟩ _).setCell ⟨w.heap.size + 1, 1, none⟩ _).setCell ⟨w.heap.size + 1, 2, none⟩ _).setCell ⟨w.heap.size + 1, 3, none⟩ _).setCell ⟨w.heap.size + 1, 4, none⟩ _).setCell ⟨w.heap.size + 1, 5, none⟩ _ = V8
                  have hV9 : V8 = putRow wc (w.heap.size + 1) 0 [Value.int .u16 g6, .bool true, .bool true, .int .u32 (getAt4 zs 8), .int .u32 (getAt4 zs 12), .slice a3 (zs.length - 16) c3] := hV.symm
                  have hb8 : But (fun b => b = w.heap.size + 1) wc V8 := by rw [hV9]; exact putRow_but (E := fun b => b = w.heap.size + 1) (n := w.heap.size + 1) rfl _ _ _ _ (But.refl _ _)
                  have p8 := putRow_all [Value.int .u16 g6, .bool true, .bool true, .int .u32 (getAt4 zs 8), .int .u32 (getAt4 zs 12), .slice a3 (zs.length - 16) c3] rx rfl
                  rw [← hV9] at p8
                  clear hV hV9
                  have P8 := block_cell p8
                  have hw8 : Below w.heap.size w V8 := (hwx).trans (hb8.below (hwx).size (fun k h e => by omega))
                  exact bodyPost_ret (v := .tuple #[.agg #[.int .u16 g6, .bool true, .bool true, .int .u32 (getAt4 zs 8), .int .u32 (getAt4 zs 12), .slice a3 (zs.length - 16) c3], .int .i64 0]) (by simp [results, Tryd.results31, go_sem, P8]) rfl (⟨hw8, .inr ⟨HF.out, a3, c3, by rw [HN.out, HG6.out]; rfl, by rw [HN.out]; exact (hOx.other rx (by decide) hb8).mono (by omega)⟩⟩)
  · have t1 : (proto != 47) = true := by simp [c1]
    have HF : Hid (pge proto zs = 12) := by show _ = _; unfold pge; rw [if_pos (by simp [c1])]
    go_enter Tryd.func31, Tryd.ntmps31
    go_wp2_with fail
    exact bodyPost_ret (v := .tuple #[.agg zf.toArray, .int .i64 12]) (by simp [results, Tryd.results31, go_sem]) rfl ⟨hb0, .inl ⟨by rw [HF.out]; decide, by rw [HF.out]⟩⟩
end Go.Proofs.YtojoaidnkljcpaaDoor

/- The document's kinds of messages; the walk of the law CtrlKinds. -/
namespace Go.Proofs.YtojoaidnkljcpaaDoor
open Go.RowKit Go.Shelf
set_option maxRecDepth 100000
set_option linter.unusedVariables false
set_option linter.unusedSimpArgs false

set_option maxHeartbeats 1000000 in
theorem risError_any (ty cde rest : Int) (sm : Value) (w : World) :
    Calls Tryd.prog 61 #[.agg #[.int .u8 ty, .int .u8 cde, .int .u32 rest, sm]] w fun e w' => e = .returned (.bool (ty == 3 || (ty == 11 || ty == 12))) ∧ Below w.heap.size w w' := by
  have hbox : Below w.heap.size w (w.alloc (.cells #[.int .u8 ty, .int .u8 cde, .int .u32 rest, sm] 49)) := (Below.refl _ _).alloc (Nat.le_refl _) _
  cases h1 : (ty == 3)
  · cases h2 : (ty == 11)
    · cases h3 : (ty == 12)
      · go_enter Tryd.func61, Tryd.ntmps61
        go_wp2
        go_ret
        exact ⟨by simp, hbox⟩
      · go_enter Tryd.func61, Tryd.ntmps61
        go_wp2
        go_ret
        exact ⟨by simp, hbox⟩
    · go_enter Tryd.func61, Tryd.ntmps61
      go_wp2
      go_ret
      exact ⟨by simp, hbox⟩
  · go_enter Tryd.func61, Tryd.ntmps61
    go_wp2
    go_ret
    exact ⟨by simp, hbox⟩

set_option maxHeartbeats 1000000 in
theorem risEcho_any (ty cde rest : Int) (sm : Value) (w : World) :
    Calls Tryd.prog 30 #[.agg #[.int .u8 ty, .int .u8 cde, .int .u32 rest, sm]] w fun e w' => e = .returned (.bool ((ty == 8 || ty == 0) && cde == 0)) ∧ Below w.heap.size w w' := by
  have hbox : Below w.heap.size w (w.alloc (.cells #[.int .u8 ty, .int .u8 cde, .int .u32 rest, sm] 49)) := (Below.refl _ _).alloc (Nat.le_refl _) _
  cases h3 : (cde == 0)
  · cases h1 : (ty == 8)
    · cases h2 : (ty == 0)
      · go_enter Tryd.func30, Tryd.ntmps30
        go_wp2
        go_ret
        exact ⟨by simp, hbox⟩
      · go_enter Tryd.func30, Tryd.ntmps30
        go_wp2
        go_ret
        exact ⟨by simp, hbox⟩
    · go_enter Tryd.func30, Tryd.ntmps30
      go_wp2
      go_ret
      exact ⟨by simp, hbox⟩
  · cases h1 : (ty == 8)
    · cases h2 : (ty == 0)
      · go_enter Tryd.func30, Tryd.ntmps30
        go_wp2
        go_ret
        exact ⟨by simp, hbox⟩
      · go_enter Tryd.func30, Tryd.ntmps30
        go_wp2
        go_ret
        exact ⟨by simp, hbox⟩
    · go_enter Tryd.func30, Tryd.ntmps30
      go_wp2
      go_ret
      exact ⟨by simp, hbox⟩

end Go.Proofs.YtojoaidnkljcpaaDoor

/- Layer 5: Of in one form; the document's Of. -/
namespace Go.Proofs.YtojoaidnkljcpaaDoor
open Go.RowKit Go.Shelf
set_option maxRecDepth 100000
set_option linter.unusedVariables false
set_option linter.unusedSimpArgs false

def ofe (proto src dst : Int) (zd : List Int) : Int := if proto = 6 then pte 6 src dst zd else if proto = 17 then pue 17 src dst zd else if proto = 1 then oie zd else if proto = 47 then pge 47 zd else 12
def ofa (proto : Int) (zd : List Int) : Int := if proto = 6 then wat zd 0 else if proto = 17 then wat zd 0 else if proto = 1 then wat zd 4 else 0
def ofb (proto : Int) (zd : List Int) : Int := if proto = 6 then wat zd 2 else if proto = 17 then wat zd 2 else if proto = 1 then wat zd 4 else getAt2 zd 6

set_option maxHeartbeats 2000000 in
theorem of_any (tos id ttl proto src dst : Int) (keep : Bool) (so sd : Value) (zd : List Int) (w : World) (hT : Tb w) (hB : Mt.By zd) (hI : Rd w.heap.size w sd zd) (hl : 12 + zd.length ≤ 140737488355328) (hsr : 0 ≤ src ∧ src ≤ 4294967295) (hds : 0 ≤ dst ∧ dst ≤ 4294967295) :
    Calls Tryd.prog 9 #[.agg #[.int .u8 tos, .int .u16 id, .bool keep, .int .u8 ttl, .int .u8 proto, .int .u32 src, .int .u32 dst, so, sd]] w fun e w' => Below w.heap.size w w' ∧ e = .returned (.tuple #[otv (ofe proto src dst zd) proto src dst (ofa proto zd) (ofb proto zd), .int .i64 (ofe proto src dst zd)]) := by
  obtain ⟨ad, cd, rfl, _, _⟩ := hI.slice
  by_cases h6 : proto = 6
  · subst h6
    exact of_gen 6 (wat zd 0) (wat zd 2) (pte 6 src dst zd) _ _ tos id ttl src dst keep so ad zd.length cd w (fun _ _ h => look_tcp h) cf_tcp (fun w' hb => ofTcp_any tos id ttl 6 src dst keep so _ zd w' hB ((hI.below hb).mono hb.size) hl hsr hds)
  by_cases h17 : proto = 17
  · subst h17
    exact of_gen 17 (wat zd 0) (wat zd 2) (pue 17 src dst zd) _ _ tos id ttl src dst keep so ad zd.length cd w (fun _ _ h => look_udp h) cf_udp (fun w' hb => ofUdp_any tos id ttl 17 src dst keep so _ zd w' hB ((hI.below hb).mono hb.size) hl hsr hds)
  by_cases h1 : proto = 1
  · subst h1
    exact of_gen 1 (wat zd 4) (wat zd 4) (oie zd) _ _ tos id ttl src dst keep so ad zd.length cd w (fun _ _ h => look_icmp h) cf_icmp (fun w' hb => ofIcmp_any tos id ttl src dst keep so _ zd w' hB ((hI.below hb).mono hb.size) (by omega))
  by_cases h47 : proto = 47
  · subst h47
    exact of_gen 47 0 (getAt2 zd 6) (pge 47 zd) _ _ tos id ttl src dst keep so ad zd.length cd w (fun _ _ h => look_gre h) cf_gre (fun w' hb => ofGre_any tos id ttl 47 src dst keep so _ zd w' (hT.below hb hT.pos) hB ((hI.below hb).mono hb.size) hl hsr hds)
  have he : ofe proto src dst zd = 12 := by unfold ofe; rw [if_neg h6, if_neg h17, if_neg h1, if_neg h47]
  rw [he]
  exact of_other proto tos id ttl src dst keep so ad zd.length cd w ⟨h6, h17, h1, h47⟩

set_option maxHeartbeats 4000000 in
theorem rof_tcp (tos id ttl src dst : Int) (keep : Bool) (so sd : Value) (zd : List Int) (w : World) (hB : Mt.By zd) (hI : Rd w.heap.size w sd zd) (hl : 12 + zd.length ≤ 1099511627776) (hsr : 0 ≤ src ∧ src ≤ 4294967295) (hds : 0 ≤ dst ∧ dst ≤ 4294967295) :
    Calls Tryd.prog 10 #[.agg #[.int .u8 tos, .int .u16 id, .bool keep, .int .u8 ttl, .int .u8 6, .int .u32 src, .int .u32 dst, so, sd]] w fun e w' => Below w.heap.size w w' ∧ e = .returned (.tuple #[otv (ofe 6 src dst zd) 6 src dst (ofa 6 zd) (ofb 6 zd), .int .i64 (ofe 6 src dst zd)]) := by
  rw [show ofe 6 src dst zd = pte 6 src dst zd from rfl,show ofa 6 zd = wat zd 0 from rfl,show ofb 6 zd = wat zd 2 from rfl]
  obtain ⟨ad, cd, rfl, _, _⟩ := hI.slice
  have hb0 : Below w.heap.size w (((w.alloc (.cells #[.int .u8 tos, .int .u16 id, .bool keep, .int .u8 ttl, .int .u8 6, .int .u32 src, .int .u32 dst, so, .slice ad zd.length cd] 26)).alloc (.cells #[.int .u8 0, .int .u32 0, .int .u32 0, .int .u16 0, .int .u16 0] 28)).alloc (.cells #[.int .u8 6, .int .u32 src, .int .u32 dst, .int .u16 0, .int .u16 0] 28)) := ((((Below.refl _ _).alloc (Nat.le_refl _) _).alloc (by simp) _).alloc (by simp <;> omega) _)
  have r0 : (((w.alloc (.cells #[.int .u8 tos, .int .u16 id, .bool keep, .int .u8 ttl, .int .u8 6, .int .u32 src, .int .u32 dst, so, .slice ad zd.length cd] 26)).alloc (.cells #[.int .u8 0, .int .u32 0, .int .u32 0, .int .u16 0, .int .u16 0] 28)).alloc (.cells #[.int .u8 6, .int .u32 src, .int .u32 dst, .int .u16 0, .int .u16 0] 28)).heap[w.heap.size + 1]? = some (.cells #[.int .u8 0, .int .u32 0, .int .u32 0, .int .u16 0, .int .u16 0] 28) := by
    have := heap_alloc_new (w.alloc (.cells #[.int .u8 tos, .int .u16 id, .bool keep, .int .u8 ttl, .int .u8 6, .int .u32 src, .int .u32 dst, so, .slice ad zd.length cd] 26)) (.cells #[.int .u8 0, .int .u32 0, .int .u32 0, .int .u16 0, .int .u16 0] 28)
    rw [World.size_alloc] at this
    exact (Below.heap_alloc _ _ _ (by simp)).trans this
  have t0 : (((w.alloc (.cells #[.int .u8 tos, .int .u16 id, .bool keep, .int .u8 ttl, .int .u8 6, .int .u32 src, .int .u32 dst, so, .slice ad zd.length cd] 26)).alloc (.cells #[.int .u8 0, .int .u32 0, .int .u32 0, .int .u16 0, .int .u16 0] 28)).alloc (.cells #[.int .u8 6, .int .u32 src, .int .u32 dst, .int .u16 0, .int .u16 0] 28)).heap[w.heap.size + 1 + 1]? = some (.cells #[.int .u8 6, .int .u32 src, .int .u32 dst, .int .u16 0, .int .u16 0] 28) := by
    have := heap_alloc_new ((w.alloc (.cells #[.int .u8 tos, .int .u16 id, .bool keep, .int .u8 ttl, .int .u8 6, .int .u32 src, .int .u32 dst, so, .slice ad zd.length cd] 26)).alloc (.cells #[.int .u8 0, .int .u32 0, .int .u32 0, .int .u16 0, .int .u16 0] 28)) (.cells #[.int .u8 6, .int .u32 src, .int .u32 dst, .int .u16 0, .int .u16 0] 28)
    simpa only [World.size_alloc] using this
  have R0 := hide r0
  have T0 := hide t0
  clear r0 t0
  go_enter Tryd.func10, Tryd.ntmps10
  go_wp2_with fail
  generalize (((w.alloc (.cells #[.int .u8 tos, .int .u16 id, .bool keep, .int .u8 ttl, .int .u8 6, .int .u32 src, .int .u32 dst, so, .slice ad zd.length cd] 26)).alloc (.cells #[.int .u8 0, .int .u32 0, .int .u32 0, .int .u16 0, .int .u16 0] 28)).alloc (.cells #[.int .u8 6, .int .u32 src, .int .u32 dst, .int .u16 0, .int .u16 0] 28)) = w0 at *
  refine (rparseTcp_any tos id ttl 6 src dst keep _ _ zd w0 hB ((hI.below hb0).mono hb0.size) hl hsr hds).mono ?_
  rintro e w1 ⟨hb1, ⟨hf, rfl⟩ | ⟨hf, os, aO, cO, a1, c1, _, rfl, hO, _⟩⟩
  · rw [show zsg.toArray = #[.int .u16 0, .int .u16 0, .int .u32 0, .int .u32 0, .int .u8 0, .int .u16 0, .int .u16 0, .slice none 0 0, .slice none 0 0] from rfl]
    generalize hpu : pte 6 src dst zd = f at *
    have HPU := hide hpu
    have HF := hide hf
    clear hf hpu
    have lq : Later w1 (w1.alloc (.cells #[.int .u16 0, .int .u16 0, .int .u32 0, .int .u32 0, .int .u8 0, .int .u16 0, .int .u16 0, .slice none 0 0, .slice none 0 0] 42)) := (Below.refl _ _).alloc (Nat.le_refl _) _
    have l1 := Later.trans hb1 lq
    have rX := later_keep l1 R0.out
    have hwX := hb0.trans (l1.mono hb0.size)
    have kX := block_cell rX
    have fX := block_frozen rX
    have hne : (f != 0) = true := by simp [HF.out]
    go_wp2_with fail
    generalize w1.alloc (.cells #[.int .u16 0, .int .u16 0, .int .u32 0, .int .u32 0, .int .u8 0, .int .u16 0, .int .u16 0, .slice none 0 0, .slice none 0 0] 42) = W at *
    generalize hV : ((((W.setCell ⟨w.heap.size + 1, 0, none⟩ _).setCell ⟨w.heap.size + 1, 1, none⟩ _).setCell ⟨w.heap.size + 1, 2, none⟩ _).setCell ⟨w.heap.size + 1, 3, none⟩ _).setCell ⟨w.heap.size + 1, 4, none⟩ _ = VV
    have hV8 : VV = putRow W (w.heap.size + 1) 0 [.int .u8 0, .int .u32 0, .int .u32 0, .int .u16 0, .int .u16 0] := hV.symm
    have hbV : But (fun b => b = w.heap.size + 1) W VV := by rw [hV8]; exact putRow_but (E := fun b => b = w.heap.size + 1) (n := w.heap.size + 1) rfl _ _ _ _ (But.refl _ _)
    have pV := putRow_all ([.int .u8 0, .int .u32 0, .int .u32 0, .int .u16 0, .int .u16 0] : List Value) rX rfl
    rw [← hV8] at pV
    clear hV hV8 kX fX
    have PV := block_cell pV
    have hwV : Below w.heap.size w VV := hwX.trans (hbV.below hwX.size (fun k hk e => by omega))
    exact bodyPost_ret (v := .tuple #[.agg #[.int .u8 0, .int .u32 0, .int .u32 0, .int .u16 0, .int .u16 0], .int .i64 f]) (by simp [results, Tryd.results10, go_sem, PV]) rfl ⟨hwV, by rw [HPU.out, otv_no HF.out]⟩
  · have HF := hide hf
    clear hf
    have lq : Later w1 (w1.alloc (.cells #[.int .u16 (wat zd 0), .int .u16 (wat zd 2), .int .u32 (wat4 zd 4), .int .u32 (wat4 zd 8), .int .u8 (zd[13]?.getD 0), .int .u16 (wat zd 14), .int .u16 (wat zd 18), .slice aO os.length cO, .slice a1 (zd.length - (thd zd).toNat) c1] 42)) := (Below.refl _ _).alloc (Nat.le_refl _) _
    have l1 := Later.trans hb1 lq
    have sX := heap_alloc_new w1 (.cells #[.int .u16 (wat zd 0), .int .u16 (wat zd 2), .int .u32 (wat4 zd 4), .int .u32 (wat4 zd 8), .int .u8 (zd[13]?.getD 0), .int .u16 (wat zd 14), .int .u16 (wat zd 18), .slice aO os.length cO, .slice a1 (zd.length - (thd zd).toNat) c1] 42)
    have rX0 := later_keep l1 R0.out
    have tX0 := later_keep l1 T0.out
    have hw2 := hb0.trans (l1.mono hb0.size)
    have hlt : w.heap.size + 1 + 1 < w1.heap.size := Nat.lt_of_lt_of_le (Array.getElem?_eq_some_iff.1 T0.out).1 hb1.size
    go_upto_region 8 with fail
    generalize w1.alloc (.cells #[.int .u16 (wat zd 0), .int .u16 (wat zd 2), .int .u32 (wat4 zd 4), .int .u32 (wat4 zd 8), .int .u8 (zd[13]?.getD 0), .int .u16 (wat zd 14), .int .u16 (wat zd 18), .slice aO os.length cO, .slice a1 (zd.length - (thd zd).toNat) c1] 42) = W at *
    have hbz := hlt
    generalize w1.heap.size = g at *
    refine anyT_begin (R := But (fun b => b = w.heap.size + 1 + 1)) 8 rfl (by kernel_rfl) ?_
    have ld : Later W W.drew := Later.drew W
    have sd := later_keep ld sX
    have td := later_keep ld tX0
    generalize W.drew = Wd at *
    have ha : ∀ v1, But (fun b => b = w.heap.size + 1 + 1) Wd v1 → ∀ i, v1.cell? ⟨g, i, none⟩ = #[Value.int .u16 (wat zd 0), .int .u16 (wat zd 2), .int .u32 (wat4 zd 4), .int .u32 (wat4 zd 8), .int .u8 (zd[13]?.getD 0), .int .u16 (wat zd 14), .int .u16 (wat zd 18), .slice aO os.length cO, .slice a1 (zd.length - (thd zd).toNat) c1][i]? := fun v1 h => block_cell ((h.block g (Array.getElem?_eq_some_iff.1 sd).1 (by omega)).trans sd)
    refine anyT_val (But.pre _) 0 rfl (by kernel_rfl) (by kernel_rfl) (by kernel_rfl) (fun _ _ _ _ h => h) rfl ?_; apply Exists.intro; refine ⟨fun v1 hv1 => ?_, ?_⟩; (· (go_simp; rfl)); simp only [Act.put, List.setIfInBounds_toArray, List.set_cons_zero, List.set_cons_succ]
    refine anyT_val (But.pre _) 1 rfl (by kernel_rfl) (by kernel_rfl) (by kernel_rfl) (fun _ _ _ _ h => h) rfl ?_; apply Exists.intro; refine ⟨fun v1 hv1 => ?_, ?_⟩; (· (go_simp; rfl)); simp only [Act.put, List.setIfInBounds_toArray, List.set_cons_zero, List.set_cons_succ]
    refine anyT_val (But.pre _) 2 rfl (by kernel_rfl) (by kernel_rfl) (by kernel_rfl) (fun _ _ _ _ h => h) rfl ?_; apply Exists.intro; refine ⟨fun v1 hv1 => ?_, ?_⟩; (· (go_simp; rfl)); simp only [Act.put, List.setIfInBounds_toArray, List.set_cons_zero, List.set_cons_succ]
    refine anyT_val (But.pre _) 3 rfl (by kernel_rfl) (by kernel_rfl) (by kernel_rfl) (fun _ _ _ _ h => h) rfl ?_; apply Exists.intro; refine ⟨fun v1 hv1 => ?_, ?_⟩; (· (go_simp; rfl)); simp only [Act.put, List.setIfInBounds_toArray, List.set_cons_zero, List.set_cons_succ]
    clear ha
    refine anyT_val (But.pre _) 4 rfl (by kernel_rfl) (by kernel_rfl) (by kernel_rfl) (fun _ _ _ _ h => h) rfl ?_; apply Exists.intro; refine ⟨fun v1 hv1 => ?_, ?_⟩; (· (go_simp; rfl)); simp only [Act.put, List.setIfInBounds_toArray, List.set_cons_zero, List.set_cons_succ]
    have kx := block_cell td
    have fx := block_frozen td
    refine anyT_one 5 rfl (by kernel_rfl) rfl ?_
    unfold Oper.wp
    go_simp
    generalize hV : Wd.setCell ⟨w.heap.size + 1 + 1, 3, none⟩ _ = V
    have pV := heap_set1 td 3 (.int .u16 (wat zd 0))
    rw [hV] at pV
    have hbV : But (fun b => b = w.heap.size + 1 + 1) Wd V := by rw [← hV]; exact (But.refl (fun b => b = w.heap.size + 1 + 1) _).setCell (p := ⟨w.heap.size + 1 + 1, 3, none⟩) rfl _
    refine ⟨hbV, ?_⟩
    clear hV kx fx
    simp only [List.setIfInBounds_toArray, List.set_cons_zero, List.set_cons_succ] at pV
    refine anyT_val (But.pre _) 6 rfl (by kernel_rfl) (by kernel_rfl) (by kernel_rfl) (fun _ _ _ _ h => h) rfl ?_; apply Exists.intro; refine ⟨fun v1 hv1 => ?_, ?_⟩; (· (go_simp; rfl)); simp only [Act.put, List.setIfInBounds_toArray, List.set_cons_zero, List.set_cons_succ]
    have kx := block_cell pV
    have fx := block_frozen pV
    refine anyT_one 7 rfl (by kernel_rfl) rfl ?_
    unfold Oper.wp
    go_simp
    generalize hU : V.setCell ⟨w.heap.size + 1 + 1, 4, none⟩ _ = U
    have pU := heap_set1 pV 4 (.int .u16 (wat zd 2))
    rw [hU] at pU
    have hbU : But (fun b => b = w.heap.size + 1 + 1) V U := by rw [← hU]; exact (But.refl (fun b => b = w.heap.size + 1 + 1) _).setCell (p := ⟨w.heap.size + 1 + 1, 4, none⟩) rfl _
    refine ⟨hbU, ?_⟩
    clear hU kx fx
    simp only [List.setIfInBounds_toArray, List.set_cons_zero, List.set_cons_succ] at pU
    refine anyT_done (by kernel_rfl) ?_
    have hfin : But (fun b => b = w.heap.size + 1 + 1) W U := (But.of ld).trans (hbV.trans hbU)
    have hsY := (Array.getElem?_eq_some_iff.1 rX0).1
    have rX := (hfin.block (w.heap.size + 1) hsY (by omega)).trans rX0
    have hwX := hw2.trans (hfin.below hw2.size (fun k hk e => by omega))
    have kt := block_cell pU
    have kX := block_cell rX
    have fX := block_frozen rX
    go_wp2_with fail
    generalize hV : ((((U.setCell ⟨w.heap.size + 1, 0, none⟩ _).setCell ⟨w.heap.size + 1, 1, none⟩ _).setCell ⟨w.heap.size + 1, 2, none⟩ _).setCell ⟨w.heap.size + 1, 3, none⟩ _).setCell ⟨w.heap.size + 1, 4, none⟩ _ = VV
    have hV8 : VV = putRow U (w.heap.size + 1) 0 [.int .u8 6, .int .u32 src, .int .u32 dst, .int .u16 (wat zd 0), .int .u16 (wat zd 2)] := hV.symm
    have hbV : But (fun b => b = w.heap.size + 1) U VV := by rw [hV8]; exact putRow_but (E := fun b => b = w.heap.size + 1) (n := w.heap.size + 1) rfl _ _ _ _ (But.refl _ _)
    have pV := putRow_all ([.int .u8 6, .int .u32 src, .int .u32 dst, .int .u16 (wat zd 0), .int .u16 (wat zd 2)] : List Value) rX rfl
    rw [← hV8] at pV
    clear hV hV8 kX fX
    have PV := block_cell pV
    have hwV : Below w.heap.size w VV := hwX.trans (hbV.below hwX.size (fun k hk e => by omega))
    exact bodyPost_ret (v := .tuple #[.agg #[.int .u8 6, .int .u32 src, .int .u32 dst, .int .u16 (wat zd 0), .int .u16 (wat zd 2)], .int .i64 0]) (by simp [results, Tryd.results10, go_sem, PV]) rfl ⟨hwV, by rw [HF.out]; rfl⟩

set_option maxHeartbeats 4000000 in
theorem rof_udp (tos id ttl src dst : Int) (keep : Bool) (so sd : Value) (zd : List Int) (w : World) (hB : Mt.By zd) (hI : Rd w.heap.size w sd zd) (hl : 12 + zd.length ≤ 1099511627776) (hsr : 0 ≤ src ∧ src ≤ 4294967295) (hds : 0 ≤ dst ∧ dst ≤ 4294967295) :
    Calls Tryd.prog 10 #[.agg #[.int .u8 tos, .int .u16 id, .bool keep, .int .u8 ttl, .int .u8 17, .int .u32 src, .int .u32 dst, so, sd]] w fun e w' => Below w.heap.size w w' ∧ e = .returned (.tuple #[otv (ofe 17 src dst zd) 17 src dst (ofa 17 zd) (ofb 17 zd), .int .i64 (ofe 17 src dst zd)]) := by
  rw [show ofe 17 src dst zd = pue 17 src dst zd from rfl,show ofa 17 zd = wat zd 0 from rfl,show ofb 17 zd = wat zd 2 from rfl]
  obtain ⟨ad, cd, rfl, _, _⟩ := hI.slice
  have hb0 : Below w.heap.size w (((w.alloc (.cells #[.int .u8 tos, .int .u16 id, .bool keep, .int .u8 ttl, .int .u8 17, .int .u32 src, .int .u32 dst, so, .slice ad zd.length cd] 26)).alloc (.cells #[.int .u8 0, .int .u32 0, .int .u32 0, .int .u16 0, .int .u16 0] 28)).alloc (.cells #[.int .u8 17, .int .u32 src, .int .u32 dst, .int .u16 0, .int .u16 0] 28)) := ((((Below.refl _ _).alloc (Nat.le_refl _) _).alloc (by simp) _).alloc (by simp <;> omega) _)
  have r0 : (((w.alloc (.cells #[.int .u8 tos, .int .u16 id, .bool keep, .int .u8 ttl, .int .u8 17, .int .u32 src, .int .u32 dst, so, .slice ad zd.length cd] 26)).alloc (.cells #[.int .u8 0, .int .u32 0, .int .u32 0, .int .u16 0, .int .u16 0] 28)).alloc (.cells #[.int .u8 17, .int .u32 src, .int .u32 dst, .int .u16 0, .int .u16 0] 28)).heap[w.heap.size + 1]? = some (.cells #[.int .u8 0, .int .u32 0, .int .u32 0, .int .u16 0, .int .u16 0] 28) := by
    have := heap_alloc_new (w.alloc (.cells #[.int .u8 tos, .int .u16 id, .bool keep, .int .u8 ttl, .int .u8 17, .int .u32 src, .int .u32 dst, so, .slice ad zd.length cd] 26)) (.cells #[.int .u8 0, .int .u32 0, .int .u32 0, .int .u16 0, .int .u16 0] 28)
    rw [World.size_alloc] at this
    exact (Below.heap_alloc _ _ _ (by simp)).trans this
  have t0 : (((w.alloc (.cells #[.int .u8 tos, .int .u16 id, .bool keep, .int .u8 ttl, .int .u8 17, .int .u32 src, .int .u32 dst, so, .slice ad zd.length cd] 26)).alloc (.cells #[.int .u8 0, .int .u32 0, .int .u32 0, .int .u16 0, .int .u16 0] 28)).alloc (.cells #[.int .u8 17, .int .u32 src, .int .u32 dst, .int .u16 0, .int .u16 0] 28)).heap[w.heap.size + 1 + 1]? = some (.cells #[.int .u8 17, .int .u32 src, .int .u32 dst, .int .u16 0, .int .u16 0] 28) := by
    have := heap_alloc_new ((w.alloc (.cells #[.int .u8 tos, .int .u16 id, .bool keep, .int .u8 ttl, .int .u8 17, .int .u32 src, .int .u32 dst, so, .slice ad zd.length cd] 26)).alloc (.cells #[.int .u8 0, .int .u32 0, .int .u32 0, .int .u16 0, .int .u16 0] 28)) (.cells #[.int .u8 17, .int .u32 src, .int .u32 dst, .int .u16 0, .int .u16 0] 28)
    simpa only [World.size_alloc] using this
  have R0 := hide r0
  have T0 := hide t0
  clear r0 t0
  go_enter Tryd.func10, Tryd.ntmps10
  go_wp2_with fail
  generalize (((w.alloc (.cells #[.int .u8 tos, .int .u16 id, .bool keep, .int .u8 ttl, .int .u8 17, .int .u32 src, .int .u32 dst, so, .slice ad zd.length cd] 26)).alloc (.cells #[.int .u8 0, .int .u32 0, .int .u32 0, .int .u16 0, .int .u16 0] 28)).alloc (.cells #[.int .u8 17, .int .u32 src, .int .u32 dst, .int .u16 0, .int .u16 0] 28)) = w0 at *
  refine (rparseUdp_any tos id ttl 17 src dst keep _ _ zd w0 hB ((hI.below hb0).mono hb0.size) (by omega) hsr hds).mono ?_
  rintro e w1 ⟨hb1, ⟨hf, rfl⟩ | ⟨hf, a1, c1, rfl, hO⟩⟩
  · rw [show zud.toArray = #[.int .u16 0, .int .u16 0, .bool false, .slice none 0 0] from rfl]
    generalize hpu : pue 17 src dst zd = f at *
    have HPU := hide hpu
    have HF := hide hf
    clear hf hpu
    have lq : Later w1 (w1.alloc (.cells #[.int .u16 0, .int .u16 0, .bool false, .slice none 0 0] 45)) := (Below.refl _ _).alloc (Nat.le_refl _) _
    have l1 := Later.trans hb1 lq
    have rX := later_keep l1 R0.out
    have hwX := hb0.trans (l1.mono hb0.size)
    have kX := block_cell rX
    have fX := block_frozen rX
    have hne : (f != 0) = true := by simp [HF.out]
    go_wp2_with fail
    generalize w1.alloc (.cells #[.int .u16 0, .int .u16 0, .bool false, .slice none 0 0] 45) = W at *
    generalize hV : ((((W.setCell ⟨w.heap.size + 1, 0, none⟩ _).setCell ⟨w.heap.size + 1, 1, none⟩ _).setCell ⟨w.heap.size + 1, 2, none⟩ _).setCell ⟨w.heap.size + 1, 3, none⟩ _).setCell ⟨w.heap.size + 1, 4, none⟩ _ = VV
    have hV8 : VV = putRow W (w.heap.size + 1) 0 [.int .u8 0, .int .u32 0, .int .u32 0, .int .u16 0, .int .u16 0] := hV.symm
    have hbV : But (fun b => b = w.heap.size + 1) W VV := by rw [hV8]; exact putRow_but (E := fun b => b = w.heap.size + 1) (n := w.heap.size + 1) rfl _ _ _ _ (But.refl _ _)
    have pV := putRow_all ([.int .u8 0, .int .u32 0, .int .u32 0, .int .u16 0, .int .u16 0] : List Value) rX rfl
    rw [← hV8] at pV
    clear hV hV8 kX fX
    have PV := block_cell pV
    have hwV : Below w.heap.size w VV := hwX.trans (hbV.below hwX.size (fun k hk e => by omega))
    exact bodyPost_ret (v := .tuple #[.agg #[.int .u8 0, .int .u32 0, .int .u32 0, .int .u16 0, .int .u16 0], .int .i64 f]) (by simp [results, Tryd.results10, go_sem, PV]) rfl ⟨hwV, by rw [HPU.out, otv_no HF.out]⟩
  · have HF := hide hf
    clear hf
    have lq : Later w1 (w1.alloc (.cells #[.int .u16 (wat zd 0), .int .u16 (wat zd 2), .bool (wat zd 6 == 0), .slice a1 (zd.length - 8) c1] 45)) := (Below.refl _ _).alloc (Nat.le_refl _) _
    have l1 := Later.trans hb1 lq
    have sX := heap_alloc_new w1 (.cells #[.int .u16 (wat zd 0), .int .u16 (wat zd 2), .bool (wat zd 6 == 0), .slice a1 (zd.length - 8) c1] 45)
    have rX0 := later_keep l1 R0.out
    have tX0 := later_keep l1 T0.out
    have hw2 := hb0.trans (l1.mono hb0.size)
    have hlt : w.heap.size + 1 + 1 < w1.heap.size := Nat.lt_of_lt_of_le (Array.getElem?_eq_some_iff.1 T0.out).1 hb1.size
    go_upto_region 13 with fail
    generalize w1.alloc (.cells #[.int .u16 (wat zd 0), .int .u16 (wat zd 2), .bool (wat zd 6 == 0), .slice a1 (zd.length - 8) c1] 45) = W at *
    have hbz := hlt
    generalize w1.heap.size = g at *
    refine anyT_begin (R := But (fun b => b = w.heap.size + 1 + 1)) 8 rfl (by kernel_rfl) ?_
    have ld : Later W W.drew := Later.drew W
    have sd := later_keep ld sX
    have td := later_keep ld tX0
    generalize W.drew = Wd at *
    have ha : ∀ v1, But (fun b => b = w.heap.size + 1 + 1) Wd v1 → ∀ i, v1.cell? ⟨g, i, none⟩ = #[Value.int .u16 (wat zd 0), .int .u16 (wat zd 2), .bool (wat zd 6 == 0), .slice a1 (zd.length - 8) c1][i]? := fun v1 h => block_cell ((h.block g (Array.getElem?_eq_some_iff.1 sd).1 (by omega)).trans sd)
    refine anyT_val (But.pre _) 0 rfl (by kernel_rfl) (by kernel_rfl) (by kernel_rfl) (fun _ _ _ _ h => h) rfl ?_; apply Exists.intro; refine ⟨fun v1 hv1 => ?_, ?_⟩; (· (go_simp; rfl)); simp only [Act.put, List.setIfInBounds_toArray, List.set_cons_zero, List.set_cons_succ]
    refine anyT_val (But.pre _) 1 rfl (by kernel_rfl) (by kernel_rfl) (by kernel_rfl) (fun _ _ _ _ h => h) rfl ?_; apply Exists.intro; refine ⟨fun v1 hv1 => ?_, ?_⟩; (· (go_simp; rfl)); simp only [Act.put, List.setIfInBounds_toArray, List.set_cons_zero, List.set_cons_succ]
    refine anyT_val (But.pre _) 2 rfl (by kernel_rfl) (by kernel_rfl) (by kernel_rfl) (fun _ _ _ _ h => h) rfl ?_; apply Exists.intro; refine ⟨fun v1 hv1 => ?_, ?_⟩; (· (go_simp; rfl)); simp only [Act.put, List.setIfInBounds_toArray, List.set_cons_zero, List.set_cons_succ]
    refine anyT_val (But.pre _) 3 rfl (by kernel_rfl) (by kernel_rfl) (by kernel_rfl) (fun _ _ _ _ h => h) rfl ?_; apply Exists.intro; refine ⟨fun v1 hv1 => ?_, ?_⟩; (· (go_simp; rfl)); simp only [Act.put, List.setIfInBounds_toArray, List.set_cons_zero, List.set_cons_succ]
    clear ha
    refine anyT_val (But.pre _) 4 rfl (by kernel_rfl) (by kernel_rfl) (by kernel_rfl) (fun _ _ _ _ h => h) rfl ?_; apply Exists.intro; refine ⟨fun v1 hv1 => ?_, ?_⟩; (· (go_simp; rfl)); simp only [Act.put, List.setIfInBounds_toArray, List.set_cons_zero, List.set_cons_succ]
    have kx := block_cell td
    have fx := block_frozen td
    refine anyT_one 5 rfl (by kernel_rfl) rfl ?_
    unfold Oper.wp
    go_simp
    generalize hV : Wd.setCell ⟨w.heap.size + 1 + 1, 3, none⟩ _ = V
    have pV := heap_set1 td 3 (.int .u16 (wat zd 0))
    rw [hV] at pV
    have hbV : But (fun b => b = w.heap.size + 1 + 1) Wd V := by rw [← hV]; exact (But.refl (fun b => b = w.heap.size + 1 + 1) _).setCell (p := ⟨w.heap.size + 1 + 1, 3, none⟩) rfl _
    refine ⟨hbV, ?_⟩
    clear hV kx fx
    simp only [List.setIfInBounds_toArray, List.set_cons_zero, List.set_cons_succ] at pV
    refine anyT_val (But.pre _) 6 rfl (by kernel_rfl) (by kernel_rfl) (by kernel_rfl) (fun _ _ _ _ h => h) rfl ?_; apply Exists.intro; refine ⟨fun v1 hv1 => ?_, ?_⟩; (· (go_simp; rfl)); simp only [Act.put, List.setIfInBounds_toArray, List.set_cons_zero, List.set_cons_succ]
    have kx := block_cell pV
    have fx := block_frozen pV
    refine anyT_one 7 rfl (by kernel_rfl) rfl ?_
    unfold Oper.wp
    go_simp
    generalize hU : V.setCell ⟨w.heap.size + 1 + 1, 4, none⟩ _ = U
    have pU := heap_set1 pV 4 (.int .u16 (wat zd 2))
    rw [hU] at pU
    have hbU : But (fun b => b = w.heap.size + 1 + 1) V U := by rw [← hU]; exact (But.refl (fun b => b = w.heap.size + 1 + 1) _).setCell (p := ⟨w.heap.size + 1 + 1, 4, none⟩) rfl _
    refine ⟨hbU, ?_⟩
    clear hU kx fx
    simp only [List.setIfInBounds_toArray, List.set_cons_zero, List.set_cons_succ] at pU
    refine anyT_done (by kernel_rfl) ?_
    have hfin : But (fun b => b = w.heap.size + 1 + 1) W U := (But.of ld).trans (hbV.trans hbU)
    have hsY := (Array.getElem?_eq_some_iff.1 rX0).1
    have rX := (hfin.block (w.heap.size + 1) hsY (by omega)).trans rX0
    have hwX := hw2.trans (hfin.below hw2.size (fun k hk e => by omega))
    have kt := block_cell pU
    have kX := block_cell rX
    have fX := block_frozen rX
    go_wp2_with fail
    generalize hV : ((((U.setCell ⟨w.heap.size + 1, 0, none⟩ _).setCell ⟨w.heap.size + 1, 1, none⟩ _).setCell ⟨w.heap.size + 1, 2, none⟩ _).setCell ⟨w.heap.size + 1, 3, none⟩ _).setCell ⟨w.heap.size + 1, 4, none⟩ _ = VV
    have hV8 : VV = putRow U (w.heap.size + 1) 0 [.int .u8 17, .int .u32 src, .int .u32 dst, .int .u16 (wat zd 0), .int .u16 (wat zd 2)] := hV.symm
    have hbV : But (fun b => b = w.heap.size + 1) U VV := by rw [hV8]; exact putRow_but (E := fun b => b = w.heap.size + 1) (n := w.heap.size + 1) rfl _ _ _ _ (But.refl _ _)
    have pV := putRow_all ([.int .u8 17, .int .u32 src, .int .u32 dst, .int .u16 (wat zd 0), .int .u16 (wat zd 2)] : List Value) rX rfl
    rw [← hV8] at pV
    clear hV hV8 kX fX
    have PV := block_cell pV
    have hwV : Below w.heap.size w VV := hwX.trans (hbV.below hwX.size (fun k hk e => by omega))
    exact bodyPost_ret (v := .tuple #[.agg #[.int .u8 17, .int .u32 src, .int .u32 dst, .int .u16 (wat zd 0), .int .u16 (wat zd 2)], .int .i64 0]) (by simp [results, Tryd.results10, go_sem, PV]) rfl ⟨hwV, by rw [HF.out]; rfl⟩

set_option maxHeartbeats 4000000 in
theorem rof_icmp (tos id ttl src dst : Int) (keep : Bool) (so sd : Value) (zd : List Int) (w : World) (hB : Mt.By zd) (hI : Rd w.heap.size w sd zd) (hl : 12 + zd.length ≤ 1099511627776) (hsr : 0 ≤ src ∧ src ≤ 4294967295) (hds : 0 ≤ dst ∧ dst ≤ 4294967295) :
    Calls Tryd.prog 10 #[.agg #[.int .u8 tos, .int .u16 id, .bool keep, .int .u8 ttl, .int .u8 1, .int .u32 src, .int .u32 dst, so, sd]] w fun e w' => Below w.heap.size w w' ∧ e = .returned (.tuple #[otv (ofe 1 src dst zd) 1 src dst (ofa 1 zd) (ofb 1 zd), .int .i64 (ofe 1 src dst zd)]) := by
  rw [show ofe 1 src dst zd = oie zd from rfl,show ofa 1 zd = wat zd 4 from rfl,show ofb 1 zd = wat zd 4 from rfl]
  obtain ⟨ad, cd, rfl, _, _⟩ := hI.slice
  have hb0 : Below w.heap.size w (((w.alloc (.cells #[.int .u8 tos, .int .u16 id, .bool keep, .int .u8 ttl, .int .u8 1, .int .u32 src, .int .u32 dst, so, .slice ad zd.length cd] 26)).alloc (.cells #[.int .u8 0, .int .u32 0, .int .u32 0, .int .u16 0, .int .u16 0] 28)).alloc (.cells #[.int .u8 1, .int .u32 src, .int .u32 dst, .int .u16 0, .int .u16 0] 28)) := ((((Below.refl _ _).alloc (Nat.le_refl _) _).alloc (by simp) _).alloc (by simp <;> omega) _)
  have r0 : (((w.alloc (.cells #[.int .u8 tos, .int .u16 id, .bool keep, .int .u8 ttl, .int .u8 1, .int .u32 src, .int .u32 dst, so, .slice ad zd.length cd] 26)).alloc (.cells #[.int .u8 0, .int .u32 0, .int .u32 0, .int .u16 0, .int .u16 0] 28)).alloc (.cells #[.int .u8 1, .int .u32 src, .int .u32 dst, .int .u16 0, .int .u16 0] 28)).heap[w.heap.size + 1]? = some (.cells #[.int .u8 0, .int .u32 0, .int .u32 0, .int .u16 0, .int .u16 0] 28) := by
    have := heap_alloc_new (w.alloc (.cells #[.int .u8 tos, .int .u16 id, .bool keep, .int .u8 ttl, .int .u8 1, .int .u32 src, .int .u32 dst, so, .slice ad zd.length cd] 26)) (.cells #[.int .u8 0, .int .u32 0, .int .u32 0, .int .u16 0, .int .u16 0] 28)
    rw [World.size_alloc] at this
    exact (Below.heap_alloc _ _ _ (by simp)).trans this
  have t0 : (((w.alloc (.cells #[.int .u8 tos, .int .u16 id, .bool keep, .int .u8 ttl, .int .u8 1, .int .u32 src, .int .u32 dst, so, .slice ad zd.length cd] 26)).alloc (.cells #[.int .u8 0, .int .u32 0, .int .u32 0, .int .u16 0, .int .u16 0] 28)).alloc (.cells #[.int .u8 1, .int .u32 src, .int .u32 dst, .int .u16 0, .int .u16 0] 28)).heap[w.heap.size + 1 + 1]? = some (.cells #[.int .u8 1, .int .u32 src, .int .u32 dst, .int .u16 0, .int .u16 0] 28) := by
    have := heap_alloc_new ((w.alloc (.cells #[.int .u8 tos, .int .u16 id, .bool keep, .int .u8 ttl, .int .u8 1, .int .u32 src, .int .u32 dst, so, .slice ad zd.length cd] 26)).alloc (.cells #[.int .u8 0, .int .u32 0, .int .u32 0, .int .u16 0, .int .u16 0] 28)) (.cells #[.int .u8 1, .int .u32 src, .int .u32 dst, .int .u16 0, .int .u16 0] 28)
    simpa only [World.size_alloc] using this
  have R0 := hide r0
  have T0 := hide t0
  clear r0 t0
  go_enter Tryd.func10, Tryd.ntmps10
  go_wp2_with fail
  generalize (((w.alloc (.cells #[.int .u8 tos, .int .u16 id, .bool keep, .int .u8 ttl, .int .u8 1, .int .u32 src, .int .u32 dst, so, .slice ad zd.length cd] 26)).alloc (.cells #[.int .u8 0, .int .u32 0, .int .u32 0, .int .u16 0, .int .u16 0] 28)).alloc (.cells #[.int .u8 1, .int .u32 src, .int .u32 dst, .int .u16 0, .int .u16 0] 28)) = w0 at *
  refine (rparseIcmp_any tos id ttl 1 src dst keep _ _ zd w0 hB ((hI.below hb0).mono hb0.size) (by omega)).mono ?_
  rintro e w1 ⟨hb1, ⟨hf, rfl⟩ | ⟨hf, a1, c1, rfl, hO⟩⟩
  · rw [show zm.toArray = #[.int .u8 0, .int .u8 0, .int .u32 0, .slice none 0 0] from rfl]
    generalize hpu : pie 1 zd = f at *
    have HPU := hide hpu
    have HF := hide hf
    clear hf hpu
    have lq : Later w1 (w1.alloc (.cells #[.int .u8 0, .int .u8 0, .int .u32 0, .slice none 0 0] 49)) := (Below.refl _ _).alloc (Nat.le_refl _) _
    have l1 := Later.trans hb1 lq
    have rX := later_keep l1 R0.out
    have hwX := hb0.trans (l1.mono hb0.size)
    have kX := block_cell rX
    have fX := block_frozen rX
    have hne : (f != 0) = true := by simp [HF.out]
    go_wp2_with fail
    generalize w1.alloc (.cells #[.int .u8 0, .int .u8 0, .int .u32 0, .slice none 0 0] 49) = W at *
    generalize hV : ((((W.setCell ⟨w.heap.size + 1, 0, none⟩ _).setCell ⟨w.heap.size + 1, 1, none⟩ _).setCell ⟨w.heap.size + 1, 2, none⟩ _).setCell ⟨w.heap.size + 1, 3, none⟩ _).setCell ⟨w.heap.size + 1, 4, none⟩ _ = VV
    have hV8 : VV = putRow W (w.heap.size + 1) 0 [.int .u8 0, .int .u32 0, .int .u32 0, .int .u16 0, .int .u16 0] := hV.symm
    have hbV : But (fun b => b = w.heap.size + 1) W VV := by rw [hV8]; exact putRow_but (E := fun b => b = w.heap.size + 1) (n := w.heap.size + 1) rfl _ _ _ _ (But.refl _ _)
    have pV := putRow_all ([.int .u8 0, .int .u32 0, .int .u32 0, .int .u16 0, .int .u16 0] : List Value) rX rfl
    rw [← hV8] at pV
    clear hV hV8 kX fX
    have PV := block_cell pV
    have hwV : Below w.heap.size w VV := hwX.trans (hbV.below hwX.size (fun k hk e => by omega))
    exact bodyPost_ret (v := .tuple #[.agg #[.int .u8 0, .int .u32 0, .int .u32 0, .int .u16 0, .int .u16 0], .int .i64 f]) (by simp [results, Tryd.results10, go_sem, PV]) rfl ⟨hwV, by rw [show oie zd = f from (if_pos (by rw [HPU.out]; exact HF.out)).trans HPU.out, otv_no HF.out]⟩
  · have HF := hide hf
    clear hf
    have b4 := wat_bd hB 4
    have b6 := wat_bd hB (4 + 2)
    have HW4 : Hid (wat4 zd 4 / 65536 = wat zd 4) := by show _ = _; unfold wat4; omega
    have hW4b : 0 ≤ wat4 zd 4 ∧ wat4 zd 4 ≤ 4294967295 := by unfold wat4; omega
    have lq : Later w1 (w1.alloc (.cells #[.int .u8 (zd[0]?.getD 0), .int .u8 (zd[1]?.getD 0), .int .u32 (wat4 zd 4), .slice a1 (zd.length - 8) c1] 49)) := (Below.refl _ _).alloc (Nat.le_refl _) _
    have l1 := Later.trans hb1 lq
    have sX := heap_alloc_new w1 (.cells #[.int .u8 (zd[0]?.getD 0), .int .u8 (zd[1]?.getD 0), .int .u32 (wat4 zd 4), .slice a1 (zd.length - 8) c1] 49)
    have rX0 := later_keep l1 R0.out
    have tX0 := later_keep l1 T0.out
    have hw2 := hb0.trans (l1.mono hb0.size)
    have hlt : w.heap.size + 1 + 1 < w1.heap.size := Nat.lt_of_lt_of_le (Array.getElem?_eq_some_iff.1 T0.out).1 hb1.size
    go_wp2_with fail
    generalize w1.alloc (.cells #[.int .u8 (zd[0]?.getD 0), .int .u8 (zd[1]?.getD 0), .int .u32 (wat4 zd 4), .slice a1 (zd.length - 8) c1] 49) = W at *
    generalize w1.heap.size = g at *
    refine (risEcho_any (zd[0]?.getD 0) (zd[1]?.getD 0) (wat4 zd 4) _ W).mono ?_
    rintro e w2 ⟨rfl, hb2⟩
    have l2 : Later W w2 := hb2
    have s2 := later_keep l2 sX
    have rX1 := later_keep l2 rX0
    have tX1 := later_keep l2 tX0
    have hw3 := hw2.trans (l2.mono hw2.size)
    have HE : Hid (ecb (zd[0]?.getD 0) (zd[1]?.getD 0) = ((zd[0]?.getD 0 == 8 || zd[0]?.getD 0 == 0) && zd[1]?.getD 0 == 0)) := rfl
    generalize ((zd[0]?.getD 0 == 8 || zd[0]?.getD 0 == 0) && zd[1]?.getD 0 == 0) = bq at *
    cases bq with
    | true =>
      have HOE : Hid (oie zd = 0) := by show _ = _; unfold oie; rw [if_neg (fun h => h HF.out), if_pos HE.out]
      have ks := block_cell s2
      have kt := block_cell tX1
      have ft := block_frozen tX1
      go_upto_region 21 with fail
      rw [HW4.out]
      have t3 := heap_set1 tX1 3 (.int .u16 (wat zd 4))
      generalize hV : w2.setCell ⟨w.heap.size + 1 + 1, 3, none⟩ _ = Y at *
      have hbV : But (fun b => b = w.heap.size + 1 + 1) w2 Y := by rw [← hV]; exact (But.refl (fun b => b = w.heap.size + 1 + 1) _).setCell (p := ⟨w.heap.size + 1 + 1, 3, none⟩) rfl _
      clear hV ks kt ft
      simp only [List.setIfInBounds_toArray, List.set_cons_zero, List.set_cons_succ] at t3
      have kt := block_cell t3
      have ft := block_frozen t3
      go_upto_region 27 with fail
      have t4 := heap_set1 t3 4 (.int .u16 (wat zd 4))
      generalize hU : Y.setCell ⟨w.heap.size + 1 + 1, 4, none⟩ _ = Z at *
      have hbU : But (fun b => b = w.heap.size + 1 + 1) Y Z := by rw [← hU]; exact (But.refl (fun b => b = w.heap.size + 1 + 1) _).setCell (p := ⟨w.heap.size + 1 + 1, 4, none⟩) rfl _
      clear hU kt ft
      simp only [List.setIfInBounds_toArray, List.set_cons_zero, List.set_cons_succ] at t4
      have hbY := hbV.trans hbU
      have hsY := (Array.getElem?_eq_some_iff.1 rX1).1
      have rX := (hbY.block (w.heap.size + 1) hsY (by omega)).trans rX1
      have hwX := hw3.trans (hbY.below hw3.size (fun k hk e => by omega))
      have kt := block_cell t4
      have kX := block_cell rX
      have fX := block_frozen rX
      go_wp2_with fail
      generalize hV : ((((Z.setCell ⟨w.heap.size + 1, 0, none⟩ _).setCell ⟨w.heap.size + 1, 1, none⟩ _).setCell ⟨w.heap.size + 1, 2, none⟩ _).setCell ⟨w.heap.size + 1, 3, none⟩ _).setCell ⟨w.heap.size + 1, 4, none⟩ _ = VV
      have hV8 : VV = putRow Z (w.heap.size + 1) 0 [.int .u8 1, .int .u32 src, .int .u32 dst, .int .u16 (wat zd 4), .int .u16 (wat zd 4)] := hV.symm
      have hbV : But (fun b => b = w.heap.size + 1) Z VV := by rw [hV8]; exact putRow_but (E := fun b => b = w.heap.size + 1) (n := w.heap.size + 1) rfl _ _ _ _ (But.refl _ _)
      have pV := putRow_all ([.int .u8 1, .int .u32 src, .int .u32 dst, .int .u16 (wat zd 4), .int .u16 (wat zd 4)] : List Value) rX rfl
      rw [← hV8] at pV
      clear hV hV8 kX fX
      have PV := block_cell pV
      have hwV : Below w.heap.size w VV := hwX.trans (hbV.below hwX.size (fun k hk e => by omega))
      exact bodyPost_ret (v := .tuple #[.agg #[.int .u8 1, .int .u32 src, .int .u32 dst, .int .u16 (wat zd 4), .int .u16 (wat zd 4)], .int .i64 0]) (by simp [results, Tryd.results10, go_sem, PV]) rfl ⟨hwV, by rw [HOE.out]; rfl⟩
    | false =>
      have HOE : Hid (oie zd = 12) := by show _ = _; unfold oie; rw [if_neg (fun h => h HF.out), if_neg (by rw [HE.out]; decide)]
      have rX := rX1
      have hwX := hw3
      have kX := block_cell rX
      have fX := block_frozen rX
      go_wp2_with fail
      generalize hV : ((((w2.setCell ⟨w.heap.size + 1, 0, none⟩ _).setCell ⟨w.heap.size + 1, 1, none⟩ _).setCell ⟨w.heap.size + 1, 2, none⟩ _).setCell ⟨w.heap.size + 1, 3, none⟩ _).setCell ⟨w.heap.size + 1, 4, none⟩ _ = VV
      have hV8 : VV = putRow w2 (w.heap.size + 1) 0 [.int .u8 0, .int .u32 0, .int .u32 0, .int .u16 0, .int .u16 0] := hV.symm
      have hbV : But (fun b => b = w.heap.size + 1) w2 VV := by rw [hV8]; exact putRow_but (E := fun b => b = w.heap.size + 1) (n := w.heap.size + 1) rfl _ _ _ _ (But.refl _ _)
      have pV := putRow_all ([.int .u8 0, .int .u32 0, .int .u32 0, .int .u16 0, .int .u16 0] : List Value) rX rfl
      rw [← hV8] at pV
      clear hV hV8 kX fX
      have PV := block_cell pV
      have hwV : Below w.heap.size w VV := hwX.trans (hbV.below hwX.size (fun k hk e => by omega))
      exact bodyPost_ret (v := .tuple #[.agg #[.int .u8 0, .int .u32 0, .int .u32 0, .int .u16 0, .int .u16 0], .int .i64 12]) (by simp [results, Tryd.results10, go_sem, PV]) rfl ⟨hwV, by rw [HOE.out]; rfl⟩

set_option maxHeartbeats 4000000 in
theorem rof_gre (tos id ttl src dst : Int) (keep : Bool) (so sd : Value) (zd : List Int) (w : World) (hB : Mt.By zd) (hI : Rd w.heap.size w sd zd) (hl : 12 + zd.length ≤ 1099511627776) (hsr : 0 ≤ src ∧ src ≤ 4294967295) (hds : 0 ≤ dst ∧ dst ≤ 4294967295) :
    Calls Tryd.prog 10 #[.agg #[.int .u8 tos, .int .u16 id, .bool keep, .int .u8 ttl, .int .u8 47, .int .u32 src, .int .u32 dst, so, sd]] w fun e w' => Below w.heap.size w w' ∧ e = .returned (.tuple #[otv (ofe 47 src dst zd) 47 src dst (ofa 47 zd) (ofb 47 zd), .int .i64 (ofe 47 src dst zd)]) := by
  rw [show ofe 47 src dst zd = pge 47 zd from rfl,show ofa 47 zd = 0 from rfl,show ofb 47 zd = getAt2 zd 6 from rfl]
  obtain ⟨ad, cd, rfl, _, _⟩ := hI.slice
  have hb0 : Below w.heap.size w (((w.alloc (.cells #[.int .u8 tos, .int .u16 id, .bool keep, .int .u8 ttl, .int .u8 47, .int .u32 src, .int .u32 dst, so, .slice ad zd.length cd] 26)).alloc (.cells #[.int .u8 0, .int .u32 0, .int .u32 0, .int .u16 0, .int .u16 0] 28)).alloc (.cells #[.int .u8 47, .int .u32 src, .int .u32 dst, .int .u16 0, .int .u16 0] 28)) := ((((Below.refl _ _).alloc (Nat.le_refl _) _).alloc (by simp) _).alloc (by simp <;> omega) _)
  have r0 : (((w.alloc (.cells #[.int .u8 tos, .int .u16 id, .bool keep, .int .u8 ttl, .int .u8 47, .int .u32 src, .int .u32 dst, so, .slice ad zd.length cd] 26)).alloc (.cells #[.int .u8 0, .int .u32 0, .int .u32 0, .int .u16 0, .int .u16 0] 28)).alloc (.cells #[.int .u8 47, .int .u32 src, .int .u32 dst, .int .u16 0, .int .u16 0] 28)).heap[w.heap.size + 1]? = some (.cells #[.int .u8 0, .int .u32 0, .int .u32 0, .int .u16 0, .int .u16 0] 28) := by
    have := heap_alloc_new (w.alloc (.cells #[.int .u8 tos, .int .u16 id, .bool keep, .int .u8 ttl, .int .u8 47, .int .u32 src, .int .u32 dst, so, .slice ad zd.length cd] 26)) (.cells #[.int .u8 0, .int .u32 0, .int .u32 0, .int .u16 0, .int .u16 0] 28)
    rw [World.size_alloc] at this
    exact (Below.heap_alloc _ _ _ (by simp)).trans this
  have t0 : (((w.alloc (.cells #[.int .u8 tos, .int .u16 id, .bool keep, .int .u8 ttl, .int .u8 47, .int .u32 src, .int .u32 dst, so, .slice ad zd.length cd] 26)).alloc (.cells #[.int .u8 0, .int .u32 0, .int .u32 0, .int .u16 0, .int .u16 0] 28)).alloc (.cells #[.int .u8 47, .int .u32 src, .int .u32 dst, .int .u16 0, .int .u16 0] 28)).heap[w.heap.size + 1 + 1]? = some (.cells #[.int .u8 47, .int .u32 src, .int .u32 dst, .int .u16 0, .int .u16 0] 28) := by
    have := heap_alloc_new ((w.alloc (.cells #[.int .u8 tos, .int .u16 id, .bool keep, .int .u8 ttl, .int .u8 47, .int .u32 src, .int .u32 dst, so, .slice ad zd.length cd] 26)).alloc (.cells #[.int .u8 0, .int .u32 0, .int .u32 0, .int .u16 0, .int .u16 0] 28)) (.cells #[.int .u8 47, .int .u32 src, .int .u32 dst, .int .u16 0, .int .u16 0] 28)
    simpa only [World.size_alloc] using this
  have R0 := hide r0
  have T0 := hide t0
  clear r0 t0
  go_enter Tryd.func10, Tryd.ntmps10
  go_wp2_with fail
  generalize (((w.alloc (.cells #[.int .u8 tos, .int .u16 id, .bool keep, .int .u8 ttl, .int .u8 47, .int .u32 src, .int .u32 dst, so, .slice ad zd.length cd] 26)).alloc (.cells #[.int .u8 0, .int .u32 0, .int .u32 0, .int .u16 0, .int .u16 0] 28)).alloc (.cells #[.int .u8 47, .int .u32 src, .int .u32 dst, .int .u16 0, .int .u16 0] 28)) = w0 at *
  refine (rparseGre_any tos id ttl 47 src dst keep _ _ zd w0 hB ((hI.below hb0).mono hb0.size) (by omega)).mono ?_
  rintro e w1 ⟨hb1, ⟨hf, rfl⟩ | ⟨hf, a1, c1, rfl, hO⟩⟩
  · rw [show zf.toArray = #[.int .u16 0, .bool false, .bool false, .int .u32 0, .int .u32 0, .slice none 0 0] from rfl]
    generalize hpu : pge 47 zd = f at *
    have HPU := hide hpu
    have HF := hide hf
    clear hf hpu
    have lq : Later w1 (w1.alloc (.cells #[.int .u16 0, .bool false, .bool false, .int .u32 0, .int .u32 0, .slice none 0 0] 52)) := (Below.refl _ _).alloc (Nat.le_refl _) _
    have l1 := Later.trans hb1 lq
    have rX := later_keep l1 R0.out
    have hwX := hb0.trans (l1.mono hb0.size)
    have kX := block_cell rX
    have fX := block_frozen rX
    have hne : (f != 0) = true := by simp [HF.out]
    go_wp2_with fail
    generalize w1.alloc (.cells #[.int .u16 0, .bool false, .bool false, .int .u32 0, .int .u32 0, .slice none 0 0] 52) = W at *
    generalize hV : ((((W.setCell ⟨w.heap.size + 1, 0, none⟩ _).setCell ⟨w.heap.size + 1, 1, none⟩ _).setCell ⟨w.heap.size + 1, 2, none⟩ _).setCell ⟨w.heap.size + 1, 3, none⟩ _).setCell ⟨w.heap.size + 1, 4, none⟩ _ = VV
    have hV8 : VV = putRow W (w.heap.size + 1) 0 [.int .u8 0, .int .u32 0, .int .u32 0, .int .u16 0, .int .u16 0] := hV.symm
    have hbV : But (fun b => b = w.heap.size + 1) W VV := by rw [hV8]; exact putRow_but (E := fun b => b = w.heap.size + 1) (n := w.heap.size + 1) rfl _ _ _ _ (But.refl _ _)
    have pV := putRow_all ([.int .u8 0, .int .u32 0, .int .u32 0, .int .u16 0, .int .u16 0] : List Value) rX rfl
    rw [← hV8] at pV
    clear hV hV8 kX fX
    have PV := block_cell pV
    have hwV : Below w.heap.size w VV := hwX.trans (hbV.below hwX.size (fun k hk e => by omega))
    exact bodyPost_ret (v := .tuple #[.agg #[.int .u8 0, .int .u32 0, .int .u32 0, .int .u16 0, .int .u16 0], .int .i64 f]) (by simp [results, Tryd.results10, go_sem, PV]) rfl ⟨hwV, by rw [HPU.out, otv_no HF.out]⟩
  · have HF := hide hf
    clear hf
    have lq : Later w1 (w1.alloc (.cells #[.int .u16 (getAt2 zd 6), .bool (ghs (bgz zd)), .bool (gha (bgz zd)), .int .u32 (gsq (bgz zd) zd), .int .u32 (gak (bgz zd) zd), .slice a1 (zd.length - ghd (bgz zd)) c1] 52)) := (Below.refl _ _).alloc (Nat.le_refl _) _
    have l1 := Later.trans hb1 lq
    have s2 := heap_alloc_new w1 (.cells #[.int .u16 (getAt2 zd 6), .bool (ghs (bgz zd)), .bool (gha (bgz zd)), .int .u32 (gsq (bgz zd) zd), .int .u32 (gak (bgz zd) zd), .slice a1 (zd.length - ghd (bgz zd)) c1] 52)
    have rX1 := later_keep l1 R0.out
    have tX1 := later_keep l1 T0.out
    have hw3 := hb0.trans (l1.mono hb0.size)
    have ks := block_cell s2
    have kt := block_cell tX1
    have ft := block_frozen tX1
    go_upto_region 27 with fail
    generalize w1.alloc (.cells #[.int .u16 (getAt2 zd 6), .bool (ghs (bgz zd)), .bool (gha (bgz zd)), .int .u32 (gsq (bgz zd) zd), .int .u32 (gak (bgz zd) zd), .slice a1 (zd.length - ghd (bgz zd)) c1] 52) = W at *
    have t3 := heap_set1 tX1 4 (.int .u16 (getAt2 zd 6))
    generalize hV : W.setCell ⟨w.heap.size + 1 + 1, 4, none⟩ _ = Y at *
    have hbY : But (fun b => b = w.heap.size + 1 + 1) W Y := by rw [← hV]; exact (But.refl (fun b => b = w.heap.size + 1 + 1) _).setCell (p := ⟨w.heap.size + 1 + 1, 4, none⟩) rfl _
    clear hV ks kt ft
    simp only [List.setIfInBounds_toArray, List.set_cons_zero, List.set_cons_succ] at t3
    have hsY := (Array.getElem?_eq_some_iff.1 rX1).1
    have rX := (hbY.block (w.heap.size + 1) hsY (by omega)).trans rX1
    have hwX := hw3.trans (hbY.below hw3.size (fun k hk e => by omega))
    have kt := block_cell t3
    have kX := block_cell rX
    have fX := block_frozen rX
    go_wp2_with fail
    generalize hV : ((((Y.setCell ⟨w.heap.size + 1, 0, none⟩ _).setCell ⟨w.heap.size + 1, 1, none⟩ _).setCell ⟨w.heap.size + 1, 2, none⟩ _).setCell ⟨w.heap.size + 1, 3, none⟩ _).setCell ⟨w.heap.size + 1, 4, none⟩ _ = VV
    have hV8 : VV = putRow Y (w.heap.size + 1) 0 [.int .u8 47, .int .u32 src, .int .u32 dst, .int .u16 0, .int .u16 (getAt2 zd 6)] := hV.symm
    have hbV : But (fun b => b = w.heap.size + 1) Y VV := by rw [hV8]; exact putRow_but (E := fun b => b = w.heap.size + 1) (n := w.heap.size + 1) rfl _ _ _ _ (But.refl _ _)
    have pV := putRow_all ([.int .u8 47, .int .u32 src, .int .u32 dst, .int .u16 0, .int .u16 (getAt2 zd 6)] : List Value) rX rfl
    rw [← hV8] at pV
    clear hV hV8 kX fX
    have PV := block_cell pV
    have hwV : Below w.heap.size w VV := hwX.trans (hbV.below hwX.size (fun k hk e => by omega))
    exact bodyPost_ret (v := .tuple #[.agg #[.int .u8 47, .int .u32 src, .int .u32 dst, .int .u16 0, .int .u16 (getAt2 zd 6)], .int .i64 0]) (by simp [results, Tryd.results10, go_sem, PV]) rfl ⟨hwV, by rw [HF.out]; rfl⟩

set_option maxHeartbeats 4000000 in
theorem rof_other (pr tos id ttl src dst : Int) (keep : Bool) (so : Value) (ad : Option Addr) (ld cd : Nat) (w : World) (hpr : pr ≠ 6 ∧ pr ≠ 17 ∧ pr ≠ 1 ∧ pr ≠ 47) :
    Calls Tryd.prog 10 #[.agg #[.int .u8 tos, .int .u16 id, .bool keep, .int .u8 ttl, .int .u8 pr, .int .u32 src, .int .u32 dst, so, .slice ad ld cd]] w fun e w' => Below w.heap.size w w' ∧ e = .returned (.tuple #[.agg #[.int .u8 0, .int .u32 0, .int .u32 0, .int .u16 0, .int .u16 0], .int .i64 12]) := by
  have e1 : (pr == 6) = false := by simp [hpr.1]
  have e2 : (pr == 17) = false := by simp [hpr.2.1]
  have e3 : (pr == 1) = false := by simp [hpr.2.2.1]
  have e4 : (pr == 47) = false := by simp [hpr.2.2.2]
  have HPR := hide hpr
  clear hpr
  have hb0 : Below w.heap.size w (((w.alloc (.cells #[.int .u8 tos, .int .u16 id, .bool keep, .int .u8 ttl, .int .u8 pr, .int .u32 src, .int .u32 dst, so, .slice ad ld cd] 26)).alloc (.cells #[.int .u8 0, .int .u32 0, .int .u32 0, .int .u16 0, .int .u16 0] 28)).alloc (.cells #[.int .u8 pr, .int .u32 src, .int .u32 dst, .int .u16 0, .int .u16 0] 28)) := ((((Below.refl _ _).alloc (Nat.le_refl _) _).alloc (by simp) _).alloc (by simp <;> omega) _)
  have r0 : (((w.alloc (.cells #[.int .u8 tos, .int .u16 id, .bool keep, .int .u8 ttl, .int .u8 pr, .int .u32 src, .int .u32 dst, so, .slice ad ld cd] 26)).alloc (.cells #[.int .u8 0, .int .u32 0, .int .u32 0, .int .u16 0, .int .u16 0] 28)).alloc (.cells #[.int .u8 pr, .int .u32 src, .int .u32 dst, .int .u16 0, .int .u16 0] 28)).heap[w.heap.size + 1]? = some (.cells #[.int .u8 0, .int .u32 0, .int .u32 0, .int .u16 0, .int .u16 0] 28) := by
    have := heap_alloc_new (w.alloc (.cells #[.int .u8 tos, .int .u16 id, .bool keep, .int .u8 ttl, .int .u8 pr, .int .u32 src, .int .u32 dst, so, .slice ad ld cd] 26)) (.cells #[.int .u8 0, .int .u32 0, .int .u32 0, .int .u16 0, .int .u16 0] 28)
    rw [World.size_alloc] at this
    exact (Below.heap_alloc _ _ _ (by simp)).trans this
  have t0 : (((w.alloc (.cells #[.int .u8 tos, .int .u16 id, .bool keep, .int .u8 ttl, .int .u8 pr, .int .u32 src, .int .u32 dst, so, .slice ad ld cd] 26)).alloc (.cells #[.int .u8 0, .int .u32 0, .int .u32 0, .int .u16 0, .int .u16 0] 28)).alloc (.cells #[.int .u8 pr, .int .u32 src, .int .u32 dst, .int .u16 0, .int .u16 0] 28)).heap[w.heap.size + 1 + 1]? = some (.cells #[.int .u8 pr, .int .u32 src, .int .u32 dst, .int .u16 0, .int .u16 0] 28) := by
    have := heap_alloc_new ((w.alloc (.cells #[.int .u8 tos, .int .u16 id, .bool keep, .int .u8 ttl, .int .u8 pr, .int .u32 src, .int .u32 dst, so, .slice ad ld cd] 26)).alloc (.cells #[.int .u8 0, .int .u32 0, .int .u32 0, .int .u16 0, .int .u16 0] 28)) (.cells #[.int .u8 pr, .int .u32 src, .int .u32 dst, .int .u16 0, .int .u16 0] 28)
    simpa only [World.size_alloc] using this
  have R0 := hide r0
  have T0 := hide t0
  clear r0 t0
  go_enter Tryd.func10, Tryd.ntmps10
  go_upto_region 3 with fail
  generalize (((w.alloc (.cells #[.int .u8 tos, .int .u16 id, .bool keep, .int .u8 ttl, .int .u8 pr, .int .u32 src, .int .u32 dst, so, .slice ad ld cd] 26)).alloc (.cells #[.int .u8 0, .int .u32 0, .int .u32 0, .int .u16 0, .int .u16 0] 28)).alloc (.cells #[.int .u8 pr, .int .u32 src, .int .u32 dst, .int .u16 0, .int .u16 0] 28)) = w0 at *
  have rX := R0.out
  have hwX := hb0
  have kX := block_cell rX
  have fX := block_frozen rX
  go_wp2_with fail
  generalize hV : ((((w0.setCell ⟨w.heap.size + 1, 0, none⟩ _).setCell ⟨w.heap.size + 1, 1, none⟩ _).setCell ⟨w.heap.size + 1, 2, none⟩ _).setCell ⟨w.heap.size + 1, 3, none⟩ _).setCell ⟨w.heap.size + 1, 4, none⟩ _ = VV
  have hV8 : VV = putRow w0 (w.heap.size + 1) 0 [.int .u8 0, .int .u32 0, .int .u32 0, .int .u16 0, .int .u16 0] := hV.symm
  have hbV : But (fun b => b = w.heap.size + 1) w0 VV := by rw [hV8]; exact putRow_but (E := fun b => b = w.heap.size + 1) (n := w.heap.size + 1) rfl _ _ _ _ (But.refl _ _)
  have pV := putRow_all ([.int .u8 0, .int .u32 0, .int .u32 0, .int .u16 0, .int .u16 0] : List Value) rX rfl
  rw [← hV8] at pV
  clear hV hV8 kX fX
  have PV := block_cell pV
  have hwV : Below w.heap.size w VV := hwX.trans (hbV.below hwX.size (fun k hk e => by omega))
  exact bodyPost_ret (v := .tuple #[.agg #[.int .u8 0, .int .u32 0, .int .u32 0, .int .u16 0, .int .u16 0], .int .i64 12]) (by simp [results, Tryd.results10, go_sem, PV]) rfl ⟨hwV, rfl⟩

theorem rof_any (tos id ttl proto src dst : Int) (keep : Bool) (so sd : Value) (zd : List Int) (w : World) (hB : Mt.By zd) (hI : Rd w.heap.size w sd zd) (hl : 12 + zd.length ≤ 1099511627776) (hsr : 0 ≤ src ∧ src ≤ 4294967295) (hds : 0 ≤ dst ∧ dst ≤ 4294967295) :
    Calls Tryd.prog 10 #[.agg #[.int .u8 tos, .int .u16 id, .bool keep, .int .u8 ttl, .int .u8 proto, .int .u32 src, .int .u32 dst, so, sd]] w fun e w' => Below w.heap.size w w' ∧ e = .returned (.tuple #[otv (ofe proto src dst zd) proto src dst (ofa proto zd) (ofb proto zd), .int .i64 (ofe proto src dst zd)]) := by
  by_cases h6 : proto = 6
  · subst h6; exact rof_tcp tos id ttl src dst keep so sd zd w hB hI hl hsr hds
  by_cases h17 : proto = 17
  · subst h17; exact rof_udp tos id ttl src dst keep so sd zd w hB hI hl hsr hds
  by_cases h1 : proto = 1
  · subst h1; exact rof_icmp tos id ttl src dst keep so sd zd w hB hI hl hsr hds
  by_cases h47 : proto = 47
  · subst h47; exact rof_gre tos id ttl src dst keep so sd zd w hB hI hl hsr hds
  have he : ofe proto src dst zd = 12 := by unfold ofe; rw [if_neg h6, if_neg h17, if_neg h1, if_neg h47]
  rw [he]
  obtain ⟨ad, cd, rfl, _, _⟩ := hI.slice
  exact rof_other proto tos id ttl src dst keep so ad zd.length cd w ⟨h6, h17, h1, h47⟩
end Go.Proofs.YtojoaidnkljcpaaDoor

/- The document's With: a packet with other data, of its own. -/
namespace Go.Proofs.YtojoaidnkljcpaaDoor
open Go.RowKit Go.Shelf
set_option maxRecDepth 100000
set_option linter.unusedVariables false
set_option linter.unusedSimpArgs false

/-- Bytes of one's own stay where another block turns that holds no bytes. -/
theorem Ow.apart {base mb : Nat} {W W' : World} {v : Value} {zs : List Int} {cur : Array Value} {t : TypeId} (h : Ow base W v zs) (hm : W.heap[mb]? = some (.cells cur t (0, 0))) (ht : t ≠ 5) (hb : But (fun b => b = mb) W W') : Ow base W' v zs := by
  rcases h with h | ⟨g, cap, c, h1, h2, h3, h4, h5, h6, h7⟩
  · exact .inl h
  · refine .inr ⟨g, cap, c, h1, h2, h3, h4, h5, (hb.block g (Array.getElem?_eq_some_iff.1 h6).1 (fun e => ?_)).trans h6, h7⟩
    subst e
    rw [hm] at h6
    simp at h6
    exact ht h6.2

set_option maxHeartbeats 8000000 in
theorem rwith_any (tos id ttl proto src dst pr : Int) (keep : Bool) (so sx : Value) (ad : Option Addr) (ld cd : Nat) (zo zx : List Int) (w : World) (hIo : Rd w.heap.size w so zo) (hIx : Rd w.heap.size w sx zx) (h1 : zo.length ≤ 140737488355328) (h2 : zx.length ≤ 140737488355328) :
    Calls Tryd.prog 40 #[.agg #[.int .u8 tos, .int .u16 id, .bool keep, .int .u8 ttl, .int .u8 proto, .int .u32 src, .int .u32 dst, so, .slice ad ld cd], .int .u8 pr, sx] w fun e w' => Below w.heap.size w w' ∧ ((flt zo.length zx.length ≠ 0 ∧ e = .returned (.tuple #[.agg #[.int .u8 0, .int .u16 0, .bool false, .int .u8 0, .int .u8 0, .int .u32 0, .int .u32 0, .slice none 0 0, .slice none 0 0], .int .i64 (flt zo.length zx.length)])) ∨
      (flt zo.length zx.length = 0 ∧ ∃ a7 c7 a8 c8, e = .returned (.tuple #[.agg #[.int .u8 tos, .int .u16 id, .bool keep, .int .u8 ttl, .int .u8 pr, .int .u32 src, .int .u32 dst, .slice a7 zo.length c7, .slice a8 zx.length c8], .int .i64 0]) ∧ Ow w.heap.size w' (.slice a7 zo.length c7) zo ∧ Ow w.heap.size w' (.slice a8 zx.length c8) zx)) := by
  obtain ⟨ao, co, rfl, _, _⟩ := hIo.slice
  obtain ⟨ax, cx, rfl, _, _⟩ := hIx.slice
  have hb0 : Below w.heap.size w ((w.alloc (.cells #[.int .u8 tos, .int .u16 id, .bool keep, .int .u8 ttl, .int .u8 proto, .int .u32 src, .int .u32 dst, .slice ao zo.length co, .slice ad ld cd] 26)).alloc (.cells #[.int .u8 0, .int .u16 0, .bool false, .int .u8 0, .int .u8 0, .int .u32 0, .int .u32 0, .slice none 0 0, .slice none 0 0] 26)) := ((Below.refl _ _).alloc (Nat.le_refl _) _).alloc (by simp) _
  by_cases c1 : 40 < zo.length
  · have t1 : (40 : Int) < zo.length := by omega
    have HF : Hid (flt zo.length zx.length = 4) := by show _ = _; unfold flt; rw [if_pos (.inl c1)]
    go_enter Tryd.func40, Tryd.ntmps40
    go_wp2_with fail
    exact bodyPost_ret (v := .tuple #[.agg #[.int .u8 0, .int .u16 0, .bool false, .int .u8 0, .int .u8 0, .int .u32 0, .int .u32 0, .slice none 0 0, .slice none 0 0], .int .i64 4]) (by simp [results, Tryd.results40, go_sem]) rfl ⟨hb0, .inl ⟨by rw [HF.out]; decide, by rw [HF.out]⟩⟩
  · have t1 : ¬ (40 : Int) < zo.length := by omega
    by_cases c2 : zo.length % 4 = 0
    · have t2 : ((zo.length : Int) % 4 != 0) = false := by simp; omega
      by_cases c3 : 65535 < 20 + zo.length + zx.length
      · have t3 : (65535 : Int) < 20 + zo.length + zx.length := by omega
        have HF : Hid (flt zo.length zx.length = 8) := by show _ = _; unfold flt; rw [if_neg (by omega), if_pos c3]
        go_enter Tryd.func40, Tryd.ntmps40
        go_wp2_with fail
        exact bodyPost_ret (v := .tuple #[.agg #[.int .u8 0, .int .u16 0, .bool false, .int .u8 0, .int .u8 0, .int .u32 0, .int .u32 0, .slice none 0 0, .slice none 0 0], .int .i64 8]) (by simp [results, Tryd.results40, go_sem]) rfl ⟨hb0, .inl ⟨by rw [HF.out]; decide, by rw [HF.out]⟩⟩
      · have t3 : ¬ (65535 : Int) < 20 + zo.length + zx.length := by omega
        have HF : Hid (flt zo.length zx.length = 0) := by show _ = _; unfold flt; rw [if_neg (by omega), if_neg c3]
        go_enter Tryd.func40, Tryd.ntmps40
        obtain ⟨i0, hi, hz0, hz1, hz2⟩ := info_parts info_u8
        go_upto_region 7 with fail
        have p1 : (((w.alloc (.cells #[.int .u8 tos, .int .u16 id, .bool keep, .int .u8 ttl, .int .u8 proto, .int .u32 src, .int .u32 dst, .slice ao zo.length co, .slice ad ld cd] 26)).alloc (.cells #[.int .u8 0, .int .u16 0, .bool false, .int .u8 0, .int .u8 0, .int .u32 0, .int .u32 0, .slice none 0 0, .slice none 0 0] 26)).alloc (.cells #[.int .u8 tos, .int .u16 id, .bool keep, .int .u8 ttl, .int .u8 pr, .int .u32 src, .int .u32 dst, .slice ao zo.length co, .slice ad ld cd] 26)).heap[w.heap.size]? = some (.cells #[.int .u8 tos, .int .u16 id, .bool keep, .int .u8 ttl, .int .u8 proto, .int .u32 src, .int .u32 dst, .slice ao zo.length co, .slice ad ld cd] 26) := (Below.heap_alloc _ _ _ (by simp; omega)).trans ((Below.heap_alloc _ _ _ (by simp)).trans (heap_alloc_new w _))
        have r1 : (((w.alloc (.cells #[.int .u8 tos, .int .u16 id, .bool keep, .int .u8 ttl, .int .u8 proto, .int .u32 src, .int .u32 dst, .slice ao zo.length co, .slice ad ld cd] 26)).alloc (.cells #[.int .u8 0, .int .u16 0, .bool false, .int .u8 0, .int .u8 0, .int .u32 0, .int .u32 0, .slice none 0 0, .slice none 0 0] 26)).alloc (.cells #[.int .u8 tos, .int .u16 id, .bool keep, .int .u8 ttl, .int .u8 pr, .int .u32 src, .int .u32 dst, .slice ao zo.length co, .slice ad ld cd] 26)).heap[w.heap.size + 1]? = some (.cells #[.int .u8 0, .int .u16 0, .bool false, .int .u8 0, .int .u8 0, .int .u32 0, .int .u32 0, .slice none 0 0, .slice none 0 0] 26 (0, 0)) := by
          have := heap_alloc_new (w.alloc (.cells #[.int .u8 tos, .int .u16 id, .bool keep, .int .u8 ttl, .int .u8 proto, .int .u32 src, .int .u32 dst, .slice ao zo.length co, .slice ad ld cd] 26)) (.cells #[.int .u8 0, .int .u16 0, .bool false, .int .u8 0, .int .u8 0, .int .u32 0, .int .u32 0, .slice none 0 0, .slice none 0 0] 26)
          rw [World.size_alloc] at this
          exact (Below.heap_alloc _ _ _ (by simp)).trans this
        have qq : (((w.alloc (.cells #[.int .u8 tos, .int .u16 id, .bool keep, .int .u8 ttl, .int .u8 proto, .int .u32 src, .int .u32 dst, .slice ao zo.length co, .slice ad ld cd] 26)).alloc (.cells #[.int .u8 0, .int .u16 0, .bool false, .int .u8 0, .int .u8 0, .int .u32 0, .int .u32 0, .slice none 0 0, .slice none 0 0] 26)).alloc (.cells #[.int .u8 tos, .int .u16 id, .bool keep, .int .u8 ttl, .int .u8 pr, .int .u32 src, .int .u32 dst, .slice ao zo.length co, .slice ad ld cd] 26)).heap[w.heap.size + 1 + 1]? = some (.cells #[.int .u8 tos, .int .u16 id, .bool keep, .int .u8 ttl, .int .u8 pr, .int .u32 src, .int .u32 dst, .slice ao zo.length co, .slice ad ld cd] 26) := by
          have := heap_alloc_new ((w.alloc (.cells #[.int .u8 tos, .int .u16 id, .bool keep, .int .u8 ttl, .int .u8 proto, .int .u32 src, .int .u32 dst, .slice ao zo.length co, .slice ad ld cd] 26)).alloc (.cells #[.int .u8 0, .int .u16 0, .bool false, .int .u8 0, .int .u8 0, .int .u32 0, .int .u32 0, .slice none 0 0, .slice none 0 0] 26)) (.cells #[.int .u8 tos, .int .u16 id, .bool keep, .int .u8 ttl, .int .u8 pr, .int .u32 src, .int .u32 dst, .slice ao zo.length co, .slice ad ld cd] 26)
          simpa using this
        have hw1 : Below w.heap.size w (((w.alloc (.cells #[.int .u8 tos, .int .u16 id, .bool keep, .int .u8 ttl, .int .u8 proto, .int .u32 src, .int .u32 dst, .slice ao zo.length co, .slice ad ld cd] 26)).alloc (.cells #[.int .u8 0, .int .u16 0, .bool false, .int .u8 0, .int .u8 0, .int .u32 0, .int .u32 0, .slice none 0 0, .slice none 0 0] 26)).alloc (.cells #[.int .u8 tos, .int .u16 id, .bool keep, .int .u8 ttl, .int .u8 pr, .int .u32 src, .int .u32 dst, .slice ao zo.length co, .slice ad ld cd] 26)) := hb0.alloc (by simp; omega) _
        generalize ((w.alloc (.cells #[.int .u8 tos, .int .u16 id, .bool keep, .int .u8 ttl, .int .u8 proto, .int .u32 src, .int .u32 dst, .slice ao zo.length co, .slice ad ld cd] 26)).alloc (.cells #[.int .u8 0, .int .u16 0, .bool false, .int .u8 0, .int .u8 0, .int .u32 0, .int .u32 0, .slice none 0 0, .slice none 0 0] 26)).alloc (.cells #[.int .u8 tos, .int .u16 id, .bool keep, .int .u8 ttl, .int .u8 pr, .int .u32 src, .int .u32 dst, .slice ao zo.length co, .slice ad ld cd] 26) = W1 at *
        have hs1 : w.heap.size + 1 + 1 < W1.heap.size := (Array.getElem?_eq_some_iff.1 qq).1
        clear t1 t2 t3 c1 c2
        have P1 := block_cell (((Below.refl W1.heap.size W1).alloc (Nat.le_refl _) (.cells #[] 5)).block w.heap.size (by omega) |>.trans p1)
        have la2 : Below W1.heap.size W1 (W1.alloc (.cells #[] 5)) := (Below.refl _ _).alloc (Nat.le_refl _) _
        have ra2 : Rd W1.heap.size (W1.alloc (.cells #[] 5)) _ zo := ((hIo.below hw1).mono hw1.size).below la2
        go_upto_region 8 with (at_builtin; refine wpList_app _ rfl (.tmp 33) (.tmp 35) 24 rfl W1.heap.size 5 i0 Tryd.underlying24 hi hz0 hz1 hz2 _ [] rfl (own_empty W1 _) W1.heap.size _ zo rfl ra2 (by simp; omega) (by simp) ?_; intro v2 w2 ho2 hg2; have hb2 := below_app la2 (own_empty W1 _) hg2 (Nat.le_refl _) la2.size; clear hg2; simp only [List.nil_append] at ho2; have hO2 := Ow.of_row ho2; clear ho2; obtain ⟨a2, c2, rfl, hp2, hm2⟩ := hO2.slice; have q2 := (hb2.block (w.heap.size + 1 + 1) (Array.getElem?_eq_some_iff.1 qq).1).trans qq; have Q2 := block_cell q2; have F2 := block_frozen q2)
        have b2 : But (fun b => b = w.heap.size + 1 + 1) w2 (w2.setCell ⟨w.heap.size + 1 + 1, 7, none⟩ (.slice a2 zo.length c2)) := (But.refl (fun b => b = w.heap.size + 1 + 1) _).setCell (p := ⟨w.heap.size + 1 + 1, 7, none⟩) rfl _
        have qq2 : (w2.setCell ⟨w.heap.size + 1 + 1, 7, none⟩ (.slice a2 zo.length c2)).heap[w.heap.size + 1 + 1]? = some (.cells #[.int .u8 tos, .int .u16 id, .bool keep, .int .u8 ttl, .int .u8 pr, .int .u32 src, .int .u32 dst, .slice a2 zo.length c2, .slice ad ld cd] 26 (0, 0)) := heap_set1 q2 7 _
        have hO3 := hO2.apart q2 (by decide) b2
        have r3 := (b2.block (w.heap.size + 1) (Nat.lt_of_lt_of_le (Array.getElem?_eq_some_iff.1 r1).1 hb2.size) (by omega)).trans ((hb2.block (w.heap.size + 1) (Array.getElem?_eq_some_iff.1 r1).1).trans r1)
        have hw2 := hw1.trans (hb2.mono hw1.size)
        have hw3 : Below w.heap.size w _ := hw2.trans (b2.below hw2.size (fun k hk e => by omega))
        clear Q2 F2 P1 q2 b2 ra2 la2
        generalize w2.setCell ⟨w.heap.size + 1 + 1, 7, none⟩ (.slice a2 zo.length c2) = W3 at *
        clear qq
        have qq := qq2
        clear qq2
        have la4 : Below W3.heap.size W3 (W3.alloc (.cells #[] 5)) := (Below.refl _ _).alloc (Nat.le_refl _) _
        have ra4 : Rd W3.heap.size (W3.alloc (.cells #[] 5)) _ zx := ((hIx.below hw3).mono hw3.size).below la4
        go_upto_region 9 with (at_builtin; refine wpList_app _ rfl (.tmp 38) (.tmp 39) 24 rfl W3.heap.size 5 i0 Tryd.underlying24 hi hz0 hz1 hz2 _ [] rfl (own_empty W3 _) W3.heap.size _ zx rfl ra4 (by simp; omega) (by simp) ?_; intro v4 w4 ho4 hg4; have hb4 := below_app la4 (own_empty W3 _) hg4 (Nat.le_refl _) la4.size; clear hg4; simp only [List.nil_append] at ho4; have hO4 := Ow.of_row ho4; clear ho4; obtain ⟨a4, c4, rfl, hp4, hm4⟩ := hO4.slice; have q4 := (hb4.block (w.heap.size + 1 + 1) (Array.getElem?_eq_some_iff.1 qq).1).trans qq; have Q4 := block_cell q4; have F4 := block_frozen q4)
        have b4 : But (fun b => b = w.heap.size + 1 + 1) w4 (w4.setCell ⟨w.heap.size + 1 + 1, 8, none⟩ (.slice a4 zx.length c4)) := (But.refl (fun b => b = w.heap.size + 1 + 1) _).setCell (p := ⟨w.heap.size + 1 + 1, 8, none⟩) rfl _
        have qq4 : (w4.setCell ⟨w.heap.size + 1 + 1, 8, none⟩ (.slice a4 zx.length c4)).heap[w.heap.size + 1 + 1]? = some (.cells #[.int .u8 tos, .int .u16 id, .bool keep, .int .u8 ttl, .int .u8 pr, .int .u32 src, .int .u32 dst, .slice a2 zo.length c2, .slice a4 zx.length c4] 26 (0, 0)) := heap_set1 q4 8 _
        have hO5 := hO4.apart q4 (by decide) b4
        have hO6 := (hO3.later hb4).apart q4 (by decide) b4
        have r5 := (b4.block (w.heap.size + 1) (Nat.lt_of_lt_of_le (Array.getElem?_eq_some_iff.1 r3).1 hb4.size) (by omega)).trans ((hb4.block (w.heap.size + 1) (Array.getElem?_eq_some_iff.1 r3).1).trans r3)
        have hw4 := hw3.trans (hb4.mono hw3.size)
        have hw5 : Below w.heap.size w _ := hw4.trans (b4.below hw4.size (fun k hk e => by omega))
        clear Q4 F4 q4 b4 ra4 la4
        generalize w4.setCell ⟨w.heap.size + 1 + 1, 8, none⟩ (.slice a4 zx.length c4) = W5 at *
        have hs3 := (Array.getElem?_eq_some_iff.1 r3).1
        have Q5 := block_cell qq4
        have R5 := block_cell r5
        have F5 := block_frozen r5
        go_wp2_with fail
        generalize hV : ((((((((W5.setCell ⟨w.heap.size + 1, 0, none⟩ _).setCell ⟨w.heap.size + 1, 1, none⟩ _).setCell ⟨w.heap.size + 1, 2, none⟩ _).setCell ⟨w.heap.size + 1, 3, none⟩ _).setCell ⟨w.heap.size + 1, 4, none⟩ _).setCell ⟨w.heap.size + 1, 5, none⟩ _).setCell ⟨w.heap.size + 1, 6, none⟩ _).setCell ⟨w.heap.size + 1, 7, none⟩ _).setCell ⟨w.heap.size + 1, 8, none⟩ _ = V8
        have hV9 : V8 = putRow W5 (w.heap.size + 1) 0 [Value.int .u8 tos, .int .u16 id, .bool keep, .int .u8 ttl, .int .u8 pr, .int .u32 src, .int .u32 dst, .slice a2 zo.length c2, .slice a4 zx.length c4] := hV.symm
        have hb8 : But (fun b => b = w.heap.size + 1) W5 V8 := by rw [hV9]; exact putRow_but (E := fun b => b = w.heap.size + 1) (n := w.heap.size + 1) rfl _ _ _ _ (But.refl _ _)
        have p8 := putRow_all [Value.int .u8 tos, .int .u16 id, .bool keep, .int .u8 ttl, .int .u8 pr, .int .u32 src, .int .u32 dst, .slice a2 zo.length c2, .slice a4 zx.length c4] r5 rfl
        rw [← hV9] at p8
        clear hV hV9
        have P8 := block_cell p8
        have hw8 : Below w.heap.size w V8 := (hw5).trans (hb8.below (hw5).size (fun k h e => by omega))
        exact bodyPost_ret (v := .tuple #[.agg #[.int .u8 tos, .int .u16 id, .bool keep, .int .u8 ttl, .int .u8 pr, .int .u32 src, .int .u32 dst, .slice a2 zo.length c2, .slice a4 zx.length c4], .int .i64 0]) (by simp [results, Tryd.results40, go_sem, P8]) rfl (⟨hw8, .inr ⟨HF.out, a2, c2, a4, c4, rfl, (hO6.apart r5 (by decide) hb8).mono (by omega), (hO5.apart r5 (by decide) hb8).mono (by omega)⟩⟩)
    · have t2 : ((zo.length : Int) % 4 != 0) = true := by simp; omega
      have HF : Hid (flt zo.length zx.length = 4) := by show _ = _; unfold flt; rw [if_pos (.inr c2)]
      go_enter Tryd.func40, Tryd.ntmps40
      go_wp2_with fail
      exact bodyPost_ret (v := .tuple #[.agg #[.int .u8 0, .int .u16 0, .bool false, .int .u8 0, .int .u8 0, .int .u32 0, .int .u32 0, .slice none 0 0, .slice none 0 0], .int .i64 4]) (by simp [results, Tryd.results40, go_sem]) rfl ⟨hb0, .inl ⟨by rw [HF.out]; decide, by rw [HF.out]⟩⟩
end Go.Proofs.YtojoaidnkljcpaaDoor

/- The document's BuildIcmp. -/
namespace Go.Proofs.YtojoaidnkljcpaaDoor
open Go.RowKit Go.Shelf
set_option maxRecDepth 100000
set_option linter.unusedVariables false
set_option linter.unusedSimpArgs false

theorem flt_none (lo : Nat) (h : flt lo 0 ≠ 0) (n : Nat) : flt lo 0 = 4 ∧ flt lo n = 4 := by
  unfold flt at *
  by_cases c : 40 < lo ∨ lo % 4 ≠ 0
  · rw [if_pos c, if_pos c]; exact ⟨rfl, rfl⟩
  · rw [if_neg c, if_neg (by omega)] at h
    exact absurd rfl h
theorem flt_some (lo : Nat) (h : flt lo 0 = 0) (n : Nat) : flt lo n = (if 65535 < 20 + lo + n then 8 else 0) := by
  unfold flt at *
  by_cases c : 40 < lo ∨ lo % 4 ≠ 0
  · rw [if_pos c] at h; exact absurd h (by decide)
  · rw [if_neg c]
theorem own_four (w : World) (a b c d : Int) : (w.alloc (.cells #[.int .u8 a, .int .u8 b, .int .u8 c, .int .u8 d] 5)).ownsRow w.heap.size 5 1 (.slice (some ⟨w.heap.size, 0, none⟩) 4 4) [a, b, c, d].length ([a, b, c, d].map (Value.int .u8)) :=
  ⟨rfl, .inr ⟨w.heap.size, 4, _, rfl, Nat.le_refl _, heap_alloc_new w _, by simp, by simp [maxLen], rfl, rfl⟩⟩

theorem but_app {base n size : Nat} {e : TypeId} {W W' : World} {v : Value} {xs : List Value} (ho : W.ownsRow base e size v n xs) (hg : W.grownBy W' v.ownBlock) : But (fun b => base ≤ b) W W' :=
  ⟨hg.os, hg.tape, hg.output, hg.size, fun i hi he => hg.block i hi (fun e => he (ho.lt i e.symm).1)⟩

set_option maxHeartbeats 8000000 in
theorem rbuildIcmp_any (tos id ttl proto src dst ty cde rest : Int) (keep : Bool) (so sm : Value) (ad : Option Addr) (ld cd : Nat) (zo zd : List Int) (w : World) (hIo : Rd w.heap.size w so zo) (hBd : Mt.By zd) (hIm : Rd w.heap.size w sm zd)
    (h1 : zo.length ≤ 140737488355328) (h2 : 8 + zd.length ≤ 140737488355328) (hty : 0 ≤ ty ∧ ty ≤ 255) (hco : 0 ≤ cde ∧ cde ≤ 255) (hre : 0 ≤ rest ∧ rest ≤ 4294967295) :
    Calls Tryd.prog 22 #[.agg #[.int .u8 tos, .int .u16 id, .bool keep, .int .u8 ttl, .int .u8 proto, .int .u32 src, .int .u32 dst, so, .slice ad ld cd], .agg #[.int .u8 ty, .int .u8 cde, .int .u32 rest, sm]] w fun e w' => Below w.heap.size w w' ∧ ((flt zo.length (8 + zd.length) ≠ 0 ∧ e = .returned (.tuple #[.agg #[.int .u8 0, .int .u16 0, .bool false, .int .u8 0, .int .u8 0, .int .u32 0, .int .u32 0, .slice none 0 0, .slice none 0 0], .int .i64 (flt zo.length (8 + zd.length))])) ∨
      (flt zo.length (8 + zd.length) = 0 ∧ ∃ a7 c7 a8 c8, e = .returned (.tuple #[.agg #[.int .u8 tos, .int .u16 id, .bool keep, .int .u8 ttl, .int .u8 1, .int .u32 src, .int .u32 dst, .slice a7 zo.length c7, .slice a8 (8 + zd.length) c8], .int .i64 0]) ∧ Ow w.heap.size w' (.slice a7 zo.length c7) zo ∧ Ow w.heap.size w' (.slice a8 (8 + zd.length) c8) (icm ty cde rest zd))) := by
  obtain ⟨ao, co, rfl, _, _⟩ := hIo.slice
  obtain ⟨am, cm, rfl, _, _⟩ := hIm.slice
  have hb0 : Below w.heap.size w (((w.alloc (.cells #[.int .u8 tos, .int .u16 id, .bool keep, .int .u8 ttl, .int .u8 proto, .int .u32 src, .int .u32 dst, .slice ao zo.length co, .slice ad ld cd] 26)).alloc (.cells #[.int .u8 ty, .int .u8 cde, .int .u32 rest, .slice am zd.length cm] 49)).alloc (.cells #[.int .u8 0, .int .u16 0, .bool false, .int .u8 0, .int .u8 0, .int .u32 0, .int .u32 0, .slice none 0 0, .slice none 0 0] 26)) := (((Below.refl _ _).alloc (Nat.le_refl _) _).alloc (by simp) _).alloc (by simp; omega) _
  have p0 : (((w.alloc (.cells #[.int .u8 tos, .int .u16 id, .bool keep, .int .u8 ttl, .int .u8 proto, .int .u32 src, .int .u32 dst, .slice ao zo.length co, .slice ad ld cd] 26)).alloc (.cells #[.int .u8 ty, .int .u8 cde, .int .u32 rest, .slice am zd.length cm] 49)).alloc (.cells #[.int .u8 0, .int .u16 0, .bool false, .int .u8 0, .int .u8 0, .int .u32 0, .int .u32 0, .slice none 0 0, .slice none 0 0] 26)).heap[w.heap.size]? = some (.cells #[.int .u8 tos, .int .u16 id, .bool keep, .int .u8 ttl, .int .u8 proto, .int .u32 src, .int .u32 dst, .slice ao zo.length co, .slice ad ld cd] 26) := (Below.heap_alloc _ _ _ (by simp; omega)).trans ((Below.heap_alloc _ _ _ (by simp)).trans (heap_alloc_new w _))
  have m0 : (((w.alloc (.cells #[.int .u8 tos, .int .u16 id, .bool keep, .int .u8 ttl, .int .u8 proto, .int .u32 src, .int .u32 dst, .slice ao zo.length co, .slice ad ld cd] 26)).alloc (.cells #[.int .u8 ty, .int .u8 cde, .int .u32 rest, .slice am zd.length cm] 49)).alloc (.cells #[.int .u8 0, .int .u16 0, .bool false, .int .u8 0, .int .u8 0, .int .u32 0, .int .u32 0, .slice none 0 0, .slice none 0 0] 26)).heap[w.heap.size + 1]? = some (.cells #[.int .u8 ty, .int .u8 cde, .int .u32 rest, .slice am zd.length cm] 49) := by
    have := heap_alloc_new (w.alloc (.cells #[.int .u8 tos, .int .u16 id, .bool keep, .int .u8 ttl, .int .u8 proto, .int .u32 src, .int .u32 dst, .slice ao zo.length co, .slice ad ld cd] 26)) (.cells #[.int .u8 ty, .int .u8 cde, .int .u32 rest, .slice am zd.length cm] 49)
    rw [World.size_alloc] at this
    exact (Below.heap_alloc _ _ _ (by simp)).trans this
  have r0 : (((w.alloc (.cells #[.int .u8 tos, .int .u16 id, .bool keep, .int .u8 ttl, .int .u8 proto, .int .u32 src, .int .u32 dst, .slice ao zo.length co, .slice ad ld cd] 26)).alloc (.cells #[.int .u8 ty, .int .u8 cde, .int .u32 rest, .slice am zd.length cm] 49)).alloc (.cells #[.int .u8 0, .int .u16 0, .bool false, .int .u8 0, .int .u8 0, .int .u32 0, .int .u32 0, .slice none 0 0, .slice none 0 0] 26)).heap[w.heap.size + 1 + 1]? = some (.cells #[.int .u8 0, .int .u16 0, .bool false, .int .u8 0, .int .u8 0, .int .u32 0, .int .u32 0, .slice none 0 0, .slice none 0 0] 26 (0, 0)) := by
    have := heap_alloc_new ((w.alloc (.cells #[.int .u8 tos, .int .u16 id, .bool keep, .int .u8 ttl, .int .u8 proto, .int .u32 src, .int .u32 dst, .slice ao zo.length co, .slice ad ld cd] 26)).alloc (.cells #[.int .u8 ty, .int .u8 cde, .int .u32 rest, .slice am zd.length cm] 49)) (.cells #[.int .u8 0, .int .u16 0, .bool false, .int .u8 0, .int .u8 0, .int .u32 0, .int .u32 0, .slice none 0 0, .slice none 0 0] 26)
    simpa using this
  have P0 := hide p0
  have M0 := hide m0
  have R0 := hide r0
  clear p0 m0 r0
  go_enter Tryd.func22, Tryd.ntmps22
  go_wp2_with fail
  generalize ((w.alloc (.cells #[.int .u8 tos, .int .u16 id, .bool keep, .int .u8 ttl, .int .u8 proto, .int .u32 src, .int .u32 dst, .slice ao zo.length co, .slice ad ld cd] 26)).alloc (.cells #[.int .u8 ty, .int .u8 cde, .int .u32 rest, .slice am zd.length cm] 49)).alloc (.cells #[.int .u8 0, .int .u16 0, .bool false, .int .u8 0, .int .u8 0, .int .u32 0, .int .u32 0, .slice none 0 0, .slice none 0 0] 26) = w0 at *
  refine (rwith_any tos id ttl proto src dst 1 keep _ _ ad ld cd zo [] w0 ((hIo.below hb0).mono hb0.size) (rd_zero w0) h1 (by simp)).mono ?_
  rintro e w1 ⟨hb1, ⟨hf, rfl⟩ | ⟨hf, a7, c7, a8, c8, rfl, hO1, hD1⟩⟩
  · obtain ⟨f4, f4'⟩ := flt_none zo.length hf (8 + zd.length)
    rw [show ([] : List Int).length = 0 from rfl, f4]
    have HF := hide f4'
    clear f4 f4' hf
    have l2 : Later w1 (w1.alloc (.cells #[.int .u8 0, .int .u16 0, .bool false, .int .u8 0, .int .u8 0, .int .u32 0, .int .u32 0, .slice none 0 0, .slice none 0 0] 26)) := (Below.refl _ _).alloc (Nat.le_refl _) _
    have l02 := Later.trans hb1 l2
    have r2 := (l02.block (w.heap.size + 1 + 1) (Array.getElem?_eq_some_iff.1 R0.out).1).trans R0.out
    have hw2 := hb0.trans (l02.mono hb0.size)
    have RR := block_cell r2
    have FF := block_frozen r2
    go_wp2_with fail
    generalize w1.alloc (.cells #[.int .u8 0, .int .u16 0, .bool false, .int .u8 0, .int .u8 0, .int .u32 0, .int .u32 0, .slice none 0 0, .slice none 0 0] 26) = w2 at *
    generalize hV : ((((((((w2.setCell ⟨w.heap.size + 1 + 1, 0, none⟩ _).setCell ⟨w.heap.size + 1 + 1, 1, none⟩ _).setCell ⟨w.heap.size + 1 + 1, 2, none⟩ _).setCell ⟨w.heap.size + 1 + 1, 3, none⟩ _).setCell ⟨w.heap.size + 1 + 1, 4, none⟩ _).setCell ⟨w.heap.size + 1 + 1, 5, none⟩ _).setCell ⟨w.heap.size + 1 + 1, 6, none⟩ _).setCell ⟨w.heap.size + 1 + 1, 7, none⟩ _).setCell ⟨w.heap.size + 1 + 1, 8, none⟩ _ = V8
    have hV9 : V8 = putRow w2 (w.heap.size + 1 + 1) 0 [Value.int .u8 0, .int .u16 0, .bool false, .int .u8 0, .int .u8 0, .int .u32 0, .int .u32 0, .slice none 0 0, .slice none 0 0] := hV.symm
    have hb8 : But (fun b => b = w.heap.size + 1 + 1) w2 V8 := by rw [hV9]; exact putRow_but (E := fun b => b = w.heap.size + 1 + 1) (n := w.heap.size + 1 + 1) rfl _ _ _ _ (But.refl _ _)
    have p8 := putRow_all [Value.int .u8 0, .int .u16 0, .bool false, .int .u8 0, .int .u8 0, .int .u32 0, .int .u32 0, .slice none 0 0, .slice none 0 0] r2 rfl
    rw [← hV9] at p8
    clear hV hV9
    have P8 := block_cell p8
    have hw8 : Below w.heap.size w V8 := (hw2).trans (hb8.below (hw2).size (fun k h e => by omega))
    exact bodyPost_ret (v := .tuple #[.agg #[.int .u8 0, .int .u16 0, .bool false, .int .u8 0, .int .u8 0, .int .u32 0, .int .u32 0, .slice none 0 0, .slice none 0 0], .int .i64 4]) (by simp [results, Tryd.results22, go_sem, P8]) rfl (⟨hw8, .inl ⟨by rw [HF.out]; decide, by rw [HF.out]⟩⟩)
  · have f0 := flt_some zo.length hf (8 + zd.length)
    clear hf
    have l2 : Later w1 (w1.alloc (.cells #[.int .u8 tos, .int .u16 id, .bool keep, .int .u8 ttl, .int .u8 1, .int .u32 src, .int .u32 dst, .slice a7 zo.length c7, .slice a8 ([] : List Int).length c8] 26)) := (Below.refl _ _).alloc (Nat.le_refl _) _
    have l02 := Later.trans hb1 l2
    have p2 := (l02.block w.heap.size (Array.getElem?_eq_some_iff.1 P0.out).1).trans P0.out
    have m2 := (l02.block (w.heap.size + 1) (Array.getElem?_eq_some_iff.1 M0.out).1).trans M0.out
    have r2 := (l02.block (w.heap.size + 1 + 1) (Array.getElem?_eq_some_iff.1 R0.out).1).trans R0.out
    have hw2 := hb0.trans (l02.mono hb0.size)
    have PP := block_cell p2
    have MM := block_cell m2
    rw [show ([] : List Int).length = 0 from rfl] at *
    by_cases c3 : 65535 < 20 + zo.length + (8 + zd.length)
    · have t3 : (65535 : Int) < 28 + zo.length + zd.length := by omega
      rw [if_pos c3] at f0
      have HF := hide f0
      clear f0 c3
      have RR := block_cell r2
      have FF := block_frozen r2
      go_wp2_with fail
      generalize w1.alloc (.cells #[.int .u8 tos, .int .u16 id, .bool keep, .int .u8 ttl, .int .u8 1, .int .u32 src, .int .u32 dst, .slice a7 zo.length c7, .slice a8 0 c8] 26) = w2 at *
      generalize hV : ((((((((w2.setCell ⟨w.heap.size + 1 + 1, 0, none⟩ _).setCell ⟨w.heap.size + 1 + 1, 1, none⟩ _).setCell ⟨w.heap.size + 1 + 1, 2, none⟩ _).setCell ⟨w.heap.size + 1 + 1, 3, none⟩ _).setCell ⟨w.heap.size + 1 + 1, 4, none⟩ _).setCell ⟨w.heap.size + 1 + 1, 5, none⟩ _).setCell ⟨w.heap.size + 1 + 1, 6, none⟩ _).setCell ⟨w.heap.size + 1 + 1, 7, none⟩ _).setCell ⟨w.heap.size + 1 + 1, 8, none⟩ _ = V8
      have hV9 : V8 = putRow w2 (w.heap.size + 1 + 1) 0 [Value.int .u8 0, .int .u16 0, .bool false, .int .u8 0, .int .u8 0, .int .u32 0, .int .u32 0, .slice none 0 0, .slice none 0 0] := hV.symm
      have hb8 : But (fun b => b = w.heap.size + 1 + 1) w2 V8 := by rw [hV9]; exact putRow_but (E := fun b => b = w.heap.size + 1 + 1) (n := w.heap.size + 1 + 1) rfl _ _ _ _ (But.refl _ _)
      have p8 := putRow_all [Value.int .u8 0, .int .u16 0, .bool false, .int .u8 0, .int .u8 0, .int .u32 0, .int .u32 0, .slice none 0 0, .slice none 0 0] r2 rfl
      rw [← hV9] at p8
      clear hV hV9
      have P8 := block_cell p8
      have hw8 : Below w.heap.size w V8 := (hw2).trans (hb8.below (hw2).size (fun k h e => by omega))
      exact bodyPost_ret (v := .tuple #[.agg #[.int .u8 0, .int .u16 0, .bool false, .int .u8 0, .int .u8 0, .int .u32 0, .int .u32 0, .slice none 0 0, .slice none 0 0], .int .i64 8]) (by simp [results, Tryd.results22, go_sem, P8]) rfl (⟨hw8, .inl ⟨by rw [HF.out]; decide, by rw [HF.out]⟩⟩)
    · have t3 : ¬ (65535 : Int) < 28 + zo.length + zd.length := by omega
      rw [if_neg c3] at f0
      have HF := hide f0
      clear f0
      go_upto_region 7 with fail
      have hs2 : (w1.alloc (.cells #[.int .u8 tos, .int .u16 id, .bool keep, .int .u8 ttl, .int .u8 1, .int .u32 src, .int .u32 dst, .slice a7 zo.length c7, .slice a8 0 c8] 26)).heap.size = w1.heap.size + 1 := by simp
      generalize w1.alloc (.cells #[.int .u8 tos, .int .u16 id, .bool keep, .int .u8 ttl, .int .u8 1, .int .u32 src, .int .u32 dst, .slice a7 zo.length c7, .slice a8 0 c8] 26) = w2 at *
      have own3 := own_four w2 ty cde 0 0
      have l3 : Later w2 (w2.alloc (.cells #[.int .u8 ty, .int .u8 cde, .int .u8 0, .int .u8 0] 5)) := (Below.refl _ _).alloc (Nat.le_refl _) _
      have hw3 := hw2.trans (l3.mono hw2.size)
      have p3 := (l3.block w.heap.size (Array.getElem?_eq_some_iff.1 p2).1).trans p2
      have m3 := (l3.block (w.heap.size + 1) (Array.getElem?_eq_some_iff.1 m2).1).trans m2
      have r3 := (l3.block (w.heap.size + 1 + 1) (Array.getElem?_eq_some_iff.1 r2).1).trans r2
      clear PP MM l02 p2 m2
      have HW2 := hide hw2
      clear hw2
      rw [hs2] at own3
      have hsr := (Array.getElem?_eq_some_iff.1 r2).1
      rw [hs2] at hsr
      generalize w2.alloc (.cells #[.int .u8 ty, .int .u8 cde, .int .u8 0, .int .u8 0] 5) = w3 at *
      go_cut [8] (fun v wx => wx.ownsRow (w1.heap.size + 1) 5 1 v (icm0 ty cde rest zd).length ((icm0 ty cde rest zd).map (Value.int .u8)) ∧ Below (w1.heap.size + 1) w3 wx)
      case first =>
        refine anyT_begin (R := But (fun b => w1.heap.size + 1 ≤ b)) 9 rfl (by kernel_rfl) ?_
        have hd : Later w3 w3.drew := Later.drew w3
        have hz3 : w1.heap.size + 1 ≤ w3.heap.size := by have := l3.size; omega
        have ownd := row_below own3 hd (Nat.le_refl _)
        have bd : Below (w1.heap.size + 1) w3 w3.drew := hd.mono hz3
        generalize w3.drew = Wd at *
        have ha : ∀ v1, But (fun b => w1.heap.size + 1 ≤ b) Wd v1 → ∀ i, v1.cell? ⟨w.heap.size + 1, i, none⟩ = #[Value.int .u8 ty, .int .u8 cde, .int .u32 rest, .slice am zd.length cm][i]? := fun v1 h => block_cell ((((But.of hd).trans h).block (w.heap.size + 1) (Array.getElem?_eq_some_iff.1 m3).1 (by omega)).trans m3)
        refine anyT_val (But.pre _) 0 rfl (by kernel_rfl) (by kernel_rfl) (by kernel_rfl) (fun _ _ _ _ h => h) rfl ?_; apply Exists.intro; refine ⟨fun v1 hv1 => ?_, ?_⟩; (· (go_simp; rfl)); simp only [Act.put, List.setIfInBounds_toArray, List.set_cons_zero, List.set_cons_succ]
        refine anyT_val (But.pre _) 1 rfl (by kernel_rfl) (by kernel_rfl) (by kernel_rfl) (fun _ _ _ _ h => h) rfl ?_; apply Exists.intro; refine ⟨fun v1 hv1 => ?_, ?_⟩; (· (go_simp; rfl)); simp only [Act.put, List.setIfInBounds_toArray, List.set_cons_zero, List.set_cons_succ]
        refine anyT_val (But.pre _) 2 rfl (by kernel_rfl) (by kernel_rfl) (by kernel_rfl) (fun _ _ _ _ h => h) rfl ?_; apply Exists.intro; refine ⟨fun v1 hv1 => ?_, ?_⟩; (· (go_simp; rfl)); simp only [Act.put, List.setIfInBounds_toArray, List.set_cons_zero, List.set_cons_succ]
        refine anyT_val (But.pre _) 5 rfl (by kernel_rfl) (by kernel_rfl) (by kernel_rfl) (fun _ _ _ _ h => h) rfl ?_; apply Exists.intro; refine ⟨fun v1 hv1 => ?_, ?_⟩; (· (go_simp; rfl)); simp only [Act.put, List.setIfInBounds_toArray, List.set_cons_zero, List.set_cons_succ]
        refine anyT_val (But.pre _) 6 rfl (by kernel_rfl) (by kernel_rfl) (by kernel_rfl) (fun _ _ _ _ h => h) rfl ?_; apply Exists.intro; refine ⟨fun v1 hv1 => ?_, ?_⟩; (· (go_simp; rfl)); simp only [Act.put, List.setIfInBounds_toArray, List.set_cons_zero, List.set_cons_succ]
        refine anyT_one 3 rfl (by kernel_rfl) rfl ?_
        refine wp_enter 37 #[.int .u32 rest] (by go_simp) ?_
        refine (four_any rest hre Wd).mono ?_
        rintro e w4 ⟨rfl, rfl⟩
        have l4 : Later Wd (Wd.alloc (.cells #[.int .u8 (rest / 16777216), .int .u8 (rest / 65536 % 256), .int .u8 (rest / 256 % 256), .int .u8 (rest % 256)] 5)) := (Below.refl _ _).alloc (Nat.le_refl _) _
        have R4 := Rd.new4 (rest / 16777216) (rest / 65536 % 256) (rest / 256 % 256) (rest % 256) 5 Wd
        have own4 := row_below ownd l4 (Nat.le_refl _)
        have hzd : w1.heap.size + 1 ≤ Wd.heap.size := Nat.le_trans hz3 hd.size
        have b4 := bd.trans (l4.mono hzd)
        refine ⟨But.of l4, ?_⟩
        simp only [Act.put, List.setIfInBounds_toArray, List.set_cons_zero, List.set_cons_succ]
        generalize Wd.alloc (.cells #[.int .u8 (rest / 16777216), .int .u8 (rest / 65536 % 256), .int .u8 (rest / 256 % 256), .int .u8 (rest % 256)] 5) = W4 at *
        refine anyT_one 4 rfl (by kernel_rfl) rfl ?_
        obtain ⟨i0, hi, hz0, hz1, hz2⟩ := info_parts info_u8
        have hz4 : w1.heap.size + 1 ≤ W4.heap.size := Nat.le_trans hzd l4.size
        obtain ⟨v5, W5, hrun5, hown5, hgr5⟩ := run_app (P := Tryd.prog) W4 24 24 5 (w1.heap.size + 1) i0 Tryd.underlying24 hi hz0 hz1 hz2 _ [ty, cde, 0, 0] own4 (Wd.heap.size + 1) _ [rest / 16777216, rest / 65536 % 256, rest / 256 % 256, rest % 256] R4 (by simp) hz4
        have b5 := below_app b4 own4 hgr5 (Nat.le_refl _) hz4
        have bt5 : But (fun b => w1.heap.size + 1 ≤ b) W4 W5 := but_app own4 hgr5
        clear hgr5
        refine wp_app (.tmp 33) (.tmp 36) 24 rfl _ _ rfl rfl _ W5 hrun5 ⟨bt5, ?_⟩
        simp only [Act.put, List.setIfInBounds_toArray, List.set_cons_zero, List.set_cons_succ]
        refine anyT_one 7 rfl (by kernel_rfl) rfl ?_
        have hz5 : w1.heap.size + 1 ≤ W5.heap.size := Nat.le_trans hz4 bt5.size
        have hRm : Rd w.heap.size W5 (.slice am zd.length cm) zd := hIm.below (hw3.trans (b5.mono (by omega)))
        obtain ⟨v6, W6, hrun6, hown6, hgr6⟩ := run_app (P := Tryd.prog) W5 24 24 5 (w1.heap.size + 1) i0 Tryd.underlying24 hi hz0 hz1 hz2 _ _ hown5 w.heap.size _ zd hRm (by simp; omega) hz5
        have b6 := below_app b5 hown5 hgr6 (Nat.le_refl _) hz5
        have bt6 : But (fun b => w1.heap.size + 1 ≤ b) W5 W6 := but_app hown5 hgr6
        clear hgr6
        refine wp_app (.tmp 37) (.tmp 39) 24 rfl _ _ rfl rfl _ W6 hrun6 ⟨bt6, ?_⟩
        simp only [Act.put, List.setIfInBounds_toArray, List.set_cons_zero, List.set_cons_succ]
        refine anyT_one 8 rfl (by kernel_rfl) rfl ?_
        unfold Oper.wp
        go_simp
        refine ⟨But.refl _ _, ?_⟩
        refine anyT_done (by kernel_rfl) ?_
        have hlist : [ty, cde, 0, 0] ++ [rest / 16777216, rest / 65536 % 256, rest / 256 % 256, rest % 256] ++ zd = icm0 ty cde rest zd := by
          unfold icm0
          simp
          omega
        rw [hlist] at hown6
        go_wp2_with fail
        go_meet
        case rel => exact ⟨hown6, b6⟩
      case rest =>
        obtain ⟨hown, bc⟩ := hcut
        have hz3 : w1.heap.size + 1 ≤ w3.heap.size := by have := l3.size; omega
        have p4 := (bc.block w.heap.size (by omega)).trans p3
        have r4 := (bc.block (w.heap.size + 1 + 1) (by omega)).trans r3
        have hw4 := hw3.trans (bc.mono (by omega))
        have hO4 := Ow.of_row hown
        obtain ⟨a4, c4, rfl, _, _⟩ := hO4.slice
        clear p3 r3 m3 hown own3 r2
        have hBi := By_icm0 ty cde rest zd hty hco hre hBd
        have hli := icm0_length ty cde rest zd
        have hcb := Mt.cks_bd (icm0 ty cde rest zd)
        have HIC : Hid (putAt2 (icm0 ty cde rest zd) 2 (Mt.cks (icm0 ty cde rest zd)) = icm ty cde rest zd) := by show _ = _; unfold putAt2; rw [if_pos (by rw [hli]; omega)]; rfl
        have hlc := icm_length ty cde rest zd
        have HLI := hide hli
        have HLC := hide hlc
        clear hli hlc
        generalize icm0 ty cde rest zd = bb at *
        go_upto_region 8 with fail
        refine anyT_begin (R := But (fun b => b = w.heap.size + 1 + 1)) 10 rfl (by kernel_rfl) ?_
        have hd : Later wc wc.drew := Later.drew wc
        have p5 := (hd.block w.heap.size (Array.getElem?_eq_some_iff.1 p4).1).trans p4
        have r5 := (hd.block (w.heap.size + 1 + 1) (Array.getElem?_eq_some_iff.1 r4).1).trans r4
        have hw5 := hw4.trans (hd.mono hw4.size)
        have hO5 := hO4.later hd
        generalize wc.drew = Wd at *
        have ha : ∀ v1, But (fun b => b = w.heap.size + 1 + 1) Wd v1 → ∀ i, v1.cell? ⟨w.heap.size, i, none⟩ = #[Value.int .u8 tos, .int .u16 id, .bool keep, .int .u8 ttl, .int .u8 proto, .int .u32 src, .int .u32 dst, .slice ao zo.length co, .slice ad ld cd][i]? := fun v1 h => block_cell ((h.block w.heap.size (Array.getElem?_eq_some_iff.1 p5).1 (by omega)).trans p5)
        refine anyT_val (But.pre _) 0 rfl (by kernel_rfl) (by kernel_rfl) (by kernel_rfl) (fun _ _ _ _ h => h) rfl ?_; apply Exists.intro; refine ⟨fun v1 hv1 => ?_, ?_⟩; (· (go_simp; rfl)); simp only [Act.put, List.setIfInBounds_toArray, List.set_cons_zero, List.set_cons_succ]
        refine anyT_val (But.pre _) 1 rfl (by kernel_rfl) (by kernel_rfl) (by kernel_rfl) (fun _ _ _ _ h => h) rfl ?_; apply Exists.intro; refine ⟨fun v1 hv1 => ?_, ?_⟩; (· (go_simp; rfl)); simp only [Act.put, List.setIfInBounds_toArray, List.set_cons_zero, List.set_cons_succ]
        refine anyT_val (But.pre _) 2 rfl (by kernel_rfl) (by kernel_rfl) (by kernel_rfl) (fun _ _ _ _ h => h) rfl ?_; apply Exists.intro; refine ⟨fun v1 hv1 => ?_, ?_⟩; (· (go_simp; rfl)); simp only [Act.put, List.setIfInBounds_toArray, List.set_cons_zero, List.set_cons_succ]
        refine anyT_one 3 rfl (by kernel_rfl) rfl ?_
        refine wp_enter 43 #[.slice a4 bb.length c4] (by go_simp) ?_
        refine (rsum_any _ bb hBi (by have := HLI.out; omega) Wd hO5.rd).mono ?_
        rintro e W6 ⟨rfl, hb6⟩
        have l6 : Later Wd W6 := hb6
        refine ⟨But.of l6, ?_⟩
        simp only [Act.put, List.setIfInBounds_toArray, List.set_cons_zero, List.set_cons_succ]
        refine anyT_one 4 rfl (by kernel_rfl) rfl ?_
        refine wp_enter 41 #[.slice a4 bb.length c4, .int .i64 2, .int .u16 (Mt.cks bb)] (by go_simp) ?_
        refine (rput16_any _ bb 2 (Mt.cks bb) (by omega) (by have := HLI.out; omega) W6 (hO5.later l6).rd hcb).mono ?_
        rintro e W7 ⟨rv, rfl, hO7, hb7⟩
        have l7 : Later W6 W7 := hb7
        rw [HIC.out] at hO7
        obtain ⟨a7', c7', rfl, _, _⟩ := hO7.slice
        refine ⟨But.of l7, ?_⟩
        simp only [Act.put, List.setIfInBounds_toArray, List.set_cons_zero, List.set_cons_succ]
        refine anyT_one 5 rfl (by kernel_rfl) rfl ?_
        have hw7 := hw5.trans ((Later.trans l6 l7).mono hw5.size)
        refine wp_enter 40 #[.agg #[.int .u8 tos, .int .u16 id, .bool keep, .int .u8 ttl, .int .u8 proto, .int .u32 src, .int .u32 dst, .slice ao zo.length co, .slice ad ld cd], .int .u8 1, .slice a7' (icm ty cde rest zd).length c7'] (by go_simp) ?_
        refine (rwith_any tos id ttl proto src dst 1 keep _ _ ad ld cd zo (icm ty cde rest zd) W7 ((hIo.below hw7).mono hw7.size) hO7.rd h1 (by rw [HLC.out]; omega)).mono ?_
        rw [HLC.out, HF.out]
        rintro e W8 ⟨hb8, ⟨hx, _⟩ | ⟨_, a9, c9, ad9, cd9, rfl, hO9, hD9⟩⟩
        case inl => exact absurd rfl hx
        have l8 : Later W7 W8 := hb8
        refine ⟨But.of l8, ?_⟩
        simp only [Act.put, List.setIfInBounds_toArray, List.set_cons_zero, List.set_cons_succ]
        refine anyT_val (But.pre _) 6 rfl (by kernel_rfl) (by kernel_rfl) (by kernel_rfl) (fun _ _ _ _ h => h) rfl ?_; apply Exists.intro; refine ⟨fun v1 hv1 => ?_, ?_⟩; (· (go_simp; rfl)); simp only [Act.put, List.setIfInBounds_toArray, List.set_cons_zero, List.set_cons_succ]
        refine anyT_val (But.pre _) 7 rfl (by kernel_rfl) (by kernel_rfl) (by kernel_rfl) (fun _ _ _ _ h => h) rfl ?_; apply Exists.intro; refine ⟨fun v1 hv1 => ?_, ?_⟩; (· (go_simp; rfl)); simp only [Act.put, List.setIfInBounds_toArray, List.set_cons_zero, List.set_cons_succ]
        refine anyT_one 8 rfl (by kernel_rfl) rfl ?_
        have l58 := Later.trans l6 (Later.trans l7 l8)
        have r8 := (l58.block (w.heap.size + 1 + 1) (Array.getElem?_eq_some_iff.1 r5).1).trans r5
        have hw8' := hw5.trans (l58.mono hw5.size)
        have k8 := block_cell r8
        have f8 : ∀ j, W8.frozen? ⟨w.heap.size + 1 + 1, j, none⟩ = false := block_frozen r8
        unfold Oper.wp
        go_simp
        generalize hV7 : ((((((((W8.setCell ⟨w.heap.size + 1 + 1, 0, none⟩ _).setCell ⟨w.heap.size + 1 + 1, 1, none⟩ _).setCell ⟨w.heap.size + 1 + 1, 2, none⟩ _).setCell ⟨w.heap.size + 1 + 1, 3, none⟩ _).setCell ⟨w.heap.size + 1 + 1, 4, none⟩ _).setCell ⟨w.heap.size + 1 + 1, 5, none⟩ _).setCell ⟨w.heap.size + 1 + 1, 6, none⟩ _).setCell ⟨w.heap.size + 1 + 1, 7, none⟩ _).setCell ⟨w.heap.size + 1 + 1, 8, none⟩ _ = V7
        have hV8 : V7 = putRow W8 (w.heap.size + 1 + 1) 0 [.int .u8 tos, .int .u16 id, .bool keep, .int .u8 ttl, .int .u8 1, .int .u32 src, .int .u32 dst, .slice a9 zo.length c9, .slice ad9 (8 + zd.length) cd9] := hV7.symm
        have hbV : But (fun b => b = w.heap.size + 1 + 1) W8 V7 := by rw [hV8]; exact putRow_rb _ _
        have pV := putRow_all [Value.int .u8 tos, .int .u16 id, .bool keep, .int .u8 ttl, .int .u8 1, .int .u32 src, .int .u32 dst, .slice a9 zo.length c9, .slice ad9 (8 + zd.length) cd9] r8 rfl
        rw [← hV8] at pV
        clear hV7 hV8 k8 f8
        refine ⟨hbV, ?_⟩
        refine anyT_one 9 rfl (by kernel_rfl) rfl ?_
        unfold Oper.wp
        go_simp
        refine ⟨But.refl _ _, ?_⟩
        refine anyT_done (by kernel_rfl) ?_
        have PV := block_cell pV
        have hwV : Below w.heap.size w V7 := hw8'.trans (hbV.below hw8'.size (fun k hk e => by omega))
        go_wp2_with fail
        exact bodyPost_ret (v := .tuple #[.agg #[.int .u8 tos, .int .u16 id, .bool keep, .int .u8 ttl, .int .u8 1, .int .u32 src, .int .u32 dst, .slice a9 zo.length c9, .slice ad9 (8 + zd.length) cd9], .int .i64 0]) (by simp [results, Tryd.results22, go_sem, PV]) rfl ⟨hwV, .inr ⟨HF.out, a9, c9, ad9, cd9, rfl, (hO9.apart r8 (by decide) hbV).mono hw7.size, (hD9.apart r8 (by decide) hbV).mono hw7.size⟩⟩
end Go.Proofs.YtojoaidnkljcpaaDoor

/- The document's BuildUdp. -/
namespace Go.Proofs.YtojoaidnkljcpaaDoor
open Go.RowKit Go.Shelf
set_option maxRecDepth 100000
set_option linter.unusedVariables false
set_option linter.unusedSimpArgs false


/-- Bytes that grow in a row of the call's own, made behind a world. -/
def Rw (Wb : World) (v : Value) (ys : List Int) (W : World) : Prop := W.ownsRow Wb.heap.size 5 1 v ys.length (ys.map (Value.int .u8)) ∧ Below Wb.heap.size Wb W
theorem Rw.nil {Wb W : World} (h : Later Wb W) : Rw Wb (.slice none 0 0) [] W := ⟨World.ownsRow_nil _ _ _ _, h⟩
theorem Rw.later {Wb W W' : World} {v : Value} {ys : List Int} (h : Rw Wb v ys W) (l : Later W W') : Rw Wb v ys W' := ⟨row_below h.1 l (Nat.le_refl _), h.2.trans (l.mono h.2.size)⟩
theorem Rw.app {Wb W : World} {v : Value} {ys : List Int} (h : Rw Wb v ys W) (ty : TypeId) (n₀ : Nat) (sx : Value) (zs : List Int) (hI : Rd n₀ W sx zs) (hbd : ys.length + zs.length ≤ 140737488355328) :
    ∃ v' W', (Builtin.append_ #[24, 24] ty #[v, sx]).run Tryd.prog W = .ok v' W' ∧ Rw Wb v' (ys ++ zs) W' ∧ But (fun b => Wb.heap.size ≤ b) W W' := by
  obtain ⟨i0, hi, hz0, hz1, hz2⟩ := info_parts info_u8
  obtain ⟨v', W', hr, ho, hg⟩ := run_app (P := Tryd.prog) W 24 ty 5 Wb.heap.size i0 Tryd.underlying24 hi hz0 hz1 hz2 v ys h.1 n₀ sx zs hI hbd h.2.size
  exact ⟨v', W', hr, ⟨ho, below_app h.2 h.1 hg (Nat.le_refl _) h.2.size⟩, but_app h.1 hg⟩
theorem wpList_rw {ops : Array Oper} {rest : List Oper} {o : Oper} {a : Act} {Q : Exit → Act → World → Prop} (w : World) (hgd : o.guard = none) (s x : Operand)
    (ho : o.op = .call { callee := .builtin .append, args := #[s, x], argTypes := #[24, 24] }) {Wb : World} {v : Value} {ys : List Int} (hR : Rw Wb v ys w) (hs : a.eval s = v)
    (n₀ : Nat) (sx : Value) (zs : List Int) (hx : a.eval x = sx) (hI : Rd n₀ w sx zs) (hbd : ys.length + zs.length ≤ 140737488355328)
    (h : ∀ v' w', Rw Wb v' (ys ++ zs) w' → wpList Tryd.prog ops Q rest (a.put o.dst v') w') : wpList Tryd.prog ops Q (o :: rest) a w := by
  obtain ⟨i0, hi, hz0, hz1, hz2⟩ := info_parts info_u8
  exact wpList_app w hgd s x 24 ho Wb.heap.size 5 i0 Tryd.underlying24 hi hz0 hz1 hz2 v ys hs hR.1 n₀ sx zs hx hI hbd hR.2.size (fun v' w' h1 h2 => h v' w' ⟨h1, below_app hR.2 hR.1 h2 (Nat.le_refl _) hR.2.size⟩)
theorem Rw.ow {Wb W : World} {v : Value} {ys : List Int} (h : Rw Wb v ys W) : Ow Wb.heap.size W v ys := Ow.of_row h.1
theorem Rw.block {Wb W : World} {v : Value} {ys : List Int} (h : Rw Wb v ys W) {k : Nat} {o : Obj} (ho : Wb.heap[k]? = some o) : W.heap[k]? = some o := (h.2.block k (Array.getElem?_eq_some_iff.1 ho).1).trans ho
theorem later_two (W : World) (x y : Int) : Later W (W.alloc (.cells #[.int .u8 x, .int .u8 y] 5)) := (Below.refl _ _).alloc (Nat.le_refl _) _

set_option maxHeartbeats 8000000 in
theorem rbuildUdp_any (tos id ttl proto src dst sp dp : Int) (keep bare : Bool) (so sm : Value) (ad : Option Addr) (ld cd : Nat) (zo zm : List Int) (w : World) (hIo : Rd w.heap.size w so zo) (hBd : Mt.By zm) (hIm : Rd w.heap.size w sm zm)
    (h1 : zo.length ≤ 140737488355328) (h2 : 8 + zm.length ≤ 140737488355328) (hsr : 0 ≤ src ∧ src ≤ 4294967295) (hds : 0 ≤ dst ∧ dst ≤ 4294967295) (hsp : 0 ≤ sp ∧ sp ≤ 65535) (hdp : 0 ≤ dp ∧ dp ≤ 65535) :
    Calls Tryd.prog 21 #[.agg #[.int .u8 tos, .int .u16 id, .bool keep, .int .u8 ttl, .int .u8 proto, .int .u32 src, .int .u32 dst, so, .slice ad ld cd], .agg #[.int .u16 sp, .int .u16 dp, .bool bare, sm]] w fun e w' => Below w.heap.size w w' ∧ ((flt zo.length (8 + zm.length) ≠ 0 ∧ e = .returned (.tuple #[.agg #[.int .u8 0, .int .u16 0, .bool false, .int .u8 0, .int .u8 0, .int .u32 0, .int .u32 0, .slice none 0 0, .slice none 0 0], .int .i64 (flt zo.length (8 + zm.length))])) ∨
      (flt zo.length (8 + zm.length) = 0 ∧ ∃ a7 c7 a8 c8, e = .returned (.tuple #[.agg #[.int .u8 tos, .int .u16 id, .bool keep, .int .u8 ttl, .int .u8 17, .int .u32 src, .int .u32 dst, .slice a7 zo.length c7, .slice a8 (8 + zm.length) c8], .int .i64 0]) ∧ Ow w.heap.size w' (.slice a7 zo.length c7) zo ∧ Ow w.heap.size w' (.slice a8 (8 + zm.length) c8) (udp sp dp bare src dst zm))) := by
  obtain ⟨ao, co, rfl, _, _⟩ := hIo.slice
  obtain ⟨am, cm, rfl, _, _⟩ := hIm.slice
  have hb0 : Below w.heap.size w (((w.alloc (.cells #[.int .u8 tos, .int .u16 id, .bool keep, .int .u8 ttl, .int .u8 proto, .int .u32 src, .int .u32 dst, .slice ao zo.length co, .slice ad ld cd] 26)).alloc (.cells #[.int .u16 sp, .int .u16 dp, .bool bare, .slice am zm.length cm] 45)).alloc (.cells #[.int .u8 0, .int .u16 0, .bool false, .int .u8 0, .int .u8 0, .int .u32 0, .int .u32 0, .slice none 0 0, .slice none 0 0] 26)) := (((Below.refl _ _).alloc (Nat.le_refl _) _).alloc (by simp) _).alloc (by simp; omega) _
  have p0 : (((w.alloc (.cells #[.int .u8 tos, .int .u16 id, .bool keep, .int .u8 ttl, .int .u8 proto, .int .u32 src, .int .u32 dst, .slice ao zo.length co, .slice ad ld cd] 26)).alloc (.cells #[.int .u16 sp, .int .u16 dp, .bool bare, .slice am zm.length cm] 45)).alloc (.cells #[.int .u8 0, .int .u16 0, .bool false, .int .u8 0, .int .u8 0, .int .u32 0, .int .u32 0, .slice none 0 0, .slice none 0 0] 26)).heap[w.heap.size]? = some (.cells #[.int .u8 tos, .int .u16 id, .bool keep, .int .u8 ttl, .int .u8 proto, .int .u32 src, .int .u32 dst, .slice ao zo.length co, .slice ad ld cd] 26) := (Below.heap_alloc _ _ _ (by simp; omega)).trans ((Below.heap_alloc _ _ _ (by simp)).trans (heap_alloc_new w _))
  have m0 : (((w.alloc (.cells #[.int .u8 tos, .int .u16 id, .bool keep, .int .u8 ttl, .int .u8 proto, .int .u32 src, .int .u32 dst, .slice ao zo.length co, .slice ad ld cd] 26)).alloc (.cells #[.int .u16 sp, .int .u16 dp, .bool bare, .slice am zm.length cm] 45)).alloc (.cells #[.int .u8 0, .int .u16 0, .bool false, .int .u8 0, .int .u8 0, .int .u32 0, .int .u32 0, .slice none 0 0, .slice none 0 0] 26)).heap[w.heap.size + 1]? = some (.cells #[.int .u16 sp, .int .u16 dp, .bool bare, .slice am zm.length cm] 45) := by
    have := heap_alloc_new (w.alloc (.cells #[.int .u8 tos, .int .u16 id, .bool keep, .int .u8 ttl, .int .u8 proto, .int .u32 src, .int .u32 dst, .slice ao zo.length co, .slice ad ld cd] 26)) (.cells #[.int .u16 sp, .int .u16 dp, .bool bare, .slice am zm.length cm] 45)
    rw [World.size_alloc] at this
    exact (Below.heap_alloc _ _ _ (by simp)).trans this
  have r0 : (((w.alloc (.cells #[.int .u8 tos, .int .u16 id, .bool keep, .int .u8 ttl, .int .u8 proto, .int .u32 src, .int .u32 dst, .slice ao zo.length co, .slice ad ld cd] 26)).alloc (.cells #[.int .u16 sp, .int .u16 dp, .bool bare, .slice am zm.length cm] 45)).alloc (.cells #[.int .u8 0, .int .u16 0, .bool false, .int .u8 0, .int .u8 0, .int .u32 0, .int .u32 0, .slice none 0 0, .slice none 0 0] 26)).heap[w.heap.size + 1 + 1]? = some (.cells #[.int .u8 0, .int .u16 0, .bool false, .int .u8 0, .int .u8 0, .int .u32 0, .int .u32 0, .slice none 0 0, .slice none 0 0] 26 (0, 0)) := by
    have := heap_alloc_new ((w.alloc (.cells #[.int .u8 tos, .int .u16 id, .bool keep, .int .u8 ttl, .int .u8 proto, .int .u32 src, .int .u32 dst, .slice ao zo.length co, .slice ad ld cd] 26)).alloc (.cells #[.int .u16 sp, .int .u16 dp, .bool bare, .slice am zm.length cm] 45)) (.cells #[.int .u8 0, .int .u16 0, .bool false, .int .u8 0, .int .u8 0, .int .u32 0, .int .u32 0, .slice none 0 0, .slice none 0 0] 26)
    simpa using this
  have P0 := hide p0
  have M0 := hide m0
  have R0 := hide r0
  clear p0 m0 r0
  go_enter Tryd.func21, Tryd.ntmps21
  go_wp2_with fail
  generalize ((w.alloc (.cells #[.int .u8 tos, .int .u16 id, .bool keep, .int .u8 ttl, .int .u8 proto, .int .u32 src, .int .u32 dst, .slice ao zo.length co, .slice ad ld cd] 26)).alloc (.cells #[.int .u16 sp, .int .u16 dp, .bool bare, .slice am zm.length cm] 45)).alloc (.cells #[.int .u8 0, .int .u16 0, .bool false, .int .u8 0, .int .u8 0, .int .u32 0, .int .u32 0, .slice none 0 0, .slice none 0 0] 26) = w0 at *
  refine (rwith_any tos id ttl proto src dst 17 keep _ _ ad ld cd zo [] w0 ((hIo.below hb0).mono hb0.size) (rd_zero w0) h1 (by simp)).mono ?_
  rintro e w1 ⟨hb1, ⟨hf, rfl⟩ | ⟨hf, a7, c7, a8, c8, rfl, hO1, hD1⟩⟩
  · obtain ⟨f4, f4'⟩ := flt_none zo.length hf (8 + zm.length)
    rw [show ([] : List Int).length = 0 from rfl, f4]
    have HF := hide f4'
    clear f4 f4' hf
    have l2 : Later w1 (w1.alloc (.cells #[.int .u8 0, .int .u16 0, .bool false, .int .u8 0, .int .u8 0, .int .u32 0, .int .u32 0, .slice none 0 0, .slice none 0 0] 26)) := (Below.refl _ _).alloc (Nat.le_refl _) _
    have l02 := Later.trans hb1 l2
    have r2 := (l02.block (w.heap.size + 1 + 1) (Array.getElem?_eq_some_iff.1 R0.out).1).trans R0.out
    have hw2 := hb0.trans (l02.mono hb0.size)
    have RR := block_cell r2
    have FF := block_frozen r2
    go_wp2_with fail
    generalize w1.alloc (.cells #[.int .u8 0, .int .u16 0, .bool false, .int .u8 0, .int .u8 0, .int .u32 0, .int .u32 0, .slice none 0 0, .slice none 0 0] 26) = w2 at *
    generalize hV : ((((((((w2.setCell ⟨w.heap.size + 1 + 1, 0, none⟩ _).setCell ⟨w.heap.size + 1 + 1, 1, none⟩ _).setCell ⟨w.heap.size + 1 + 1, 2, none⟩ _).setCell ⟨w.heap.size + 1 + 1, 3, none⟩ _).setCell ⟨w.heap.size + 1 + 1, 4, none⟩ _).setCell ⟨w.heap.size + 1 + 1, 5, none⟩ _).setCell ⟨w.heap.size + 1 + 1, 6, none⟩ _).setCell ⟨w.heap.size + 1 + 1, 7, none⟩ _).setCell ⟨w.heap.size + 1 + 1, 8, none⟩ _ = V8
    have hV9 : V8 = putRow w2 (w.heap.size + 1 + 1) 0 [Value.int .u8 0, .int .u16 0, .bool false, .int .u8 0, .int .u8 0, .int .u32 0, .int .u32 0, .slice none 0 0, .slice none 0 0] := hV.symm
    have hb8 : But (fun b => b = w.heap.size + 1 + 1) w2 V8 := by rw [hV9]; exact putRow_but (E := fun b => b = w.heap.size + 1 + 1) (n := w.heap.size + 1 + 1) rfl _ _ _ _ (But.refl _ _)
    have p8 := putRow_all [Value.int .u8 0, .int .u16 0, .bool false, .int .u8 0, .int .u8 0, .int .u32 0, .int .u32 0, .slice none 0 0, .slice none 0 0] r2 rfl
    rw [← hV9] at p8
    clear hV hV9
    have P8 := block_cell p8
    have hw8 : Below w.heap.size w V8 := (hw2).trans (hb8.below (hw2).size (fun k h e => by omega))
    exact bodyPost_ret (v := .tuple #[.agg #[.int .u8 0, .int .u16 0, .bool false, .int .u8 0, .int .u8 0, .int .u32 0, .int .u32 0, .slice none 0 0, .slice none 0 0], .int .i64 4]) (by simp [results, Tryd.results21, go_sem, P8]) rfl (⟨hw8, .inl ⟨by rw [HF.out]; decide, by rw [HF.out]⟩⟩)
  · have f0 := flt_some zo.length hf (8 + zm.length)
    clear hf
    have l2 : Later w1 (w1.alloc (.cells #[.int .u8 tos, .int .u16 id, .bool keep, .int .u8 ttl, .int .u8 17, .int .u32 src, .int .u32 dst, .slice a7 zo.length c7, .slice a8 ([] : List Int).length c8] 26)) := (Below.refl _ _).alloc (Nat.le_refl _) _
    have l02 := Later.trans hb1 l2
    have p2 := (l02.block w.heap.size (Array.getElem?_eq_some_iff.1 P0.out).1).trans P0.out
    have m2 := (l02.block (w.heap.size + 1) (Array.getElem?_eq_some_iff.1 M0.out).1).trans M0.out
    have r2 := (l02.block (w.heap.size + 1 + 1) (Array.getElem?_eq_some_iff.1 R0.out).1).trans R0.out
    have hw2 := hb0.trans (l02.mono hb0.size)
    have PP := block_cell p2
    have MM := block_cell m2
    rw [show ([] : List Int).length = 0 from rfl] at *
    by_cases c3 : 65535 < 20 + zo.length + (8 + zm.length)
    · have t3 : (65535 : Int) < 28 + zo.length + zm.length := by omega
      rw [if_pos c3] at f0
      have HF := hide f0
      clear f0 c3
      have RR := block_cell r2
      have FF := block_frozen r2
      go_wp2_with fail
      generalize w1.alloc (.cells #[.int .u8 tos, .int .u16 id, .bool keep, .int .u8 ttl, .int .u8 17, .int .u32 src, .int .u32 dst, .slice a7 zo.length c7, .slice a8 0 c8] 26) = w2 at *
      generalize hV : ((((((((w2.setCell ⟨w.heap.size + 1 + 1, 0, none⟩ _).setCell ⟨w.heap.size + 1 + 1, 1, none⟩ _).setCell ⟨w.heap.size + 1 + 1, 2, none⟩ _).setCell ⟨w.heap.size + 1 + 1, 3, none⟩ _).setCell ⟨w.heap.size + 1 + 1, 4, none⟩ _).setCell ⟨w.heap.size + 1 + 1, 5, none⟩ _).setCell ⟨w.heap.size + 1 + 1, 6, none⟩ _).setCell ⟨w.heap.size + 1 + 1, 7, none⟩ _).setCell ⟨w.heap.size + 1 + 1, 8, none⟩ _ = V8
      have hV9 : V8 = putRow w2 (w.heap.size + 1 + 1) 0 [Value.int .u8 0, .int .u16 0, .bool false, .int .u8 0, .int .u8 0, .int .u32 0, .int .u32 0, .slice none 0 0, .slice none 0 0] := hV.symm
      have hb8 : But (fun b => b = w.heap.size + 1 + 1) w2 V8 := by rw [hV9]; exact putRow_but (E := fun b => b = w.heap.size + 1 + 1) (n := w.heap.size + 1 + 1) rfl _ _ _ _ (But.refl _ _)
      have p8 := putRow_all [Value.int .u8 0, .int .u16 0, .bool false, .int .u8 0, .int .u8 0, .int .u32 0, .int .u32 0, .slice none 0 0, .slice none 0 0] r2 rfl
      rw [← hV9] at p8
      clear hV hV9
      have P8 := block_cell p8
      have hw8 : Below w.heap.size w V8 := (hw2).trans (hb8.below (hw2).size (fun k h e => by omega))
      exact bodyPost_ret (v := .tuple #[.agg #[.int .u8 0, .int .u16 0, .bool false, .int .u8 0, .int .u8 0, .int .u32 0, .int .u32 0, .slice none 0 0, .slice none 0 0], .int .i64 8]) (by simp [results, Tryd.results21, go_sem, P8]) rfl (⟨hw8, .inl ⟨by rw [HF.out]; decide, by rw [HF.out]⟩⟩)
    · have t3 : ¬ (65535 : Int) < 28 + zo.length + zm.length := by omega
      rw [if_neg c3] at f0
      have HF := hide f0
      clear f0
      go_upto_region 7 with fail
      generalize w1.alloc (.cells #[.int .u8 tos, .int .u16 id, .bool keep, .int .u8 ttl, .int .u8 17, .int .u32 src, .int .u32 dst, .slice a7 zo.length c7, .slice a8 0 c8] 26) = w2 at *
      clear PP MM l02 hb0
      have hsr2 := (Array.getElem?_eq_some_iff.1 r2).1
      go_cut [8] (fun v wx => Rw w2 v ([sp, dp].flatMap b2) wx)
      case first =>
        refine anyT_begin (R := But (fun b => w2.heap.size ≤ b)) 10 rfl (by kernel_rfl) ?_
        have R0 : Rw w2 (.slice none 0 0) [] w2.drew := Rw.nil (Later.drew w2)
        have md := R0.block m2
        generalize w2.drew = Wd at *
        have ha : ∀ v1, But (fun b => w2.heap.size ≤ b) Wd v1 → ∀ i, v1.cell? ⟨w.heap.size + 1, i, none⟩ = #[Value.int .u16 sp, .int .u16 dp, .bool bare, .slice am zm.length cm][i]? := fun v1 h => block_cell ((h.block (w.heap.size + 1) (Array.getElem?_eq_some_iff.1 md).1 (by omega)).trans md)
        refine anyT_val (But.pre _) 0 rfl (by kernel_rfl) (by kernel_rfl) (by kernel_rfl) (fun _ _ _ _ h => h) rfl ?_; apply Exists.intro; refine ⟨fun v1 hv1 => ?_, ?_⟩; (· (go_simp; rfl)); simp only [Act.put, List.setIfInBounds_toArray, List.set_cons_zero, List.set_cons_succ]
        refine anyT_val (But.pre _) 1 rfl (by kernel_rfl) (by kernel_rfl) (by kernel_rfl) (fun _ _ _ _ h => h) rfl ?_; apply Exists.intro; refine ⟨fun v1 hv1 => ?_, ?_⟩; (· (go_simp; rfl)); simp only [Act.put, List.setIfInBounds_toArray, List.set_cons_zero, List.set_cons_succ]
        refine anyT_val (But.pre _) 2 rfl (by kernel_rfl) (by kernel_rfl) (by kernel_rfl) (fun _ _ _ _ h => h) rfl ?_; apply Exists.intro; refine ⟨fun v1 hv1 => ?_, ?_⟩; (· (go_simp; rfl)); simp only [Act.put, List.setIfInBounds_toArray, List.set_cons_zero, List.set_cons_succ]
        refine anyT_val (But.pre _) 5 rfl (by kernel_rfl) (by kernel_rfl) (by kernel_rfl) (fun _ _ _ _ h => h) rfl ?_; apply Exists.intro; refine ⟨fun v1 hv1 => ?_, ?_⟩; (· (go_simp; rfl)); simp only [Act.put, List.setIfInBounds_toArray, List.set_cons_zero, List.set_cons_succ]
        refine anyT_val (But.pre _) 6 rfl (by kernel_rfl) (by kernel_rfl) (by kernel_rfl) (fun _ _ _ _ h => h) rfl ?_; apply Exists.intro; refine ⟨fun v1 hv1 => ?_, ?_⟩; (· (go_simp; rfl)); simp only [Act.put, List.setIfInBounds_toArray, List.set_cons_zero, List.set_cons_succ]
        refine anyT_one 3 rfl (by kernel_rfl) rfl ?_
        refine wp_enter 38 #[.int .u16 sp] (by go_simp) ?_
        refine (two_any sp hsp Wd).mono ?_
        rintro e w4 ⟨rfl, rfl⟩
        have R4 := R0.later (later_two Wd (sp / 256) (sp % 256))
        have X4 := Rd.new2 (sp / 256) (sp % 256) 5 Wd
        refine ⟨But.of (later_two Wd _ _), ?_⟩
        simp only [Act.put, List.setIfInBounds_toArray, List.set_cons_zero, List.set_cons_succ]
        generalize Wd.alloc (.cells #[.int .u8 (sp / 256), .int .u8 (sp % 256)] 5) = W4 at *
        refine anyT_one 4 rfl (by kernel_rfl) rfl ?_
        obtain ⟨v5, W5, hrun5, R5, bt5⟩ := R4.app 24 _ _ _ X4 (by simp)
        refine wp_app (.tmp 29) (.tmp 32) 24 rfl _ _ rfl rfl _ W5 hrun5 ⟨bt5, ?_⟩
        simp only [Act.put, List.setIfInBounds_toArray, List.set_cons_zero, List.set_cons_succ]
        refine anyT_one 7 rfl (by kernel_rfl) rfl ?_
        refine wp_enter 38 #[.int .u16 dp] (by go_simp) ?_
        refine (two_any dp hdp W5).mono ?_
        rintro e w4 ⟨rfl, rfl⟩
        have R6 := R5.later (later_two W5 (dp / 256) (dp % 256))
        have X6 := Rd.new2 (dp / 256) (dp % 256) 5 W5
        refine ⟨But.of (later_two W5 _ _), ?_⟩
        simp only [Act.put, List.setIfInBounds_toArray, List.set_cons_zero, List.set_cons_succ]
        generalize W5.alloc (.cells #[.int .u8 (dp / 256), .int .u8 (dp % 256)] 5) = W6 at *
        refine anyT_one 8 rfl (by kernel_rfl) rfl ?_
        obtain ⟨v7, W7, hrun7, R7, bt7⟩ := R6.app 24 _ _ _ X6 (by simp)
        refine wp_app (.tmp 33) (.tmp 36) 24 rfl _ _ rfl rfl _ W7 hrun7 ⟨bt7, ?_⟩
        simp only [Act.put, List.setIfInBounds_toArray, List.set_cons_zero, List.set_cons_succ]
        refine anyT_one 9 rfl (by kernel_rfl) rfl ?_
        unfold Oper.wp
        go_simp
        refine ⟨But.refl _ _, ?_⟩
        refine anyT_done (by kernel_rfl) ?_
        clear ha hrun5 hrun7
        go_wp2_with fail
        go_meet
        case rel => exact R7
      case rest =>
        have R3 : Rw w2 _ ([sp, dp].flatMap b2) wc := hcut
        clear hcut
        have mc := block_cell (R3.block m2)
        have hl8 : (8 + (zm.length : Int)) % 65536 = 8 + zm.length := by omega
        have hw8 : 8 + (zm.length : Int) ≤ 65535 := by omega
        go_wp2_with fail
        refine (two_any (8 + zm.length) (by omega) wc).mono ?_
        rintro e w4 ⟨rfl, rfl⟩
        have R4 := R3.later (later_two wc ((8 + zm.length) / 256) ((8 + zm.length) % 256))
        have X4 := Rd.new2 ((8 + (zm.length : Int)) / 256) ((8 + zm.length) % 256) 5 wc
        clear mc
        generalize wc.alloc (.cells #[.int .u8 ((8 + (zm.length : Int)) / 256), .int .u8 ((8 + zm.length) % 256)] 5) = W4 at *
        generalize some (⟨wc.heap.size, 0, none⟩ : Addr) = a4 at *
        go_wp2_with (at_builtin; go_loud (refine wpList_rw _ rfl (.tmp 38) (.tmp 44) rfl R4 rfl _ _ _ rfl X4 (by simp [b2]) ?_; intro v5 W5 R5; refine Hid.out ?_))
        have R6 := R5.later (later_two W5 0 0)
        have X6 := Rd.new2 0 0 5 W5
        show wpList _ _ _ _ _ _
        go_wp2_with (at_builtin; go_loud (refine wpList_rw _ rfl (.tmp 45) (.tmp 46) rfl R6 rfl _ _ _ rfl X6 (by simp [b2]) ?_; intro v7 W7 R7; refine Hid.out ?_))
        have m7 := block_cell (R7.block m2)
        have hRm : Rd w.heap.size W7 (.slice am zm.length cm) zm := hIm.below (hw2.trans (R7.2.mono hw2.size))
        show wpList _ _ _ _ _ _
        go_wp2_with (at_builtin; go_loud (refine wpList_rw _ rfl (.tmp 48) (.tmp 50) rfl R7 rfl _ _ _ rfl hRm (by simp [b2]; omega) ?_; intro v8 W8 R8; refine Hid.out ?_))
        have hlist : (([sp, dp].flatMap b2 ++ [(8 + (zm.length : Int)) / 256, (8 + zm.length) % 256]) ++ [0, 0]) ++ zm = udp0 sp dp zm := by unfold udp0; rw [hl8]; simp [b2]
        rw [hlist] at R8
        have m8 := block_cell (R8.block m2)
        have p8 := block_cell (R8.block p2)
        have r8 := R8.block r2
        have hO8 := R8.ow
        have hw8' := hw2.trans (R8.2.mono hw2.size)
        clear m7 R3 R4 R5 R6 R7 X4 X6 hRm hlist
        show wpList _ _ _ _ _ _
        have pb := R8.block p2
        obtain ⟨a8', c8', rfl, _, _⟩ := hO8.slice
        have hBu : Mt.By (udp0 sp dp zm) := By_udp0 sp dp zm hsp hdp hBd
        have hlu := udp0_length sp dp zm
        have HLC := hide (udp_length sp dp bare src dst zm)
        have HLU := hide hlu
        clear hlu
        have hz : 8 + zm.length ≤ 65535 := by omega
        clear hl8 t3 hw8 R8
        cases bare
        · have HUD : Hid (putAt2 (udp0 sp dp zm) 6 (usm src dst 17 (udp0 sp dp zm)) = udp sp dp false src dst zm) := by show _ = _; unfold putAt2 udp; rw [if_pos (by rw [HLU.out]; omega)]; rfl
          have hub := usm_bd src dst 17 (udp0 sp dp zm)
          generalize udp0 sp dp zm = bb at *
          go_wp2_with fail
          refine (rsum3_any tos id ttl proto src dst 17 keep _ _ _ bb W8 hBu hO8.rd (by rw [HLU.out]; omega) (by omega) hsr hds).mono ?_
          rintro e W9 ⟨rfl, hb9⟩
          have HU : Hid (usm src dst 17 bb = if Mt.cks (psd src dst 17 bb.length ++ bb) = 0 then 65535 else Mt.cks (psd src dst 17 bb.length ++ bb)) := rfl
          generalize Mt.cks (psd src dst 17 bb.length ++ bb) = c at *
          by_cases hc : c = 0
          · subst hc
            rw [show usm src dst 17 bb = 65535 from HU.out] at HUD
            clear HU hub
            go_wp2_with fail
            refine (rput16_any _ bb 6 65535 (by omega) (by rw [HLU.out]; omega) W9 (hO8.later hb9).rd (by omega)).mono ?_
            rintro e W10 ⟨rv, rfl, hO10, hb10⟩
            rw [HUD.out] at hO10
            obtain ⟨a10, c10, rfl, _, _⟩ := hO10.slice
            have l10 : Later W8 W10 := Later.trans hb9 hb10
            have p10 := block_cell (later_keep l10 pb)
            go_wp2_with fail
            have pn := block_cell (later_keep l10 pb)
            have rn := later_keep l10 r8
            have hwn := hw8'.trans ((l10).mono hw8'.size)
            refine (rwith_any tos id ttl proto src dst 17 keep _ _ ad ld cd zo (udp sp dp false src dst zm) W10 ((hIo.below hwn).mono hwn.size) hO10.rd h1 (by rw [HLC.out]; omega)).mono ?_
            rw [HLC.out, HF.out]
            rintro e WX ⟨hbX, ⟨hx, _⟩ | ⟨_, a9, c9, ad9, cd9, rfl, hO9, hD9⟩⟩
            case inl => exact absurd rfl hx
            have rX := later_keep hbX rn
            have hwX := hwn.trans (hbX.mono hwn.size)
            have kX := block_cell rX
            have fX := block_frozen rX
            clear pn m8 p8
            go_wp2_with fail
            generalize hV : ((((((((WX.setCell ⟨w.heap.size + 1 + 1, 0, none⟩ _).setCell ⟨w.heap.size + 1 + 1, 1, none⟩ _).setCell ⟨w.heap.size + 1 + 1, 2, none⟩ _).setCell ⟨w.heap.size + 1 + 1, 3, none⟩ _).setCell ⟨w.heap.size + 1 + 1, 4, none⟩ _).setCell ⟨w.heap.size + 1 + 1, 5, none⟩ _).setCell ⟨w.heap.size + 1 + 1, 6, none⟩ _).setCell ⟨w.heap.size + 1 + 1, 7, none⟩ _).setCell ⟨w.heap.size + 1 + 1, 8, none⟩ _ = V
            have hV8 : V = putRow WX (w.heap.size + 1 + 1) 0 [.int .u8 tos, .int .u16 id, .bool keep, .int .u8 ttl, .int .u8 17, .int .u32 src, .int .u32 dst, .slice a9 zo.length c9, .slice ad9 (8 + zm.length) cd9] := hV.symm
            have hbV : But (fun b => b = w.heap.size + 1 + 1) WX V := by rw [hV8]; exact putRow_rb _ _
            have pV := putRow_all [Value.int .u8 tos, .int .u16 id, .bool keep, .int .u8 ttl, .int .u8 17, .int .u32 src, .int .u32 dst, .slice a9 zo.length c9, .slice ad9 (8 + zm.length) cd9] rX rfl
            rw [← hV8] at pV
            clear hV hV8 kX fX
            have PV := block_cell pV
            have hwV : Below w.heap.size w V := hwX.trans (hbV.below hwX.size (fun k hk e => by omega))
            exact bodyPost_ret (v := .tuple #[.agg #[.int .u8 tos, .int .u16 id, .bool keep, .int .u8 ttl, .int .u8 17, .int .u32 src, .int .u32 dst, .slice a9 zo.length c9, .slice ad9 (8 + zm.length) cd9], .int .i64 0]) (by simp [results, Tryd.results21, go_sem, PV]) rfl ⟨hwV, .inr ⟨HF.out, a9, c9, ad9, cd9, rfl, (hO9.apart rX (by decide) hbV).mono hwn.size, (hD9.apart rX (by decide) hbV).mono hwn.size⟩⟩
          · have hu : usm src dst 17 bb = c := HU.out.trans (if_neg hc)
            rw [hu] at HUD hub
            have hc' : (c == 0) = false := by simp [hc]
            clear HU hu hc
            go_wp2_with fail
            refine (rput16_any _ bb 6 c (by omega) (by rw [HLU.out]; omega) W9 (hO8.later hb9).rd (by omega)).mono ?_
            rintro e W10 ⟨rv, rfl, hO10, hb10⟩
            rw [HUD.out] at hO10
            obtain ⟨a10, c10, rfl, _, _⟩ := hO10.slice
            have l10 : Later W8 W10 := Later.trans hb9 hb10
            have p10 := block_cell (later_keep l10 pb)
            go_wp2_with fail
            have pn := block_cell (later_keep l10 pb)
            have rn := later_keep l10 r8
            have hwn := hw8'.trans ((l10).mono hw8'.size)
            refine (rwith_any tos id ttl proto src dst 17 keep _ _ ad ld cd zo (udp sp dp false src dst zm) W10 ((hIo.below hwn).mono hwn.size) hO10.rd h1 (by rw [HLC.out]; omega)).mono ?_
            rw [HLC.out, HF.out]
            rintro e WX ⟨hbX, ⟨hx, _⟩ | ⟨_, a9, c9, ad9, cd9, rfl, hO9, hD9⟩⟩
            case inl => exact absurd rfl hx
            have rX := later_keep hbX rn
            have hwX := hwn.trans (hbX.mono hwn.size)
            have kX := block_cell rX
            have fX := block_frozen rX
            clear pn m8 p8
            go_wp2_with fail
            generalize hV : ((((((((WX.setCell ⟨w.heap.size + 1 + 1, 0, none⟩ _).setCell ⟨w.heap.size + 1 + 1, 1, none⟩ _).setCell ⟨w.heap.size + 1 + 1, 2, none⟩ _).setCell ⟨w.heap.size + 1 + 1, 3, none⟩ _).setCell ⟨w.heap.size + 1 + 1, 4, none⟩ _).setCell ⟨w.heap.size + 1 + 1, 5, none⟩ _).setCell ⟨w.heap.size + 1 + 1, 6, none⟩ _).setCell ⟨w.heap.size + 1 + 1, 7, none⟩ _).setCell ⟨w.heap.size + 1 + 1, 8, none⟩ _ = V
            have hV8 : V = putRow WX (w.heap.size + 1 + 1) 0 [.int .u8 tos, .int .u16 id, .bool keep, .int .u8 ttl, .int .u8 17, .int .u32 src, .int .u32 dst, .slice a9 zo.length c9, .slice ad9 (8 + zm.length) cd9] := hV.symm
            have hbV : But (fun b => b = w.heap.size + 1 + 1) WX V := by rw [hV8]; exact putRow_rb _ _
            have pV := putRow_all [Value.int .u8 tos, .int .u16 id, .bool keep, .int .u8 ttl, .int .u8 17, .int .u32 src, .int .u32 dst, .slice a9 zo.length c9, .slice ad9 (8 + zm.length) cd9] rX rfl
            rw [← hV8] at pV
            clear hV hV8 kX fX
            have PV := block_cell pV
            have hwV : Below w.heap.size w V := hwX.trans (hbV.below hwX.size (fun k hk e => by omega))
            exact bodyPost_ret (v := .tuple #[.agg #[.int .u8 tos, .int .u16 id, .bool keep, .int .u8 ttl, .int .u8 17, .int .u32 src, .int .u32 dst, .slice a9 zo.length c9, .slice ad9 (8 + zm.length) cd9], .int .i64 0]) (by simp [results, Tryd.results21, go_sem, PV]) rfl ⟨hwV, .inr ⟨HF.out, a9, c9, ad9, cd9, rfl, (hO9.apart rX (by decide) hbV).mono hwn.size, (hD9.apart rX (by decide) hbV).mono hwn.size⟩⟩
        · rw [show udp0 sp dp zm = udp sp dp true src dst zm from rfl] at *
          go_wp2_with fail
          have pn := block_cell (later_keep (Later.refl W8) pb)
          have rn := later_keep (Later.refl W8) r8
          have hwn := hw8'.trans (((Later.refl W8)).mono hw8'.size)
          refine (rwith_any tos id ttl proto src dst 17 keep _ _ ad ld cd zo (udp sp dp true src dst zm) W8 ((hIo.below hwn).mono hwn.size) hO8.rd h1 (by rw [HLC.out]; omega)).mono ?_
          rw [HLC.out, HF.out]
          rintro e WX ⟨hbX, ⟨hx, _⟩ | ⟨_, a9, c9, ad9, cd9, rfl, hO9, hD9⟩⟩
          case inl => exact absurd rfl hx
          have rX := later_keep hbX rn
          have hwX := hwn.trans (hbX.mono hwn.size)
          have kX := block_cell rX
          have fX := block_frozen rX
          clear pn m8 p8
          go_wp2_with fail
          generalize hV : ((((((((WX.setCell ⟨w.heap.size + 1 + 1, 0, none⟩ _).setCell ⟨w.heap.size + 1 + 1, 1, none⟩ _).setCell ⟨w.heap.size + 1 + 1, 2, none⟩ _).setCell ⟨w.heap.size + 1 + 1, 3, none⟩ _).setCell ⟨w.heap.size + 1 + 1, 4, none⟩ _).setCell ⟨w.heap.size + 1 + 1, 5, none⟩ _).setCell ⟨w.heap.size + 1 + 1, 6, none⟩ _).setCell ⟨w.heap.size + 1 + 1, 7, none⟩ _).setCell ⟨w.heap.size + 1 + 1, 8, none⟩ _ = V
          have hV8 : V = putRow WX (w.heap.size + 1 + 1) 0 [.int .u8 tos, .int .u16 id, .bool keep, .int .u8 ttl, .int .u8 17, .int .u32 src, .int .u32 dst, .slice a9 zo.length c9, .slice ad9 (8 + zm.length) cd9] := hV.symm
          have hbV : But (fun b => b = w.heap.size + 1 + 1) WX V := by rw [hV8]; exact putRow_rb _ _
          have pV := putRow_all [Value.int .u8 tos, .int .u16 id, .bool keep, .int .u8 ttl, .int .u8 17, .int .u32 src, .int .u32 dst, .slice a9 zo.length c9, .slice ad9 (8 + zm.length) cd9] rX rfl
          rw [← hV8] at pV
          clear hV hV8 kX fX
          have PV := block_cell pV
          have hwV : Below w.heap.size w V := hwX.trans (hbV.below hwX.size (fun k hk e => by omega))
          exact bodyPost_ret (v := .tuple #[.agg #[.int .u8 tos, .int .u16 id, .bool keep, .int .u8 ttl, .int .u8 17, .int .u32 src, .int .u32 dst, .slice a9 zo.length c9, .slice ad9 (8 + zm.length) cd9], .int .i64 0]) (by simp [results, Tryd.results21, go_sem, PV]) rfl ⟨hwV, .inr ⟨HF.out, a9, c9, ad9, cd9, rfl, (hO9.apart rX (by decide) hbV).mono hwn.size, (hD9.apart rX (by decide) hbV).mono hwn.size⟩⟩
end Go.Proofs.YtojoaidnkljcpaaDoor

/- Layer 5: live. -/
namespace Go.Proofs.YtojoaidnkljcpaaDoor
open Go.RowKit Go.Shelf
set_option maxRecDepth 100000
set_option linter.unusedVariables false
set_option linter.unusedSimpArgs false

def z5 : List Int := udp 3 4 false 1 2 []
theorem z5_pue : pue 17 1 2 z5 = 0 := by decide +kernel
theorem z5_len : z5.length = 8 := by decide +kernel
theorem z5_w0 : wat z5 0 = 3 := by decide +kernel
theorem z5_w2 : wat z5 2 = 4 := by decide +kernel
theorem By_z5 : Mt.By z5 := By_udp 3 4 false 1 2 [] (by omega) (by omega) Mt.By.nil
theorem z5_flt : flt ([] : List Int).length (8 + ([] : List Int).length) = 0 := by decide +kernel
theorem z5_hsh : (hsh (tb 17 1 2 (kyp 17 3) 4) != 0) = true := by decide +kernel

set_option maxHeartbeats 4000000 in
theorem live5_any (w : World) : Calls Tryd.prog 11 #[] w fun e w' => e = .returned (.bool true) ∧ Below w.heap.size w w' := by
  go_enter Tryd.func11, Tryd.ntmps11
  go_wp2_with fail
  refine (rbuildUdp_any 0 0 0 0 1 2 3 4 false false _ _ none 0 0 [] [] w (rd_zero w) Mt.By.nil (rd_zero w) (by simp) (by simp) (by omega) (by omega) (by omega) (by omega)).mono ?_
  rw [z5_flt]
  rintro e w1 ⟨hb1, ⟨hx, _⟩ | ⟨_, a7, c7, a8, c8, rfl, hO, hD⟩⟩
  · exact absurd rfl hx
  rw [show udp 3 4 false 1 2 [] = z5 from rfl, show 8 + ([] : List Int).length = z5.length from z5_len.symm] at hD
  rw [show 8 + ([] : List Int).length = z5.length from z5_len.symm]
  have l2 : Later w1 (w1.alloc (.cells #[.int .u8 0, .int .u16 0, .bool false, .int .u8 0, .int .u8 17, .int .u32 1, .int .u32 2, .slice a7 ([] : List Int).length c7, .slice a8 z5.length c8] 26)) := (Below.refl _ _).alloc (Nat.le_refl _) _
  have hw2 := hb1.trans (l2.mono hb1.size)
  have hD2 := (hD.later l2).rd
  simp only [List.length_nil] at l2 hw2 hD2
  go_wp2_with fail
  generalize w1.alloc (.cells #[.int .u8 0, .int .u16 0, .bool false, .int .u8 0, .int .u8 17, .int .u32 1, .int .u32 2, .slice a7 0 c7, .slice a8 z5.length c8] 26) = w2 at *
  refine (of_udp 0 0 0 1 2 false _ _ z5 w2 By_z5 hD2 (by rw [z5_len]; omega) (by omega) (by omega) z5_pue).mono ?_
  rw [z5_w0, z5_w2]
  rintro e w3 ⟨hb3, rfl⟩
  have hw3 := hw2.trans (hb3.mono hw2.size)
  have l4 : Later w3 (w3.alloc (.cells #[.int .u8 17, .int .u32 1, .int .u32 2, .int .u16 3, .int .u16 4] 28)) := (Below.refl _ _).alloc (Nat.le_refl _) _
  have t4 := heap_alloc_new w3 (.cells #[.int .u8 17, .int .u32 1, .int .u32 2, .int .u16 3, .int .u16 4] 28)
  have hw4 := hw3.trans (l4.mono hw3.size)
  go_wp2_with fail
  generalize w3.alloc (.cells #[.int .u8 17, .int .u32 1, .int .u32 2, .int .u16 3, .int .u16 4] 28) = w4 at *
  refine (reverse_any 17 1 2 3 4 w4).mono ?_
  rintro e w5 ⟨rfl, hb5⟩
  have hw5 := hw4.trans (hb5.mono hw4.size)
  have t5 := block_cell ((Below.block hb5 _ (Array.getElem?_eq_some_iff.1 t4).1).trans t4)
  have hfd : ∀ W : World, (Instr.field 28 (.agg #[.int .u8 17, .int .u32 2, .int .u32 1, .int .u16 4, .int .u16 3]) 1).run Tryd.prog W = .ok (.int .u32 2) W := fun W => by kernel_rfl
  go_wp2_with fail
  clear hfd
  refine (hash_any 17 1 2 3 4 w5 (by omega) (by omega) (by omega) (by omega)).mono ?_
  rintro e w6 ⟨rfl, hb6⟩
  have hw6 := hw5.trans (hb6.mono hw5.size)
  have hz := z5_hsh
  generalize hsh (tb 17 1 2 (kyp 17 3) 4) = hv at *
  go_wp2_with fail
  go_ret
  exact ⟨by simp [hz], hw6⟩
end Go.Proofs.YtojoaidnkljcpaaDoor

/- The walk of TupleOf. -/
namespace Go.Proofs.YtojoaidnkljcpaaDoor
open Go.RowKit Go.Shelf
set_option maxRecDepth 100000
set_option linter.unusedVariables false
set_option linter.unusedSimpArgs false

theorem otv_agg (e p s d a b : Int) : ∃ x0 x1 x2 x3 x4 : Int, otv e p s d a b = .agg #[.int .u8 x0, .int .u32 x1, .int .u32 x2, .int .u16 x3, .int .u16 x4] := by
  unfold otv
  split
  · exact ⟨_, _, _, _, _, rfl⟩
  · exact ⟨_, _, _, _, _, rfl⟩

set_option maxHeartbeats 8000000 in
theorem walk_TupleOf (w : World) (hT : Tb w) (tos id ttl proto src dst : Int) (keep : Bool) (so sd : Value) (zo zd : List Int) (hBo : Mt.By zo) (hBd : Mt.By zd) (hIo : Rd w.heap.size w so zo) (hId : Rd w.heap.size w sd zd) (hlo : zo.length ≤ 140737488355328) (hld : zd.length ≤ 140737488355328)
    (ht : 0 ≤ tos ∧ tos ≤ 255) (hid : 0 ≤ id ∧ id ≤ 65535) (htt : 0 ≤ ttl ∧ ttl ≤ 255) (hpr : 0 ≤ proto ∧ proto ≤ 255) (hsr : 0 ≤ src ∧ src ≤ 4294967295) (hds : 0 ≤ dst ∧ dst ≤ 4294967295) (hsm : zd.length ≤ 1048576) :
    Calls Tryd.prog 3 #[.agg #[.int .u8 tos, .int .u16 id, .bool keep, .int .u8 ttl, .int .u8 proto, .int .u32 src, .int .u32 dst, so, sd]] w fun e w' => e = .returned (.bool true) ∧ Below w.heap.size w w' := by
  obtain ⟨ao, co, rfl, _, _⟩ := hIo.slice
  obtain ⟨ad, cd, rfl, _, _⟩ := hId.slice
  have hb0 : Below w.heap.size w (w.alloc (.cells #[.int .u8 tos, .int .u16 id, .bool keep, .int .u8 ttl, .int .u8 proto, .int .u32 src, .int .u32 dst, .slice ao zo.length co, .slice ad zd.length cd] 26)) := (Below.refl _ _).alloc (Nat.le_refl _) _
  have p0 := heap_alloc_new w (.cells #[.int .u8 tos, .int .u16 id, .bool keep, .int .u8 ttl, .int .u8 proto, .int .u32 src, .int .u32 dst, .slice ao zo.length co, .slice ad zd.length cd] 26)
  have P0 := hide p0
  clear p0
  obtain ⟨x0, x1, x2, x3, x4, hx⟩ := otv_agg (ofe proto src dst zd) proto src dst (ofa proto zd) (ofb proto zd)
  have HX := hide hx
  clear hx
  go_enter Tryd.func3, Tryd.ntmps3
  go_wp2_with fail
  generalize w.alloc (.cells #[.int .u8 tos, .int .u16 id, .bool keep, .int .u8 ttl, .int .u8 proto, .int .u32 src, .int .u32 dst, .slice ao zo.length co, .slice ad zd.length cd] 26) = W0 at *
  refine (of_any tos id ttl proto src dst keep _ _ zd W0 (hT.below hb0 hT.pos) hBd ((hId.below hb0).mono hb0.size) (by omega) hsr hds).mono ?_
  rw [HX.out]
  generalize hee : ofe proto src dst zd = ee at *
  have HEE := hide hee
  clear hee
  rintro e w1 ⟨hb1, rfl⟩
  have l1 : Later W0 w1 := hb1
  have l2 : Later w1 (w1.alloc (.cells #[.int .u8 x0, .int .u32 x1, .int .u32 x2, .int .u16 x3, .int .u16 x4] 28)) := (Below.refl _ _).alloc (Nat.le_refl _) _
  have s2 := heap_alloc_new w1 (.cells #[.int .u8 x0, .int .u32 x1, .int .u32 x2, .int .u16 x3, .int .u16 x4] 28)
  have l12 := l1.trans l2
  have p2 := later_keep l12 P0.out
  have k2 := block_cell p2
  have hw2 := hb0.trans (l12.mono hb0.size)
  go_wp2_with fail
  generalize w1.alloc (.cells #[.int .u8 x0, .int .u32 x1, .int .u32 x2, .int .u16 x3, .int .u16 x4] 28) = W2 at *
  generalize w1.heap.size = g at *
  clear k2
  refine (rof_any tos id ttl proto src dst keep _ _ zd W2 hBd ((hId.below hw2).mono hw2.size) (by omega) hsr hds).mono ?_
  rw [HEE.out, HX.out]
  rintro e w3 ⟨hb3, rfl⟩
  have l3 : Later W2 w3 := hb3
  have l4 : Later w3 (w3.alloc (.cells #[.int .u8 x0, .int .u32 x1, .int .u32 x2, .int .u16 x3, .int .u16 x4] 28)) := (Below.refl _ _).alloc (Nat.le_refl _) _
  have s4 := heap_alloc_new w3 (.cells #[.int .u8 x0, .int .u32 x1, .int .u32 x2, .int .u16 x3, .int .u16 x4] 28)
  have l34 := l3.trans l4
  have r4 := later_keep l34 s2
  have hw4 := hw2.trans (l34.mono hw2.size)
  go_wp2_with fail
  generalize w3.alloc (.cells #[.int .u8 x0, .int .u32 x1, .int .u32 x2, .int .u16 x3, .int .u16 x4] 28) = W4 at *
  generalize w3.heap.size = h at *
  refine (live5_any W4).mono ?_
  rintro e w5 ⟨rfl, hb5⟩
  have l5 : Later W4 w5 := hb5
  have k5 := block_cell (later_keep l5 r4)
  have m5 := block_cell (later_keep l5 s4)
  have hw5 := hw4.trans (hb5.mono hw4.size)
  go_wp2_with fail
  go_ret
  exact ⟨by simp, hw5⟩
end Go.Proofs.YtojoaidnkljcpaaDoor
