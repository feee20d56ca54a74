/- The document's Move. -/
import Derived.Test.YtahphjindjlcpaaBT
namespace Go.Proofs.Ytahphjindjlcpaa
open Go.RowKit Go.Shelf
set_option maxRecDepth 100000
set_option linter.unusedVariables false
set_option linter.unusedSimpArgs false

/-- What the document's Move answers. -/
def rme (l : List Rw) (p s d a b till : Int) : Int := if mayb till = false then 2 else if kix p s d (kyp p a) b l = none then 11 else 0
theorem kix_lt {kp ks kd ka kb : Int} {l : List Rw} {k : Nat} (h : kix kp ks kd ka kb l = some k) : k < l.length := by
  unfold kix at h
  rw [List.findIdx?_eq_some_iff_getElem] at h
  exact h.1

set_option maxHeartbeats 8000000 in
theorem rmove_any (base bt : Nat) (v : Value) (lim sq : Int) (l : List Rw) (p s d a b till : Int) (w : World) (hT : DT base w bt v lim sq l) (hl : l.length ≤ 5000) (hsq : 0 ≤ sq ∧ sq ≤ 1000000) (hbs : base ≤ w.heap.size) :
    Calls Try.prog 29 #[.pointer (some ⟨bt, 0, none⟩), .agg #[.int .u8 p, .int .u32 s, .int .u32 d, .int .u16 a, .int .u16 b], .int .i64 till] w fun e w' => e = .returned (.int .i64 (rme l p s d a b till)) ∧
      ((rme l p s d a b till ≠ 0 ∧ DTq base w w' bt v lim sq l) ∨ (rme l p s d a b till = 0 ∧ ∃ k, kix p s d (kyp p a) b l = some k ∧ DTq base w w' bt v lim (sq + 1) (l.modify k (fun r => { r with till := till, turn := sq + 1 })))) := by
  have lb0 : Later w (w.alloc (.cells #[.int .u8 p, .int .u32 s, .int .u32 d, .int .u16 a, .int .u16 b] 26)) := (Below.refl _ _).alloc (Nat.le_refl _) _
  have t0 := heap_alloc_new w (.cells #[.int .u8 p, .int .u32 s, .int .u32 d, .int .u16 a, .int .u16 b] 26)
  obtain ⟨av, cv, rfl, hcv1, hcv2⟩ := (ownD_rd hT.2.2).slice
  have HAT := hide (fun W (hW : Later w W) => at_any base bt _ lim sq l p s d a b W (hT.later hW))
  go_enter Try.func29, Try.ntmps29
  cases hmb : mayb till with
  | false =>
    have hpe : rme l p s d a b till = 2 := by unfold rme; rw [if_pos hmb]
    have HPE := hide hpe
    have hmb' : till < 0 ∨ 1099511627776 < till := by unfold mayb at hmb; simp at hmb; omega
    clear hpe hmb
    by_cases h0 : till < 0
    · clear hmb'
      go_wp2_with fail
      go_ret
      exact ⟨by rw [HPE.out]; rfl, .inl ⟨by rw [HPE.out]; omega, DTq.same hT lb0⟩⟩
    · have h1 : 1099511627776 < till := by omega
      clear hmb'
      go_wp2_with fail
      go_ret
      exact ⟨by rw [HPE.out]; rfl, .inl ⟨by rw [HPE.out]; omega, DTq.same hT lb0⟩⟩
  | true =>
    have hmb' : 0 ≤ till ∧ till ≤ 1099511627776 := by unfold mayb at hmb; simpa using hmb
    have h0 : ¬ till < 0 := by omega
    have h1 : ¬ 1099511627776 < till := by omega
    have HMB := hide hmb
    have k0 := block_cell t0
    clear hmb hmb'
    go_wp2_with fail
    generalize w.alloc _ = w0 at *
    refine (HAT.out w0 lb0).mono ?_
    rintro e w1 ⟨rfl, l1⟩
    have L1 := lb0.trans l1
    clear k0
    cases hkx : kix p s d (kyp p a) b l with
    | none =>
      have hpe : rme l p s d a b till = 11 := by unfold rme; rw [HMB.out, hkx]; simp
      have HPE := hide hpe
      clear hpe hkx
      rw [rix_none]
      go_wp2_with fail
      go_ret
      exact ⟨by rw [HPE.out]; rfl, .inl ⟨by rw [HPE.out]; omega, DTq.same hT L1⟩⟩
    | some k =>
      have hpe : rme l p s d a b till = 0 := by unfold rme; rw [HMB.out, hkx]; simp
      have hkl := kix_lt hkx
      have HPE := hide hpe
      have HKX := hide hkx
      clear hpe hkx
      rw [rix_some]
      have hk0 : ¬ (k : Int) < 0 := by omega
      have hT1 := hT.later L1
      have kT := block_cell hT1.2.1
      have fT := block_frozen hT1.2.1
      have t1 := later_keep l1 t0
      have c1 : sq + 1 ≤ 9223372036854775807 := by omega
      go_upto_region 8 with fail
      have hV3 := heap_set1 hT1.2.1 2 (.int .i64 (sq + 1))
      have hbV1 : But (fun g => g = bt) w1 (w1.setCell ⟨bt, 2, none⟩ (.int .i64 (sq + 1))) := (But.refl (fun g => g = bt) _).setCell (p := ⟨bt, 2, none⟩) rfl _
      generalize w1.setCell ⟨bt, 2, none⟩ (.int .i64 (sq + 1)) = w3 at *
      clear kT fT
      obtain ⟨g, cap, rfl, rfl⟩ : ∃ g cap, av = some ⟨g, 0, none⟩ ∧ cv = cap := by
        obtain ⟨_, ⟨e, e2⟩ | ⟨g2, cap2, cur, e, _⟩⟩ := hT.2.2
        · omega
        · cases e
          exact ⟨g2, cv, rfl, rfl⟩
      have hgb : g ≠ bt := fun e => hT.ne hT.2.1 (by decide) (by rw [← e]; rfl)
      have hgl : g < w.heap.size := (hT.lt (g := g) rfl).2
      have hT3 : DT base w3 bt (.slice (some ⟨g, 0, none⟩) l.length cv) lim (sq + 1) l := by
        refine ⟨hT.1, hV3, ?_⟩
        obtain ⟨q1, q2 | ⟨g2, cap, cur, e, q2, q3, q4⟩⟩ := hT1.2.2
        · exact ⟨q1, .inl q2⟩
        · exact ⟨q1, .inr ⟨g2, cap, cur, e, q2, (hbV1.block g2 (Array.getElem?_eq_some_iff.1 q3).1 (by cases e; exact hgb)).trans q3, q4⟩⟩
      have hxb : w.heap.size ≠ bt := fun e => by have := hT.blt; omega
      have t3 := (hbV1.block w.heap.size (Array.getElem?_eq_some_iff.1 t1).1 hxb).trans t1
      have B3 : But (fun x => x = bt ∨ Value.ownBlock (.slice (some ⟨g, 0, none⟩) l.length cv) = some x) w w3 := (But.of L1).trans ⟨hbV1.os, hbV1.tape, hbV1.output, hbV1.size, fun k hk he => hbV1.block k hk (fun e => he (.inl e))⟩
      have k3 := block_cell t3
      go_wp2_with fail
      refine (at_any base bt _ lim (sq + 1) l p s d a b w3 hT3).mono ?_
      rw [HKX.out, rix_some]
      rintro e w4 ⟨rfl, l4⟩
      clear k3
      have hT4 := hT3.later l4
      have B4 := B3.trans (But.of l4)
      have hO4 := hT4.2.2
      have hkl' : (k : Int) < l.length := by omega
      have kT := block_cell hT4.2.1
      obtain ⟨cur, hcur, hcs⟩ : ∃ cur, w4.heap[g]? = some (.cells cur 86 (0, 0)) ∧ cur.size = cv * 8 := by
        obtain ⟨_, ⟨e, _⟩ | ⟨g2, cap2, cur, e, _, hh, _, _, hs, _⟩⟩ := hO4
        · cases e
        · cases e
          exact ⟨cur, hh, hs⟩
      have kc := block_cell hcur
      have fc := block_frozen hcur
      obtain ⟨u6, x6⟩ : ∃ u, w4.cell? ⟨g, k * 8 + 6, none⟩ = some u := ⟨cur[k * 8 + 6]'(by omega), by rw [kc]; simp⟩
      clear kc
      go_upto_region 10 with fail
      have hO5 := (hO4.stored (k * 8 + 6) (.int .i64 till)).1
      have hb5 : But (fun x => x = g) w4 (w4.setCell ⟨g, k * 8 + 6, none⟩ (.int .i64 till)) := (But.refl (fun x => x = g) _).setCell (p := ⟨g, k * 8 + 6, none⟩) rfl _
      have hbt5 : (w4.setCell ⟨g, k * 8 + 6, none⟩ (.int .i64 till)).heap[bt]? = _ := (hb5.block bt hT4.blt (fun e => hgb e.symm)).trans hT4.2.1
      generalize w4.setCell ⟨g, k * 8 + 6, none⟩ (.int .i64 till) = w5 at *
      clear kT x6 fc
      refine anyT_begin (R := But (fun x => x = g)) 12 rfl (by kernel_rfl) ?_
      have ld : Later w5 w5.drew := Later.drew w5
      have hbtd := later_keep ld hbt5
      have hOd := ownD_later hO5 ld
      have B5 : But (fun x => x = bt ∨ Value.ownBlock (.slice (some ⟨g, 0, none⟩) l.length cv) = some x) w w5.drew := B4.trans ((⟨hb5.os, hb5.tape, hb5.output, hb5.size, fun x hx he => hb5.block x hx (fun e => he (.inr (by rw [e]; rfl)))⟩ : But (fun x => x = bt ∨ Value.ownBlock (.slice (some ⟨g, 0, none⟩) l.length cv) = some x) w4 w5).trans (But.of ld))
      generalize w5.drew = Wd at *
      have hB : ∀ v1, But (fun x => x = g) Wd v1 → ∀ j, v1.cell? ⟨bt, j, none⟩ = #[Value.slice (some ⟨g, 0, none⟩) l.length cv, .int .i64 lim, .int .i64 (sq + 1)][j]? := fun v1 hv => block_cell ((hv.block bt (Array.getElem?_eq_some_iff.1 hbtd).1 (fun e => hgb e.symm)).trans hbtd)
      refine anyT_val (But.pre _) 0 rfl (by kernel_rfl) (by kernel_rfl) (by kernel_rfl) (fun _ _ _ _ h => h) rfl ?_; apply Exists.intro; refine ⟨fun v1 hv1 => ?_, ?_⟩; (· (go_simp; rfl)); simp only [Act.put, List.setIfInBounds_toArray, List.set_cons_zero, List.set_cons_succ]
      refine anyT_val (But.pre _) 1 rfl (by kernel_rfl) (by kernel_rfl) (by kernel_rfl) (fun _ _ _ _ h => h) rfl ?_; apply Exists.intro; refine ⟨fun v1 hv1 => ?_, ?_⟩; (· (go_simp; rfl)); simp only [Act.put, List.setIfInBounds_toArray, List.set_cons_zero, List.set_cons_succ]
      refine anyT_val (But.pre _) 2 rfl (by kernel_rfl) (by kernel_rfl) (by kernel_rfl) (fun _ _ _ _ h => h) rfl ?_; apply Exists.intro; refine ⟨fun v1 hv1 => ?_, ?_⟩; (· (go_simp; rfl)); simp only [Act.put, List.setIfInBounds_toArray, List.set_cons_zero, List.set_cons_succ]
      refine anyT_val (But.pre _) 3 rfl (by kernel_rfl) (by kernel_rfl) (by kernel_rfl) (fun _ _ _ _ h => h) rfl ?_; apply Exists.intro; refine ⟨fun v1 hv1 => ?_, ?_⟩; (· (go_simp; rfl)); simp only [Act.put, List.setIfInBounds_toArray, List.set_cons_zero, List.set_cons_succ]
      refine anyT_val (But.pre _) 4 rfl (by kernel_rfl) (by kernel_rfl) (by kernel_rfl) (fun _ _ _ _ h => h) rfl ?_; apply Exists.intro; refine ⟨fun v1 hv1 => ?_, ?_⟩; (· (go_simp; rfl)); simp only [Act.put, List.setIfInBounds_toArray, List.set_cons_zero, List.set_cons_succ]
      refine anyT_val (But.pre _) 5 rfl (by kernel_rfl) (by kernel_rfl) (by kernel_rfl) (fun _ _ _ _ h => h) rfl ?_; apply Exists.intro; refine ⟨fun v1 hv1 => ?_, ?_⟩; (· (go_simp; rfl)); simp only [Act.put, List.setIfInBounds_toArray, List.set_cons_zero, List.set_cons_succ]
      refine anyT_val (But.pre _) 6 rfl (by kernel_rfl) (by kernel_rfl) (by kernel_rfl) (fun _ _ _ _ h => h) rfl ?_; apply Exists.intro; refine ⟨fun v1 hv1 => ?_, ?_⟩; (· (go_simp; rfl)); simp only [Act.put, List.setIfInBounds_toArray, List.set_cons_zero, List.set_cons_succ]
      refine anyT_val (But.pre _) 7 rfl (by kernel_rfl) (by kernel_rfl) (by kernel_rfl) (fun _ _ _ _ h => h) rfl ?_; apply Exists.intro; refine ⟨fun v1 hv1 => ?_, ?_⟩; (· (go_simp; rfl)); simp only [Act.put, List.setIfInBounds_toArray, List.set_cons_zero, List.set_cons_succ]
      refine anyT_val (But.pre _) 8 rfl (by kernel_rfl) (by kernel_rfl) (by kernel_rfl) (fun _ _ _ _ h => h) rfl ?_; apply Exists.intro; refine ⟨fun v1 hv1 => ?_, ?_⟩; (· (go_simp; rfl)); simp only [Act.put, List.setIfInBounds_toArray, List.set_cons_zero, List.set_cons_succ]
      refine anyT_val (But.pre _) 9 rfl (by kernel_rfl) (by kernel_rfl) (by kernel_rfl) (fun _ _ _ _ h => h) rfl ?_; apply Exists.intro; refine ⟨fun v1 hv1 => ?_, ?_⟩; (· (go_simp; rfl)); simp only [Act.put, List.setIfInBounds_toArray, List.set_cons_zero, List.set_cons_succ]
      refine anyT_val (But.pre _) 10 rfl (by kernel_rfl) (by kernel_rfl) (by kernel_rfl) (fun _ _ _ _ h => h) rfl ?_; apply Exists.intro; refine ⟨fun v1 hv1 => ?_, ?_⟩; (· (go_simp; rfl)); simp only [Act.put, List.setIfInBounds_toArray, List.set_cons_zero, List.set_cons_succ]
      clear hB
      obtain ⟨cur2, hcur2, hcs2⟩ : ∃ cur, Wd.heap[g]? = some (.cells cur 86 (0, 0)) ∧ cur.size = cv * 8 := by
        obtain ⟨_, ⟨e, _⟩ | ⟨g2, cap2, cur, e, _, hh, _, _, hs, _⟩⟩ := hOd
        · cases e
        · cases e
          exact ⟨cur, hh, hs⟩
      have kc := block_cell hcur2
      have fc := block_frozen hcur2
      obtain ⟨u7, x7⟩ : ∃ u, Wd.cell? ⟨g, k * 8 + 7, none⟩ = some u := ⟨cur2[k * 8 + 7]'(by omega), by rw [kc]; simp⟩
      clear kc
      refine anyT_one 11 rfl (by kernel_rfl) rfl ?_
      unfold Oper.wp
      go_simp
      have hO6 := (hOd.stored (k * 8 + 7) (.int .i64 (sq + 1))).1
      have hb6 : But (fun x => x = g) Wd (Wd.setCell ⟨g, k * 8 + 7, none⟩ (.int .i64 (sq + 1))) := (But.refl (fun x => x = g) _).setCell (p := ⟨g, k * 8 + 7, none⟩) rfl _
      refine ⟨hb6, ?_⟩
      have hbt6 := (hb6.block bt (Array.getElem?_eq_some_iff.1 hbtd).1 (fun e => hgb e.symm)).trans hbtd
      generalize Wd.setCell ⟨g, k * 8 + 7, none⟩ (.int .i64 (sq + 1)) = V at *
      clear x7 fc
      refine anyT_done (by kernel_rfl) ?_
      have hfin : DTq base w V bt (.slice (some ⟨g, 0, none⟩) l.length cv) lim (sq + 1) (l.modify k (fun r => { r with till := till, turn := sq + 1 })) := by
        refine ⟨.slice (some ⟨g, 0, none⟩) l.length cv, ⟨hT.1, hbt6, ?_⟩, B5.trans ⟨hb6.os, hb6.tape, hb6.output, hb6.size, fun x hx he => hb6.block x hx (fun e => he (.inr (by rw [e]; rfl)))⟩, .inl rfl⟩
        rw [List.length_modify, rws_modify till (sq + 1) l k hkl]
        exact hO6
      have HF := hide hfin
      clear hfin
      go_wp2_with fail
      go_ret
      exact ⟨by rw [HPE.out]; rfl, .inr ⟨HPE.out, k, HKX.out, HF.out⟩⟩
end Go.Proofs.Ytahphjindjlcpaa
