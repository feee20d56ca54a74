/- The walk of ExpectRight. -/
import Derived.Test.YtbimdhapkbdmjaaEM
import Derived.Test.YtbimdhapkbdmjaaRh
namespace Go.Proofs.Ytbimdhapkbdmjaa
open Go.RowKit Go.Shelf
set_option maxRecDepth 100000
set_option linter.unusedVariables false
set_option linter.unusedSimpArgs false

section
variable {P : Program} {l : List Oper} {Q : Exit → Act → World → Prop} {fuel : Nat} {listed : Array Bool} {a : Act} {w : World} {R : World → World → Prop}
theorem anyR_oneG (i : Nat) {oi : Oper} (hi : nthOp l i = some oi) (hr : Region.ready .any l.toArray listed = [i]) (hg : Region.wanted oi (yielded l.toArray a.tmps) = true)
    (h1 : ∀ w', R w w' → oi.wp P a w' (fun a' w'' => R w' w'' ∧ wpAnyR P .any l.toArray Q R fuel (listed.setIfInBounds i true) a' w'') Q) :
    wpAnyR P .any l.toArray Q R (fuel + 1) listed a w := by
  have hi' : l.toArray[i]? = some oi := by rw [← hi, nthOp_eq]; simp
  refine ⟨fun h0 => (by rw [hr] at h0; cases h0), fun k hk w' hw' => ?_⟩
  rw [hr] at hk
  unfold wpOp
  obtain rfl : k = i := by simpa using hk
  rw [hi']; simp only [hg, if_true]; exact .inl (h1 w' hw')
end

theorem right_list {x : Ex} (h : rtX x = true) : adE [] x = 0 ∧ adL [] x = [x] ∧ adE [x] x = 10 ∧ adL [x] x = [x] := by
  have h0 : adE [] x = 0 := by unfold adE; rw [h]; simp [ownN]
  have h1 : adE [x] x = 10 := by unfold adE; rw [h]; simp [alX_self]
  exact ⟨h0, adL_yes h0, h1, adL_no (by rw [h1]; omega)⟩
theorem wrong_list {x : Ex} (l : List Ex) (h : rtX x = false) : adE l x = 2 ∧ adL l x = l := by
  have h0 : adE l x = 2 := by unfold adE; rw [h]; simp
  exact ⟨h0, adL_no (by rw [h0]; omega)⟩

set_option maxHeartbeats 8000000 in
theorem walk_ExpectRight (w : World) (x : Ex) (hx : wfX x) :
    Calls Try.prog 4 #[.agg (exc x).toArray] w fun e w' => e = .returned (.bool true) ∧ Below w.heap.size w w' := by
  have lb0 : Later w (w.alloc (.cells #[.int .u8 x.pr, .int .u32 x.src, .int .u32 x.dst, .int .u16 x.sp, .int .u16 x.dp, .int .u32 x.host, .int .u16 x.hp, .int .i64 x.ms, .int .i64 x.dl] 26)) := (Below.refl _ _).alloc (Nat.le_refl _) _
  have c0 := heap_alloc_new w (.cells #[.int .u8 x.pr, .int .u32 x.src, .int .u32 x.dst, .int .u16 x.sp, .int .u16 x.dp, .int .u32 x.host, .int .u16 x.hp, .int .i64 x.ms, .int .i64 x.dl] 26)
  go_enter Try.func4, Try.ntmps4
  unfold exc
  go_upto_region 1 with fail
  generalize w.alloc _ = w0 at *
  go_wp2_with fail
  refine (new12_any w0).mono ?_
  rintro e w1 ⟨rfl, l1, hT1⟩
  have c1 := later_keep l1 c0
  have k1 := block_cell c1
  have hs1 := l1.size
  have hlt0 := (Array.getElem?_eq_some_iff.1 c0).1
  go_wp2_with fail
  refine (add12_any w0.heap.size w0.heap.size _ [] x w1 hT1 (by simp) hs1).mono ?_
  rintro e w2 ⟨rfl, v2, hT2, b2, f2⟩
  have c2 := (b2.block w.heap.size (Array.getElem?_eq_some_iff.1 c1).1 (fun e => by rcases e with e | e; (· omega); (· cases e))).trans c1
  have L2 : Below w0.heap.size w0 w2 := Below.trans l1 (b2.below hs1 (fun k hk e => by rcases e with rfl | e; (· omega); (· cases e)))
  have hs2 := L2.size
  clear k1
  have k2 := block_cell c2
  go_wp2_with fail
  have hne : v2.ownBlock ≠ some w.heap.size := fun e => by have := (hT2.lt e).1; omega
  cases hrt : rtX x with
  | false =>
    have HE1 := hide (wrong_list [] hrt).1
    rw [(wrong_list [] hrt).2] at hT2
    refine (add12_any w0.heap.size w0.heap.size _ [] x w2 hT2 (by simp) hs2).mono ?_
    rw [(wrong_list [] hrt).1, (wrong_list [] hrt).2]
    rintro e w3 ⟨rfl, v3, hT3, b3, f3⟩
    have c3 := (b3.block w.heap.size (Array.getElem?_eq_some_iff.1 c2).1 (fun e => by rcases e with e | e; (· omega); (· exact hne e))).trans c2
    have L3 : Below w0.heap.size w0 w3 := Below.trans L2 (b3.below hs2 (fun k hk e => by rcases e with rfl | e; (· omega); (· have := (hT2.lt e).1; omega)))
    clear k2
    have k3 := block_cell c3
    have HRT := hide hrt
    clear hrt
    go_wp2_with fail
    refine (right12_any x w3).mono ?_
    rw [HRT.out]
    rintro e w4 ⟨rfl, l4⟩
    go_wp2_with fail
    refine (live12_any w4).mono ?_
    rintro e w5 ⟨rfl, l5⟩
    clear k3
    have k5 := block_cell (later_keep (l4.trans l5) c3)
    go_wp2_with fail
    refine (rright12_any x w5).mono ?_
    rw [HRT.out]
    rintro e w6 ⟨rfl, l6⟩
    clear k5
    go_wp2_with fail
    refine (list12_any w0.heap.size w0.heap.size _ [] w6 (hT3.later (l4.trans (l5.trans l6))) (by simp)).mono ?_
    rintro e w7 ⟨l7, u7, rfl, hu7⟩
    obtain ⟨a7, c7, rfl⟩ := ownE_slice hu7
    clear hu7
    go_wp2_with fail
    go_ret
    refine ⟨rfl, Below.trans lb0 ((L3.mono lb0.size).trans (Below.mono (l4.trans (l5.trans (l6.trans l7))) (Nat.le_trans lb0.size L3.size)))⟩
  | true =>
    obtain ⟨e0, e1, e2, e3⟩ := right_list hrt
    have HE1 := hide e0
    rw [e1] at hT2
    refine (add12_any w0.heap.size w0.heap.size _ [x] x w2 hT2 (by simp) hs2).mono ?_
    rw [e2, e3]
    clear e0 e1 e2 e3
    rintro e w3 ⟨rfl, v3, hT3, b3, f3⟩
    have c3 := (b3.block w.heap.size (Array.getElem?_eq_some_iff.1 c2).1 (fun e => by rcases e with e | e; (· omega); (· exact hne e))).trans c2
    have L3 : Below w0.heap.size w0 w3 := Below.trans L2 (b3.below hs2 (fun k hk e => by rcases e with rfl | e; (· omega); (· have := (hT2.lt e).1; omega)))
    clear k2
    have k3 := block_cell c3
    have HRT := hide hrt
    clear hrt
    rw [HE1.out]
    go_wp2_with fail
    refine (right12_any x w3).mono ?_
    rw [HRT.out]
    rintro e w4 ⟨rfl, l4⟩
    go_upto_region 6 with fail
    clear k3
    have c4 := later_keep l4 c3
    refine anyR_begin Later.pre Later.drew 28 rfl (by kernel_rfl) ?_
    intro Wd hWd
    have cd := later_keep hWd c4
    have hTd := hT3.later (l4.trans hWd)
    refine anyR_oneG 0 rfl (by kernel_rfl) (by rfl) (fun V1 hV1 => ?_)
    refine wp_enter 10 #[] (by go_simp) ?_
    refine (live12_any V1).mono ?_
    rintro e V2 ⟨rfl, l2⟩
    refine ⟨l2, ?_⟩
    simp only [Act.put, List.setIfInBounds_toArray, List.set_cons_zero, List.set_cons_succ]
    have M2 := hV1.trans l2
    have ha : ∀ v1, Later V2 v1 → ∀ j, v1.cell? ⟨w.heap.size, j, none⟩ = #[Value.int .u8 x.pr, .int .u32 x.src, .int .u32 x.dst, .int .u16 x.sp, .int .u16 x.dp, .int .u32 x.host, .int .u16 x.hp, .int .i64 x.ms, .int .i64 x.dl][j]? := fun v1 hv => block_cell (later_keep (M2.trans hv) cd)
    refine anyR_val Later.pre 1 rfl (by kernel_rfl) (by kernel_rfl) (by kernel_rfl) (fun _ _ _ _ h => h) rfl ?_; apply Exists.intro; refine ⟨fun v1 hv1 => ?_, ?_⟩; (· (go_simp; rfl)); simp only [Act.put, List.setIfInBounds_toArray, List.set_cons_zero, List.set_cons_succ]
    refine anyR_valG Later.pre 2 rfl (by kernel_rfl) (by kernel_rfl) (by kernel_rfl) (fun _ _ _ _ h => h) (by rfl) ?_; apply Exists.intro; refine ⟨fun v1 hv1 => ?_, ?_⟩; (· (go_simp; rfl)); simp only [Act.put, List.setIfInBounds_toArray, List.set_cons_zero, List.set_cons_succ]
    refine anyR_oneG 3 rfl (by kernel_rfl) (by rfl) (fun V3 hV3 => ?_)
    refine wp_enter 15 #[.agg #[.int .u8 x.pr, .int .u32 x.src, .int .u32 x.dst, .int .u16 x.sp, .int .u16 x.dp, .int .u32 x.host, .int .u16 x.hp, .int .i64 x.ms, .int .i64 x.dl]] (by go_simp) ?_
    refine (rright12_any x V3).mono ?_
    rw [HRT.out]
    rintro e V4 ⟨rfl, l4'⟩
    refine ⟨l4', ?_⟩
    simp only [Act.put, List.setIfInBounds_toArray, List.set_cons_zero, List.set_cons_succ]
    have M4 := M2.trans (hV3.trans l4')
    clear ha
    have ha : ∀ v1, Later V4 v1 → ∀ j, v1.cell? ⟨w.heap.size, j, none⟩ = #[Value.int .u8 x.pr, .int .u32 x.src, .int .u32 x.dst, .int .u16 x.sp, .int .u16 x.dp, .int .u32 x.host, .int .u16 x.hp, .int .i64 x.ms, .int .i64 x.dl][j]? := fun v1 hv => block_cell (later_keep (M4.trans hv) cd)
    refine anyR_val Later.pre 4 rfl (by kernel_rfl) (by kernel_rfl) (by kernel_rfl) (fun _ _ _ _ h => h) rfl ?_; apply Exists.intro; refine ⟨fun v1 hv1 => ?_, ?_⟩; (· (go_simp; rfl)); simp only [Act.put, List.setIfInBounds_toArray, List.set_cons_zero, List.set_cons_succ]
    refine anyR_val Later.pre 5 rfl (by kernel_rfl) (by kernel_rfl) (by kernel_rfl) (fun _ _ _ _ h => h) rfl ?_; apply Exists.intro; refine ⟨fun v1 hv1 => ?_, ?_⟩; (· (go_simp; rfl)); simp only [Act.put, List.setIfInBounds_toArray, List.set_cons_zero, List.set_cons_succ]
    refine anyR_valG Later.pre 6 rfl (by kernel_rfl) (by kernel_rfl) (by kernel_rfl) (fun _ _ _ _ h => h) (by rfl) ?_; apply Exists.intro; refine ⟨fun v1 hv1 => ?_, ?_⟩; (· (go_simp; rfl)); simp only [Act.put, List.setIfInBounds_toArray, List.set_cons_zero, List.set_cons_succ]
    refine anyR_valG Later.pre 7 rfl (by kernel_rfl) (by kernel_rfl) (by kernel_rfl) (fun _ _ _ _ h => h) (by rfl) ?_; apply Exists.intro; refine ⟨fun v1 hv1 => ?_, ?_⟩; (· (go_simp; rfl)); simp only [Act.put, List.setIfInBounds_toArray, List.set_cons_zero, List.set_cons_succ]
    refine anyR_val Later.pre 8 rfl (by kernel_rfl) (by kernel_rfl) (by kernel_rfl) (fun _ _ _ _ h => h) rfl ?_; apply Exists.intro; refine ⟨fun v1 hv1 => ?_, ?_⟩; (· (go_simp; rfl)); simp only [Act.put, List.setIfInBounds_toArray, List.set_cons_zero, List.set_cons_succ]
    refine anyR_val Later.pre 9 rfl (by kernel_rfl) (by kernel_rfl) (by kernel_rfl) (fun _ _ _ _ h => h) rfl ?_; apply Exists.intro; refine ⟨fun v1 hv1 => ?_, ?_⟩; (· (go_simp; rfl)); simp only [Act.put, List.setIfInBounds_toArray, List.set_cons_zero, List.set_cons_succ]
    refine anyR_valG Later.pre 10 rfl (by kernel_rfl) (by kernel_rfl) (by kernel_rfl) (fun _ _ _ _ h => h) (by rfl) ?_; apply Exists.intro; refine ⟨fun v1 hv1 => ?_, ?_⟩; (· (go_simp; rfl)); simp only [Act.put, List.setIfInBounds_toArray, List.set_cons_zero, List.set_cons_succ]
    refine anyR_valG Later.pre 11 rfl (by kernel_rfl) (by kernel_rfl) (by kernel_rfl) (fun _ _ _ _ h => h) (by rfl) ?_; apply Exists.intro; refine ⟨fun v1 hv1 => ?_, ?_⟩; (· (go_simp; rfl)); simp only [Act.put, List.setIfInBounds_toArray, List.set_cons_zero, List.set_cons_succ]
    refine anyR_val Later.pre 12 rfl (by kernel_rfl) (by kernel_rfl) (by kernel_rfl) (fun _ _ _ _ h => h) rfl ?_; apply Exists.intro; refine ⟨fun v1 hv1 => ?_, ?_⟩; (· (go_simp; rfl)); simp only [Act.put, List.setIfInBounds_toArray, List.set_cons_zero, List.set_cons_succ]
    refine anyR_val Later.pre 13 rfl (by kernel_rfl) (by kernel_rfl) (by kernel_rfl) (fun _ _ _ _ h => h) rfl ?_; apply Exists.intro; refine ⟨fun v1 hv1 => ?_, ?_⟩; (· (go_simp; rfl)); simp only [Act.put, List.setIfInBounds_toArray, List.set_cons_zero, List.set_cons_succ]
    refine anyR_valG Later.pre 14 rfl (by kernel_rfl) (by kernel_rfl) (by kernel_rfl) (fun _ _ _ _ h => h) (by rfl) ?_; apply Exists.intro; refine ⟨fun v1 hv1 => ?_, ?_⟩; (· (go_simp; rfl)); simp only [Act.put, List.setIfInBounds_toArray, List.set_cons_zero, List.set_cons_succ]
    refine anyR_oneG 15 rfl (by kernel_rfl) (by rfl) (fun V5 hV5 => ?_)
    refine wp_enter 16 #[.pointer (some ⟨w0.heap.size, 0, none⟩)] (by go_simp) ?_
    refine (list12_any w0.heap.size w0.heap.size _ [x] V5 (hTd.later (M4.trans hV5)) (by simp)).mono ?_
    rintro e V6 ⟨l6, u6, rfl, hu6⟩
    obtain ⟨a6, c6, rfl⟩ := ownE_slice hu6
    clear hu6
    refine ⟨l6, ?_⟩
    simp only [Act.put, List.setIfInBounds_toArray, List.set_cons_zero, List.set_cons_succ]
    have M6 := M4.trans (hV5.trans l6)
    clear ha
    have ha : ∀ v1, Later V6 v1 → ∀ j, v1.cell? ⟨w.heap.size, j, none⟩ = #[Value.int .u8 x.pr, .int .u32 x.src, .int .u32 x.dst, .int .u16 x.sp, .int .u16 x.dp, .int .u32 x.host, .int .u16 x.hp, .int .i64 x.ms, .int .i64 x.dl][j]? := fun v1 hv => block_cell (later_keep (M6.trans hv) cd)
    refine anyR_valG Later.pre 16 rfl (by kernel_rfl) (by kernel_rfl) (by kernel_rfl) (fun _ _ _ _ h => h) (by rfl) ?_; apply Exists.intro; refine ⟨fun v1 hv1 => ?_, ?_⟩; (· (go_simp; rfl)); simp only [Act.put, List.setIfInBounds_toArray, List.set_cons_zero, List.set_cons_succ]
    refine anyR_valG Later.pre 17 rfl (by kernel_rfl) (by kernel_rfl) (by kernel_rfl) (fun _ _ _ _ h => h) (by rfl) ?_; apply Exists.intro; refine ⟨fun v1 hv1 => ?_, ?_⟩; (· (go_simp; rfl)); simp only [Act.put, List.setIfInBounds_toArray, List.set_cons_zero, List.set_cons_succ]
    refine anyR_val Later.pre 18 rfl (by kernel_rfl) (by kernel_rfl) (by kernel_rfl) (fun _ _ _ _ h => h) rfl ?_; apply Exists.intro; refine ⟨fun v1 hv1 => ?_, ?_⟩; (· (go_simp; rfl)); simp only [Act.put, List.setIfInBounds_toArray, List.set_cons_zero, List.set_cons_succ]
    refine anyR_val Later.pre 19 rfl (by kernel_rfl) (by kernel_rfl) (by kernel_rfl) (fun _ _ _ _ h => h) rfl ?_; apply Exists.intro; refine ⟨fun v1 hv1 => ?_, ?_⟩; (· (go_simp; rfl)); simp only [Act.put, List.setIfInBounds_toArray, List.set_cons_zero, List.set_cons_succ]
    refine anyR_valG Later.pre 20 rfl (by kernel_rfl) (by kernel_rfl) (by kernel_rfl) (fun _ _ _ _ h => h) (by rfl) ?_; apply Exists.intro; refine ⟨fun v1 hv1 => ?_, ?_⟩; (· (go_simp; rfl)); simp only [Act.put, List.setIfInBounds_toArray, List.set_cons_zero, List.set_cons_succ]
    refine anyR_valG Later.pre 24 rfl (by kernel_rfl) (by kernel_rfl) (by kernel_rfl) (fun _ _ _ _ h => h) (by rfl) ?_; apply Exists.intro; refine ⟨fun v1 hv1 => ?_, ?_⟩; (· (go_simp; rfl)); simp only [Act.put, List.setIfInBounds_toArray, List.set_cons_zero, List.set_cons_succ]
    refine anyR_oneG 21 rfl (by kernel_rfl) (by rfl) (fun V7 hV7 => ?_)
    refine wp_enter 16 #[.pointer (some ⟨w0.heap.size, 0, none⟩)] (by go_simp) ?_
    refine (list12_any w0.heap.size w0.heap.size _ [x] V7 (hTd.later (M6.trans hV7)) (by simp)).mono ?_
    rintro e V8 ⟨l8, u8, rfl, hu8⟩
    obtain ⟨b8, o8, c8, rfl, _, _, hb8, hc8⟩ := (ownE_rd hu8).cells (by simp)
    clear hu8
    refine ⟨l8, ?_⟩
    simp only [Act.put, List.setIfInBounds_toArray, List.set_cons_zero, List.set_cons_succ]
    have M8 := M6.trans (hV7.trans l8)
    clear ha
    have hcc : ∀ i, i < 9 → ∀ v1, Later V8 v1 → v1.cell? ⟨b8, o8 + i, none⟩ = (exc x)[i]? := fun i hi v1 hv => (Below.cell (B := V8.heap.size) hv (p := ⟨b8, o8 + i, none⟩) hb8).trans (by have := hc8 0 (by simp) i hi; simpa using this)
    have z0 := hcc 0 (by omega)
    have z1 := hcc 1 (by omega)
    have z2 := hcc 2 (by omega)
    have z3 := hcc 3 (by omega)
    have z4 := hcc 4 (by omega)
    have z5 := hcc 5 (by omega)
    have z6 := hcc 6 (by omega)
    have z7 := hcc 7 (by omega)
    have z8 := hcc 8 (by omega)
    clear hcc hc8
    simp only [exc, List.getElem?_cons_zero, List.getElem?_cons_succ, Nat.add_zero] at z0 z1 z2 z3 z4 z5 z6 z7 z8
    refine anyR_valG Later.pre 22 rfl (by kernel_rfl) (by kernel_rfl) (by kernel_rfl) (fun _ _ _ _ h => h) (by rfl) ?_; apply Exists.intro; refine ⟨fun v1 hv1 => ?_, ?_⟩; (· (go_simp; rfl)); simp only [Act.put, List.setIfInBounds_toArray, List.set_cons_zero, List.set_cons_succ]
    refine anyR_valG Later.pre 23 rfl (by kernel_rfl) (by kernel_rfl) (by kernel_rfl) (fun _ _ _ _ h => h) (by rfl) ?_; apply Exists.intro; refine ⟨fun v1 hv1 => ?_, ?_⟩; (· (go_simp; rfl)); simp only [Act.put, List.setIfInBounds_toArray, List.set_cons_zero, List.set_cons_succ]
    refine anyR_valG Later.pre 25 rfl (by kernel_rfl) (by kernel_rfl) (by kernel_rfl) (fun _ _ _ _ h => h) (by rfl) ?_; apply Exists.intro; refine ⟨fun v1 hv1 => ?_, ?_⟩; (· (go_simp; rfl)); simp only [Act.put, List.setIfInBounds_toArray, List.set_cons_zero, List.set_cons_succ]
    refine anyR_val Later.pre 26 rfl (by kernel_rfl) (by kernel_rfl) (by kernel_rfl) (fun _ _ _ _ h => h) rfl ?_; apply Exists.intro; refine ⟨fun v1 hv1 => ?_, ?_⟩; (· (go_simp; rfl)); simp only [Act.put, List.setIfInBounds_toArray, List.set_cons_zero, List.set_cons_succ]
    refine anyR_val Later.pre 27 rfl (by kernel_rfl) (by kernel_rfl) (by kernel_rfl) (fun _ _ _ _ h => h) rfl ?_; apply Exists.intro; refine ⟨fun v1 hv1 => ?_, ?_⟩; (· (go_simp; rfl)); simp only [Act.put, List.setIfInBounds_toArray, List.set_cons_zero, List.set_cons_succ]
    refine anyR_done (by kernel_rfl) (fun V9 hV9 => ?_)
    clear z0 z1 z2 z3 z4 z5 z6 z7 z8
    go_wp2_with fail
    go_ret
    exact ⟨rfl, Below.trans lb0 ((L3.mono lb0.size).trans (Below.mono (l4.trans (hWd.trans (M8.trans hV9))) (Nat.le_trans lb0.size L3.size)))⟩
end Go.Proofs.Ytbimdhapkbdmjaa
