/- The document's stream: Add. -/
import Derived.Test.YtaaanmjmgnpcgaaGO
import Derived.Test.YtaaanmjmgnpcgaaRs
namespace Go.Proofs.Ytaaanmjmgnpcgaa
open Go.RowKit Go.Shelf
set_option maxRecDepth 100000
set_option linter.unusedVariables false
set_option linter.unusedSimpArgs false

/-- One more behind one's own. -/
theorem app1D (W : World) (ty : TypeId) (base : Nat) (v : Value) (xs : List Dp) (x : Dp) (hown : W.ownsRow base 73 3 v xs.length (dps xs)) (hb : base ≤ W.heap.size) (hs : xs.length ≤ 5000) :
    ∃ g cap W', (Builtin.append_ #[69, 69] ty #[v, .slice (some ⟨W.heap.size, 0, none⟩) 1 1]).run Try.prog (W.alloc (.cells (dpc x).toArray 73)) = .ok (.slice (some ⟨g, 0, none⟩) (xs.length + 1) cap) W' ∧ W'.ownsRow base 73 3 (.slice (some ⟨g, 0, none⟩) (xs.length + 1) cap) (xs ++ [x]).length (dps (xs ++ [x])) ∧ But (fun b => v.ownBlock = some b) W W' ∧ (v.ownBlock = some g ∨ W.heap.size ≤ g) ∧ (W.alloc (.cells (dpc x).toArray 73)).grownBy W' v.ownBlock := by
  have la : Later W (W.alloc (.cells (dpc x).toArray 73)) := (Below.refl _ _).alloc (Nat.le_refl _) _
  have hn := heap_alloc_new W (.cells (dpc x).toArray 73)
  have hI : RdW (W.heap.size + 1) (W.alloc (.cells (dpc x).toArray 73)) (.slice (some ⟨W.heap.size, 0, none⟩) 1 1) [x] := .inr ⟨W.heap.size, 0, 1, rfl, by simp, by simp, by omega, by omega, fun j hj i hi => by
    obtain rfl : j = 0 := by simpa using hj
    rw [show 0 + 0 * 3 + i = i from by omega, block_cell hn i]
    simp⟩
  obtain ⟨v', w', h1, h2, h3, h4⟩ := appD (W.alloc (.cells (dpc x).toArray 73)) ty base (W.heap.size + 1) v xs _ [x] (ownD_later hown la) hI (by have := la.size; omega) (by simp; omega)
  have h2' := h2
  rw [show (xs ++ [x]).length = xs.length + 1 from by simp] at h2'
  obtain ⟨g, cap, rfl⟩ := ownsRow_succ h2'
  refine ⟨g, cap, w', h1, h2, (But.of la).trans ⟨h3.os, h3.tape, h3.output, h3.size, fun k hk he => h3.block k hk (fun e => he e.symm)⟩, ?_, h3⟩
  rcases h4 with h4 | h4
  · exact .inl h4.symm
  · right
    simp [Value.ownBlock] at h4
    omega
theorem ownD_but {E : Nat → Prop} {base : Nat} {A B : World} {v : Value} {n : Nat} {xs : List Value} (h : A.ownsRow base 73 3 v n xs) (k : But E A B) (hE : ∀ g, v.ownBlock = some g → ¬ E g) : B.ownsRow base 73 3 v n xs := by
  obtain ⟨h1, h2 | ⟨g, cap, cur, hv, hg, hh, r⟩⟩ := h
  · exact ⟨h1, .inl h2⟩
  · exact ⟨h1, .inr ⟨g, cap, cur, hv, hg, (k.block g (Array.getElem?_eq_some_iff.1 hh).1 (hE g (by rw [hv]; rfl))).trans hh, r⟩⟩


/-- A copy of bytes in memory of its own. -/
theorem copyb (w : World) (ty : TypeId) (n₀ : Nat) (sv : Value) (zs : List Int) (hI : Rd n₀ w sv zs) (hn : n₀ ≤ w.heap.size) (hs : zs.length ≤ 100000) :
    ∃ a cap w', (Builtin.append_ #[24, 24] ty #[.slice (some ⟨w.heap.size, 0, none⟩) 0 0, sv]).run Try.prog (w.alloc (.cells #[] 5)) = .ok (.slice a zs.length cap) w' ∧ Ow w.heap.size w' (.slice a zs.length cap) zs ∧ Later w w' ∧ But (fun g => g = w.heap.size) (w.alloc (.cells #[] 5)) w' := by
  obtain ⟨i0, hi, hz0, hz1, hz2⟩ := info_parts info_u8
  have la : Below w.heap.size w (w.alloc (.cells #[] 5)) := (Below.refl _ w).alloc (Nat.le_refl _) _
  obtain ⟨v', w', hr, h2, h3⟩ := run_app (P := Try.prog) (w.alloc (.cells #[] 5)) 24 ty 5 w.heap.size i0 Try.underlying24 hi hz0 hz1 hz2 _ [] (own_empty w _) n₀ sv zs (hI.below (la.mono hn)) (by simp; omega) la.size
  have hO := Ow.of_row h2
  simp only [List.nil_append] at hO
  obtain ⟨a, cap, rfl, _, _⟩ := hO.slice
  exact ⟨a, cap, w', hr, hO, below_app la (own_empty w _) h3 (Nat.le_refl _) la.size, ⟨h3.os, h3.tape, h3.output, h3.size, fun k hk he => h3.block k hk (fun e => he (by simp [Value.ownBlock] at e; omega))⟩⟩

/-- What the document's Add tells. -/
def adD (l : List Dp) (s was tl : Int) : Int := if okN was = false then 2 else if okN tl = false then 2 else if dps' l s = true then 2 else if 8 ≤ l.length then 9 else 0
theorem RS.ad {lp : List Pa} {ld : List Dp} (h : RS lp ld) (s was tl : Int) : adS lp s was tl = adD ld s was tl := by unfold adS adD; rw [h.pssd, h.len]
theorem adD_yes {l : List Dp} {s was tl : Int} (h : adD l s was tl = 0) : okN was = true ∧ okN tl = true ∧ dps' l s = false ∧ l.length < 8 := by
  unfold adD at h
  cases h1 : okN was <;> cases h2 : okN tl <;> cases h3 : dps' l s <;> simp [h1, h2, h3] at h ⊢
  omega
theorem okN_no {n : Int} (h : okN n = false) : n < 1 ∨ 128 < n := by
  unfold okN at h
  simp at h
  omega

set_option maxHeartbeats 8000000 in
theorem rsadd_no (base b : Nat) (v : Value) (l : List Dp) (s was : Int) (tv : Value) (zs : List Int) (w : World) (hT : DS 71 base w b v l) (hl : l.length ≤ 1000) (hI : Rd w.heap.size w tv zs) (ha : adD l s was zs.length ≠ 0) :
    Calls Try.prog 25 #[.pointer (some ⟨b, 0, none⟩), .int .u32 s, .int .i64 was, tv] w fun e w' => e = .returned (.int .i64 (adD l s was zs.length)) ∧ Later w w' := by
  obtain ⟨at0, ct0, rfl, _, _⟩ := hI.slice
  have k0 := block_cell hT.2.1
  obtain ⟨av, cv, rfl, _, _⟩ := (ownD_rd hT.2.2).slice
  have hli : (l.length : Int) ≤ 1000 := by omega
  clear hI
  go_enter Try.func25, Try.ntmps25
  cases h1 : okN was with
  | false =>
    have hv : adD l s was zs.length = 2 := by unfold adD; rw [if_pos h1]
    rw [hv]
    clear ha hv hT
    rcases okN_no h1 with hq | hq
    · clear h1
      go_wp2_with fail
      go_ret
      exact ⟨rfl, Later.refl _⟩
    · have hq2 : ¬ was < 1 := by omega
      clear h1
      go_wp2_with fail
      go_ret
      exact ⟨rfl, Later.refl _⟩
  | true =>
    obtain ⟨hw1, hw2⟩ := okN_rng h1
    have hw3 : ¬ was < 1 := by omega
    have hw4 : ¬ 128 < was := by omega
    cases h2 : okN zs.length with
    | false =>
      have hv : adD l s was zs.length = 2 := by unfold adD; rw [h1, if_neg (by simp), if_pos h2]
      rw [hv]
      clear ha hv h1 hT
      rcases okN_no h2 with hq | hq
      · clear h2
        go_wp2_with fail
        go_ret
        exact ⟨rfl, Later.refl _⟩
      · have hq2 : ¬ (zs.length : Int) < 1 := by omega
        clear h2
        go_wp2_with fail
        go_ret
        exact ⟨rfl, Later.refl _⟩
    | true =>
      obtain ⟨hz1, hz2⟩ := okN_rng h2
      have hz3 : ¬ (zs.length : Int) < 1 := by omega
      have hz4 : ¬ 128 < (zs.length : Int) := by omega
      have hv0 : adD l s was zs.length = if dps' l s = true then 2 else if 8 ≤ l.length then 9 else 0 := by unfold adD; rw [h1, h2, if_neg (by simp), if_neg (by simp)]
      rw [hv0] at ha ⊢
      clear hv0 h1 h2
      have hpos : 0 < l.length := by
        cases l with
        | nil => simp [dps'] at ha
        | cons a t => simp
      have hpos' : (0 : Int) < l.length := by omega
      obtain ⟨gq, off, cp, e, _, _, hgn, hcs⟩ := (ownD_rd hT.2.2).cells hpos
      simp at e
      obtain ⟨rfl, rfl⟩ := e
      have d0 := hcs (l.length - 1) (by omega) 0 (by omega)
      have d1 := hcs (l.length - 1) (by omega) 1 (by omega)
      have d2 := hcs (l.length - 1) (by omega) 2 (by omega)
      have hv : dps' l s = decide (ahd s (dend (l[l.length - 1]'(by omega))) < 0) := by
        unfold dps'
        rw [List.getLast?_eq_getElem?, List.getElem?_eq_getElem (by omega)]
        cases l with
        | nil => simp at hpos
        | cons a t => simp
      have HV := hide hv
      have c0 := hT.2.1
      have HT := hide hT
      clear hcs hv hT
      simp only [dpc, List.getElem?_cons_zero, List.getElem?_cons_succ, Nat.add_zero] at d0 d1 d2
      generalize (l[l.length - 1]'(by omega)) = r at *
      have HEN := hide (fun W => rend_any r W)
      unfold dpc at HEN
      have HAH := hide (fun W => rahead_any s (dend r) W)
      generalize hx : ahd s (dend r) = x at *
      clear hx
      generalize dend r = er at *
      obtain ⟨m, hm⟩ : ∃ m : Nat, l.length = m + 1 := ⟨l.length - 1, by omega⟩
      have HM := hide hm
      rw [hm] at d0 d1 d2 k0 c0 hli hpos'
      simp only [Nat.add_sub_cancel] at d0 d1 d2
      have hli' : (m : Int) ≤ 1000 := by omega
      have hlt : (m : Int) < (m : Int) + 1 := by omega
      have HWM : Hid (IntKind.i64.wrap (m : Int) = (m : Int)) := by show _ = _; rw [IntKind.wrap_i64]; omega
      rw [HV.out] at ha ⊢
      by_cases hx : x < 0
      · rw [decide_eq_true hx]
        clear ha HV HM hm hpos
        go_upto_region 5 with fail
        clear k0
        refine anyR_begin Later.pre Later.drew 25 rfl (by kernel_rfl) ?_
        intro Wd hWd
        have ha : ∀ v1, Later Wd v1 → ∀ j, v1.cell? ⟨b, j, none⟩ = #[Value.slice (some ⟨gq, off, none⟩) (m + 1) cv][j]? := fun v1 hv => block_cell (later_keep (hWd.trans hv) c0)
        have hc0 : ∀ v1, Later Wd v1 → v1.cell? ⟨gq, off + m * 3, none⟩ = some (.int .u32 r.st) := fun v1 hv => (hWd.trans hv).cell d0
        have hc1 : ∀ v1, Later Wd v1 → v1.cell? ⟨gq, off + m * 3 + 1, none⟩ = some (.int .i64 r.wz) := fun v1 hv => (hWd.trans hv).cell d1
        have hc2 : ∀ v1, Later Wd v1 → v1.cell? ⟨gq, off + m * 3 + 2, none⟩ = some (.slice r.ta r.tn r.tc) := fun v1 hv => (hWd.trans hv).cell d2
        refine anyR_val Later.pre 0 rfl (by kernel_rfl) (by kernel_rfl) (by kernel_rfl) (fun _ _ _ _ h => h) rfl ?_; apply Exists.intro; refine ⟨fun v1 hv1 => ?_, ?_⟩; (· (go_simp; rfl)); simp only [Act.put, List.setIfInBounds_toArray, List.set_cons_zero, List.set_cons_succ]
        refine anyR_val Later.pre 1 rfl (by kernel_rfl) (by kernel_rfl) (by kernel_rfl) (fun _ _ _ _ h => h) rfl ?_; apply Exists.intro; refine ⟨fun v1 hv1 => ?_, ?_⟩; (· (go_simp; rfl)); simp only [Act.put, List.setIfInBounds_toArray, List.set_cons_zero, List.set_cons_succ]
        refine anyR_val Later.pre 2 rfl (by kernel_rfl) (by kernel_rfl) (by kernel_rfl) (fun _ _ _ _ h => h) rfl ?_; apply Exists.intro; refine ⟨fun v1 hv1 => ?_, ?_⟩; (· (go_simp; rfl)); simp only [Act.put, List.setIfInBounds_toArray, List.set_cons_zero, List.set_cons_succ]
        refine anyR_val Later.pre 3 rfl (by kernel_rfl) (by kernel_rfl) (by kernel_rfl) (fun _ _ _ _ h => h) rfl ?_; apply Exists.intro; refine ⟨fun v1 hv1 => ?_, ?_⟩; (· (go_simp; rfl)); simp only [Act.put, List.setIfInBounds_toArray, List.set_cons_zero, List.set_cons_succ]
        refine anyR_val Later.pre 4 rfl (by kernel_rfl) (by kernel_rfl) (by kernel_rfl) (fun _ _ _ _ h => h) rfl ?_; apply Exists.intro; refine ⟨fun v1 hv1 => ?_, ?_⟩; (· (go_simp; rfl)); simp only [Act.put, List.setIfInBounds_toArray, List.set_cons_zero, List.set_cons_succ]
        refine anyR_val Later.pre 5 rfl (by kernel_rfl) (by kernel_rfl) (by kernel_rfl) (fun _ _ _ _ h => h) rfl ?_; apply Exists.intro; refine ⟨fun v1 hv1 => ?_, ?_⟩; (· (go_simp; rfl)); simp only [Act.put, List.setIfInBounds_toArray, List.set_cons_zero, List.set_cons_succ]
        refine anyR_val Later.pre 6 rfl (by kernel_rfl) (by kernel_rfl) (by kernel_rfl) (fun _ _ _ _ h => h) rfl ?_; apply Exists.intro; refine ⟨fun v1 hv1 => ?_, ?_⟩; (· (go_simp; rfl)); simp only [Act.put, List.setIfInBounds_toArray, List.set_cons_zero, List.set_cons_succ]
        refine anyR_valG Later.pre 7 rfl (by kernel_rfl) (by kernel_rfl) (by kernel_rfl) (fun _ _ _ _ h => h) (by rfl) ?_; apply Exists.intro; refine ⟨fun v1 hv1 => ?_, ?_⟩; (· (go_simp; rfl)); simp only [Act.put, List.setIfInBounds_toArray, List.set_cons_zero, List.set_cons_succ]
        refine anyR_valG Later.pre 8 rfl (by kernel_rfl) (by kernel_rfl) (by kernel_rfl) (fun _ _ _ _ h => h) (by rfl) ?_; apply Exists.intro; refine ⟨fun v1 hv1 => ?_, ?_⟩; (· (go_simp; rfl)); simp only [Act.put, List.setIfInBounds_toArray, List.set_cons_zero, List.set_cons_succ]
        refine anyR_valG Later.pre 9 rfl (by kernel_rfl) (by kernel_rfl) (by kernel_rfl) (fun _ _ _ _ h => h) (by rfl) ?_; apply Exists.intro; refine ⟨fun v1 hv1 => ?_, ?_⟩; (· (go_simp; rfl)); simp only [Act.put, List.setIfInBounds_toArray, List.set_cons_zero, List.set_cons_succ]
        refine anyR_valG Later.pre 10 rfl (by kernel_rfl) (by kernel_rfl) (by kernel_rfl) (fun _ _ _ _ h => h) (by rfl) ?_; apply Exists.intro; refine ⟨fun v1 hv1 => ?_, ?_⟩; (· (go_simp; rfl)); simp only [Act.put, List.setIfInBounds_toArray, List.set_cons_zero, List.set_cons_succ]
        refine anyR_valG Later.pre 11 rfl (by kernel_rfl) (by kernel_rfl) (by kernel_rfl) (fun _ _ _ _ h => h) (by rfl) ?_; apply Exists.intro; refine ⟨fun v1 hv1 => ?_, ?_⟩; (· (go_simp; rfl)); simp only [Act.put, List.setIfInBounds_toArray, List.set_cons_zero, List.set_cons_succ]
        refine anyR_valG Later.pre 12 rfl (by kernel_rfl) (by kernel_rfl) (by kernel_rfl) (fun _ _ _ _ h => h) (by rfl) ?_; apply Exists.intro; refine ⟨fun v1 hv1 => ?_, ?_⟩; (· (go_simp; rfl)); simp only [Act.put, List.setIfInBounds_toArray, List.set_cons_zero, List.set_cons_succ]
        refine anyR_valG Later.pre 13 rfl (by kernel_rfl) (by kernel_rfl) (by kernel_rfl) (fun _ _ _ _ h => h) (by rfl) ?_; apply Exists.intro; refine ⟨fun v1 hv1 => ?_, ?_⟩; (· (go_simp; rfl)); simp only [Act.put, List.setIfInBounds_toArray, List.set_cons_zero, List.set_cons_succ]
        refine anyR_valG Later.pre 14 rfl (by kernel_rfl) (by kernel_rfl) (by kernel_rfl) (fun _ _ _ _ h => h) (by rfl) ?_; apply Exists.intro; refine ⟨fun v1 hv1 => ?_, ?_⟩; (· (go_simp; rfl)); simp only [Act.put, List.setIfInBounds_toArray, List.set_cons_zero, List.set_cons_succ]
        refine anyR_valG Later.pre 15 rfl (by kernel_rfl) (by kernel_rfl) (by kernel_rfl) (fun _ _ _ _ h => h) (by rfl) ?_; apply Exists.intro; refine ⟨fun v1 hv1 => ?_, ?_⟩; (· (go_simp; rfl)); simp only [Act.put, List.setIfInBounds_toArray, List.set_cons_zero, List.set_cons_succ]
        refine anyR_valG Later.pre 16 rfl (by kernel_rfl) (by kernel_rfl) (by kernel_rfl) (fun _ _ _ _ h => h) (by rfl) ?_; apply Exists.intro; refine ⟨fun v1 hv1 => ?_, ?_⟩; (· (go_simp; rfl)); simp only [Act.put, List.setIfInBounds_toArray, List.set_cons_zero, List.set_cons_succ]
        refine anyR_valG Later.pre 17 rfl (by kernel_rfl) (by kernel_rfl) (by kernel_rfl) (fun _ _ _ _ h => h) (by rfl) ?_; apply Exists.intro; refine ⟨fun v1 hv1 => ?_, ?_⟩; (· (go_simp; rfl)); simp only [Act.put, List.setIfInBounds_toArray, List.set_cons_zero, List.set_cons_succ]
        simp only [HWM.out]
        refine anyR_valG Later.pre 18 rfl (by kernel_rfl) (by kernel_rfl) (by kernel_rfl) (fun _ _ _ _ h => h) (by rfl) ?_; apply Exists.intro; refine ⟨fun v1 hv1 => ?_, ?_⟩; (· (go_simp; rfl)); simp only [Act.put, List.setIfInBounds_toArray, List.set_cons_zero, List.set_cons_succ]
        refine anyR_valG Later.pre 19 rfl (by kernel_rfl) (by kernel_rfl) (by kernel_rfl) (fun _ _ _ _ h => h) (by rfl) ?_; apply Exists.intro; refine ⟨fun v1 hv1 => ?_, ?_⟩; (· (go_simp; rfl)); simp only [Act.put, List.setIfInBounds_toArray, List.set_cons_zero, List.set_cons_succ]
        refine anyR_takeG Later.pre 20 (.int .u32 er) rfl (by kernel_rfl) (by kernel_rfl) (by kernel_rfl) (fun _ _ _ h => h) (by rfl) (fun w1 hw1 => goes_call 39 #[.agg #[.int .u32 r.st, .int .i64 r.wz, .slice r.ta r.tn r.tc]] (by go_simp) (HEN.out w1)) ?_
        simp only [Act.put, List.setIfInBounds_toArray, List.set_cons_zero, List.set_cons_succ]
        refine anyR_takeG Later.pre 21 (.int .i64 x) rfl (by kernel_rfl) (by kernel_rfl) (by kernel_rfl) (fun _ _ _ h => h) (by rfl) (fun w1 hw1 => goes_call 20 #[.int .u32 s, .int .u32 er] (by go_simp) ((HAH.out w1).mono fun e w2 h => ⟨h.1, by rw [h.2]; exact Later.refl _⟩)) ?_
        simp only [Act.put, List.setIfInBounds_toArray, List.set_cons_zero, List.set_cons_succ]
        clear hc0 hc1 hc2 ha
        refine anyR_valG Later.pre 22 rfl (by kernel_rfl) (by kernel_rfl) (by kernel_rfl) (fun _ _ _ _ h => h) (by rfl) ?_; apply Exists.intro; refine ⟨fun v1 hv1 => ?_, ?_⟩; (· (go_simp; rfl)); simp only [Act.put, List.setIfInBounds_toArray, List.set_cons_zero, List.set_cons_succ]
        refine anyR_val Later.pre 23 rfl (by kernel_rfl) (by kernel_rfl) (by kernel_rfl) (fun _ _ _ _ h => h) rfl ?_; apply Exists.intro; refine ⟨fun v1 hv1 => ?_, ?_⟩; (· (go_simp; rfl)); simp only [Act.put, List.setIfInBounds_toArray, List.set_cons_zero, List.set_cons_succ]
        refine anyR_val Later.pre 24 rfl (by kernel_rfl) (by kernel_rfl) (by kernel_rfl) (fun _ _ _ _ h => h) rfl ?_; apply Exists.intro; refine ⟨fun v1 hv1 => ?_, ?_⟩; (· (go_simp; rfl)); simp only [Act.put, List.setIfInBounds_toArray, List.set_cons_zero, List.set_cons_succ]
        refine anyR_done (by kernel_rfl) (fun VD hVD => ?_)
        have LV : Later w VD := hWd.trans hVD
        go_wp2_with fail
        go_ret
        exact ⟨rfl, LV⟩
      · rw [decide_eq_false hx] at ha ⊢
        have h8 : 8 ≤ l.length := by
          by_cases h : 8 ≤ l.length
          · exact h
          · simp [h] at ha
        have HE : Hid ((if false = true then (2 : Int) else if 8 ≤ l.length then 9 else 0) = 9) := by show _ = _; rw [if_neg (by simp), if_pos h8]
        rw [HE.out]
        have h8' : (8 : Int) ≤ ((m + 1 : Nat) : Int) := by omega
        clear ha HV HM HE hm hpos h8
        go_upto_region 5 with fail
        clear k0
        refine anyR_begin Later.pre Later.drew 25 rfl (by kernel_rfl) ?_
        intro Wd hWd
        have ha : ∀ v1, Later Wd v1 → ∀ j, v1.cell? ⟨b, j, none⟩ = #[Value.slice (some ⟨gq, off, none⟩) (m + 1) cv][j]? := fun v1 hv => block_cell (later_keep (hWd.trans hv) c0)
        have hc0 : ∀ v1, Later Wd v1 → v1.cell? ⟨gq, off + m * 3, none⟩ = some (.int .u32 r.st) := fun v1 hv => (hWd.trans hv).cell d0
        have hc1 : ∀ v1, Later Wd v1 → v1.cell? ⟨gq, off + m * 3 + 1, none⟩ = some (.int .i64 r.wz) := fun v1 hv => (hWd.trans hv).cell d1
        have hc2 : ∀ v1, Later Wd v1 → v1.cell? ⟨gq, off + m * 3 + 2, none⟩ = some (.slice r.ta r.tn r.tc) := fun v1 hv => (hWd.trans hv).cell d2
        refine anyR_val Later.pre 0 rfl (by kernel_rfl) (by kernel_rfl) (by kernel_rfl) (fun _ _ _ _ h => h) rfl ?_; apply Exists.intro; refine ⟨fun v1 hv1 => ?_, ?_⟩; (· (go_simp; rfl)); simp only [Act.put, List.setIfInBounds_toArray, List.set_cons_zero, List.set_cons_succ]
        refine anyR_val Later.pre 1 rfl (by kernel_rfl) (by kernel_rfl) (by kernel_rfl) (fun _ _ _ _ h => h) rfl ?_; apply Exists.intro; refine ⟨fun v1 hv1 => ?_, ?_⟩; (· (go_simp; rfl)); simp only [Act.put, List.setIfInBounds_toArray, List.set_cons_zero, List.set_cons_succ]
        refine anyR_val Later.pre 2 rfl (by kernel_rfl) (by kernel_rfl) (by kernel_rfl) (fun _ _ _ _ h => h) rfl ?_; apply Exists.intro; refine ⟨fun v1 hv1 => ?_, ?_⟩; (· (go_simp; rfl)); simp only [Act.put, List.setIfInBounds_toArray, List.set_cons_zero, List.set_cons_succ]
        refine anyR_val Later.pre 3 rfl (by kernel_rfl) (by kernel_rfl) (by kernel_rfl) (fun _ _ _ _ h => h) rfl ?_; apply Exists.intro; refine ⟨fun v1 hv1 => ?_, ?_⟩; (· (go_simp; rfl)); simp only [Act.put, List.setIfInBounds_toArray, List.set_cons_zero, List.set_cons_succ]
        refine anyR_val Later.pre 4 rfl (by kernel_rfl) (by kernel_rfl) (by kernel_rfl) (fun _ _ _ _ h => h) rfl ?_; apply Exists.intro; refine ⟨fun v1 hv1 => ?_, ?_⟩; (· (go_simp; rfl)); simp only [Act.put, List.setIfInBounds_toArray, List.set_cons_zero, List.set_cons_succ]
        refine anyR_val Later.pre 5 rfl (by kernel_rfl) (by kernel_rfl) (by kernel_rfl) (fun _ _ _ _ h => h) rfl ?_; apply Exists.intro; refine ⟨fun v1 hv1 => ?_, ?_⟩; (· (go_simp; rfl)); simp only [Act.put, List.setIfInBounds_toArray, List.set_cons_zero, List.set_cons_succ]
        refine anyR_val Later.pre 6 rfl (by kernel_rfl) (by kernel_rfl) (by kernel_rfl) (fun _ _ _ _ h => h) rfl ?_; apply Exists.intro; refine ⟨fun v1 hv1 => ?_, ?_⟩; (· (go_simp; rfl)); simp only [Act.put, List.setIfInBounds_toArray, List.set_cons_zero, List.set_cons_succ]
        refine anyR_valG Later.pre 7 rfl (by kernel_rfl) (by kernel_rfl) (by kernel_rfl) (fun _ _ _ _ h => h) (by rfl) ?_; apply Exists.intro; refine ⟨fun v1 hv1 => ?_, ?_⟩; (· (go_simp; rfl)); simp only [Act.put, List.setIfInBounds_toArray, List.set_cons_zero, List.set_cons_succ]
        refine anyR_valG Later.pre 8 rfl (by kernel_rfl) (by kernel_rfl) (by kernel_rfl) (fun _ _ _ _ h => h) (by rfl) ?_; apply Exists.intro; refine ⟨fun v1 hv1 => ?_, ?_⟩; (· (go_simp; rfl)); simp only [Act.put, List.setIfInBounds_toArray, List.set_cons_zero, List.set_cons_succ]
        refine anyR_valG Later.pre 9 rfl (by kernel_rfl) (by kernel_rfl) (by kernel_rfl) (fun _ _ _ _ h => h) (by rfl) ?_; apply Exists.intro; refine ⟨fun v1 hv1 => ?_, ?_⟩; (· (go_simp; rfl)); simp only [Act.put, List.setIfInBounds_toArray, List.set_cons_zero, List.set_cons_succ]
        refine anyR_valG Later.pre 10 rfl (by kernel_rfl) (by kernel_rfl) (by kernel_rfl) (fun _ _ _ _ h => h) (by rfl) ?_; apply Exists.intro; refine ⟨fun v1 hv1 => ?_, ?_⟩; (· (go_simp; rfl)); simp only [Act.put, List.setIfInBounds_toArray, List.set_cons_zero, List.set_cons_succ]
        refine anyR_valG Later.pre 11 rfl (by kernel_rfl) (by kernel_rfl) (by kernel_rfl) (fun _ _ _ _ h => h) (by rfl) ?_; apply Exists.intro; refine ⟨fun v1 hv1 => ?_, ?_⟩; (· (go_simp; rfl)); simp only [Act.put, List.setIfInBounds_toArray, List.set_cons_zero, List.set_cons_succ]
        refine anyR_valG Later.pre 12 rfl (by kernel_rfl) (by kernel_rfl) (by kernel_rfl) (fun _ _ _ _ h => h) (by rfl) ?_; apply Exists.intro; refine ⟨fun v1 hv1 => ?_, ?_⟩; (· (go_simp; rfl)); simp only [Act.put, List.setIfInBounds_toArray, List.set_cons_zero, List.set_cons_succ]
        refine anyR_valG Later.pre 13 rfl (by kernel_rfl) (by kernel_rfl) (by kernel_rfl) (fun _ _ _ _ h => h) (by rfl) ?_; apply Exists.intro; refine ⟨fun v1 hv1 => ?_, ?_⟩; (· (go_simp; rfl)); simp only [Act.put, List.setIfInBounds_toArray, List.set_cons_zero, List.set_cons_succ]
        refine anyR_valG Later.pre 14 rfl (by kernel_rfl) (by kernel_rfl) (by kernel_rfl) (fun _ _ _ _ h => h) (by rfl) ?_; apply Exists.intro; refine ⟨fun v1 hv1 => ?_, ?_⟩; (· (go_simp; rfl)); simp only [Act.put, List.setIfInBounds_toArray, List.set_cons_zero, List.set_cons_succ]
        refine anyR_valG Later.pre 15 rfl (by kernel_rfl) (by kernel_rfl) (by kernel_rfl) (fun _ _ _ _ h => h) (by rfl) ?_; apply Exists.intro; refine ⟨fun v1 hv1 => ?_, ?_⟩; (· (go_simp; rfl)); simp only [Act.put, List.setIfInBounds_toArray, List.set_cons_zero, List.set_cons_succ]
        refine anyR_valG Later.pre 16 rfl (by kernel_rfl) (by kernel_rfl) (by kernel_rfl) (fun _ _ _ _ h => h) (by rfl) ?_; apply Exists.intro; refine ⟨fun v1 hv1 => ?_, ?_⟩; (· (go_simp; rfl)); simp only [Act.put, List.setIfInBounds_toArray, List.set_cons_zero, List.set_cons_succ]
        refine anyR_valG Later.pre 17 rfl (by kernel_rfl) (by kernel_rfl) (by kernel_rfl) (fun _ _ _ _ h => h) (by rfl) ?_; apply Exists.intro; refine ⟨fun v1 hv1 => ?_, ?_⟩; (· (go_simp; rfl)); simp only [Act.put, List.setIfInBounds_toArray, List.set_cons_zero, List.set_cons_succ]
        simp only [HWM.out]
        refine anyR_valG Later.pre 18 rfl (by kernel_rfl) (by kernel_rfl) (by kernel_rfl) (fun _ _ _ _ h => h) (by rfl) ?_; apply Exists.intro; refine ⟨fun v1 hv1 => ?_, ?_⟩; (· (go_simp; rfl)); simp only [Act.put, List.setIfInBounds_toArray, List.set_cons_zero, List.set_cons_succ]
        refine anyR_valG Later.pre 19 rfl (by kernel_rfl) (by kernel_rfl) (by kernel_rfl) (fun _ _ _ _ h => h) (by rfl) ?_; apply Exists.intro; refine ⟨fun v1 hv1 => ?_, ?_⟩; (· (go_simp; rfl)); simp only [Act.put, List.setIfInBounds_toArray, List.set_cons_zero, List.set_cons_succ]
        refine anyR_takeG Later.pre 20 (.int .u32 er) rfl (by kernel_rfl) (by kernel_rfl) (by kernel_rfl) (fun _ _ _ h => h) (by rfl) (fun w1 hw1 => goes_call 39 #[.agg #[.int .u32 r.st, .int .i64 r.wz, .slice r.ta r.tn r.tc]] (by go_simp) (HEN.out w1)) ?_
        simp only [Act.put, List.setIfInBounds_toArray, List.set_cons_zero, List.set_cons_succ]
        refine anyR_takeG Later.pre 21 (.int .i64 x) rfl (by kernel_rfl) (by kernel_rfl) (by kernel_rfl) (fun _ _ _ h => h) (by rfl) (fun w1 hw1 => goes_call 20 #[.int .u32 s, .int .u32 er] (by go_simp) ((HAH.out w1).mono fun e w2 h => ⟨h.1, by rw [h.2]; exact Later.refl _⟩)) ?_
        simp only [Act.put, List.setIfInBounds_toArray, List.set_cons_zero, List.set_cons_succ]
        clear hc0 hc1 hc2 ha
        refine anyR_valG Later.pre 22 rfl (by kernel_rfl) (by kernel_rfl) (by kernel_rfl) (fun _ _ _ _ h => h) (by rfl) ?_; apply Exists.intro; refine ⟨fun v1 hv1 => ?_, ?_⟩; (· (go_simp; rfl)); simp only [Act.put, List.setIfInBounds_toArray, List.set_cons_zero, List.set_cons_succ]
        refine anyR_val Later.pre 23 rfl (by kernel_rfl) (by kernel_rfl) (by kernel_rfl) (fun _ _ _ _ h => h) rfl ?_; apply Exists.intro; refine ⟨fun v1 hv1 => ?_, ?_⟩; (· (go_simp; rfl)); simp only [Act.put, List.setIfInBounds_toArray, List.set_cons_zero, List.set_cons_succ]
        refine anyR_val Later.pre 24 rfl (by kernel_rfl) (by kernel_rfl) (by kernel_rfl) (fun _ _ _ _ h => h) rfl ?_; apply Exists.intro; refine ⟨fun v1 hv1 => ?_, ?_⟩; (· (go_simp; rfl)); simp only [Act.put, List.setIfInBounds_toArray, List.set_cons_zero, List.set_cons_succ]
        refine anyR_done (by kernel_rfl) (fun VD hVD => ?_)
        have LV : Later w VD := hWd.trans hVD
        have kv := block_cell (later_keep LV c0)
        go_wp2_with fail
        go_ret
        exact ⟨rfl, LV⟩

end Go.Proofs.Ytaaanmjmgnpcgaa
