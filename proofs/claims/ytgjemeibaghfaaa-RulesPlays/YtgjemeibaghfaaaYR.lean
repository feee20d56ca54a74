/- The document's Drop. -/
import Derived.Test.YtgjemeibaghfaaaYQ
namespace Go.Proofs.Ytgjemeibaghfaaa
open Go.RowKit Go.Shelf
set_option maxRecDepth 100000
set_option linter.unusedVariables false
set_option linter.unusedSimpArgs false

/-- What is behind some of one's own, as a slice reads it. -/
theorem ownU_drop {base : Nat} {W : World} {g cap : Nat} {l : List Ru} (k : Nat) (hk : k ≤ l.length) (h : W.ownsRow base 36 8 (.slice (some ⟨g, 0, none⟩) l.length cap) l.length (rus l)) :
    RdQ W.heap.size W (.slice (if cap = k then some ⟨g, 0, none⟩ else some ⟨g, k * 8, none⟩) (l.length - k) (cap - k)) (l.drop k) := by
  obtain ⟨h1, ⟨e, _⟩ | ⟨g2, cap2, cur, e, hg, hh, hl, hm, hs, hc⟩⟩ := h
  · cases e
  · cases e
    have hm' : cap ≤ 9223372036854775807 := by simpa [maxLen] using hm
    by_cases h0 : l.length = k
    · subst h0
      exact .inl ⟨_, _, by rw [Nat.sub_self], by simp, by omega, fun h => by split at h <;> cases h⟩
    · refine .inr ⟨g, k * 8, cap - k, by rw [if_neg (by omega), List.length_drop], fun e => by have := congrArg List.length e; simp at this; omega, by simp; omega, by omega, (Array.getElem?_eq_some_iff.1 hh).1, fun j hj i hi => ?_⟩
      have hj' : k + j < l.length := by simp at hj; omega
      rw [block_cell hh, show k * 8 + j * 8 + i = (k + j) * 8 + i from by omega, List.getElem_drop, ← rus_at l (k + j) i hj' hi, ← hc, List.getElem?_take_of_lt (by omega)]
      simp

set_option maxHeartbeats 8000000 in
theorem rdrop9_any (base b : Nat) (v : Value) (l : List Ru) (i : Int) (w : World) (hT : RL 67 base w b v l) (hl : l.length ≤ 5000) (hbs : base ≤ w.heap.size) :
    Calls Try.prog 39 #[.pointer (some ⟨b, 0, none⟩), .int .i64 i] w fun e w' => e = .returned (.int .i64 (drE l i)) ∧ RLq 67 base w w' b v (drL l i) := by
  obtain ⟨av, cv, rfl, hcl, hcm⟩ := (ownU_rd hT.2.2).slice
  have k0 := block_cell hT.2.1
  go_enter Try.func39, Try.ntmps39
  by_cases h0 : i < 0
  · have hd := drE_no (l := l) (.inl h0)
    have HD := hide hd
    have HL := hide (drL_no (l := l) (i := i) (by rw [hd]; omega))
    clear hd
    go_wp2_with fail
    go_ret
    exact ⟨by rw [HD.out]; rfl, by rw [HL.out]; exact RLq.same hT (Later.refl _)⟩
  · by_cases h1 : (l.length : Int) ≤ i
    · have hd := drE_no (l := l) (.inr h1)
      have HD := hide hd
      have HL := hide (drL_no (l := l) (i := i) (by rw [hd]; omega))
      clear hd
      go_wp2_with fail
      go_ret
      exact ⟨by rw [HD.out]; rfl, by rw [HL.out]; exact RLq.same hT (Later.refl _)⟩
    · obtain ⟨j, rfl⟩ := Int.eq_ofNat_of_zero_le (show 0 ≤ i by omega)
      have hj : j < l.length := by omega
      obtain ⟨g, cap, rfl, rfl⟩ : ∃ g cap, av = some ⟨g, 0, none⟩ ∧ cv = cap := by
        obtain ⟨_, ⟨e, e2⟩ | ⟨g2, cap2, cur, e, _⟩⟩ := hT.2.2
        · omega
        · cases e
          exact ⟨g2, cv, rfl, rfl⟩
      have hd := drE_yes hj
      have HD := hide hd
      have HL := hide (drL_yes hd)
      clear hd
      have h2 : (j : Int) + 1 ≤ 9223372036854775807 := by omega
      have HJ := hide hj
      have i1 : (j : Int) ≤ cv := by omega
      have i2 : (j : Int) + 1 ≤ l.length := by omega
      have i3 : (l.length : Int) ≤ cv := by omega
      have i4 : ¬ cv = 0 := by omega
      have i5 : j ≤ cv := by omega
      have i6 : j + 1 ≤ l.length := by omega
      have HT := hide hT
      clear hj
      go_upto_region 6 with fail
      clear k0
      refine anyT_begin (R := But (fun x => w.heap.size ≤ x)) 17 rfl (by kernel_rfl) ?_
      have ld : Later w w.drew := Later.drew w
      have hsd : w.drew.heap.size = w.heap.size := rfl
      generalize w.drew = Wd at *
      have hbd : ∀ v1, But (fun x => w.heap.size ≤ x) Wd v1 → ∀ j, v1.cell? ⟨b, j, none⟩ = #[Value.slice (some ⟨g, 0, none⟩) l.length cv][j]? := fun v1 hv => block_cell ((hv.block b (by have := HT.out.blt; omega) (fun e => by have := HT.out.blt; omega)).trans (HT.out.later ld).2.1)
      have hwr : IntKind.i64.wrap ((j : Int) + 1) = (j : Int) + 1 := by simp [IntKind.wrap, IntKind.bits, IntKind.signed]; omega
      have HWR := hide hwr
      clear hwr
      by_cases hcap : cv = j + 1
      · subst hcap
        have i7 : (j : Int) ≤ (j : Int) + 1 := by omega
        have i8 : (l.length : Int) ≤ (j : Int) + 1 := by omega
        refine anyT_val (But.pre _) 0 rfl (by kernel_rfl) (by kernel_rfl) (by kernel_rfl) (fun _ _ _ _ h => h) rfl ?_; apply Exists.intro; refine ⟨fun v1 hv1 => ?_, ?_⟩; (· (go_simp; rfl)); simp only [Act.put, List.setIfInBounds_toArray, List.set_cons_zero, List.set_cons_succ]
        refine anyT_val (But.pre _) 1 rfl (by kernel_rfl) (by kernel_rfl) (by kernel_rfl) (fun _ _ _ _ h => h) rfl ?_; apply Exists.intro; refine ⟨fun v1 hv1 => ?_, ?_⟩; (· (go_simp; rfl)); simp only [Act.put, List.setIfInBounds_toArray, List.set_cons_zero, List.set_cons_succ]
        refine anyT_val (But.pre _) 2 rfl (by kernel_rfl) (by kernel_rfl) (by kernel_rfl) (fun _ _ _ _ h => h) rfl ?_; apply Exists.intro; refine ⟨fun v1 hv1 => ?_, ?_⟩; (· (go_simp; rfl)); simp only [Act.put, List.setIfInBounds_toArray, List.set_cons_zero, List.set_cons_succ]
        refine anyT_val (But.pre _) 3 rfl (by kernel_rfl) (by kernel_rfl) (by kernel_rfl) (fun _ _ _ _ h => h) rfl ?_; apply Exists.intro; refine ⟨fun v1 hv1 => ?_, ?_⟩; (· (go_simp; rfl)); simp only [Act.put, List.setIfInBounds_toArray, List.set_cons_zero, List.set_cons_succ]
        refine anyT_val (But.pre _) 4 rfl (by kernel_rfl) (by kernel_rfl) (by kernel_rfl) (fun _ _ _ _ h => h) rfl ?_; apply Exists.intro; refine ⟨fun v1 hv1 => ?_, ?_⟩; (· (go_simp; rfl)); simp only [Act.put, List.setIfInBounds_toArray, List.set_cons_zero, List.set_cons_succ]
        refine anyT_val (But.pre _) 5 rfl (by kernel_rfl) (by kernel_rfl) (by kernel_rfl) (fun _ _ _ _ h => h) rfl ?_; apply Exists.intro; refine ⟨fun v1 hv1 => ?_, ?_⟩; (· (go_simp; rfl)); simp only [Act.put, List.setIfInBounds_toArray, List.set_cons_zero, List.set_cons_succ]
        refine anyT_val (But.pre _) 6 rfl (by kernel_rfl) (by kernel_rfl) (by kernel_rfl) (fun _ _ _ _ h => h) rfl ?_; apply Exists.intro; refine ⟨fun v1 hv1 => ?_, ?_⟩; (· (go_simp; rfl)); simp only [Act.put, List.setIfInBounds_toArray, List.set_cons_zero, List.set_cons_succ]
        refine anyT_val (But.pre _) 8 rfl (by kernel_rfl) (by kernel_rfl) (by kernel_rfl) (fun _ _ _ _ h => h) rfl ?_; apply Exists.intro; refine ⟨fun v1 hv1 => ?_, ?_⟩; (· (go_simp; rfl)); simp only [Act.put, List.setIfInBounds_toArray, List.set_cons_zero, List.set_cons_succ]
        refine anyT_val (But.pre _) 9 rfl (by kernel_rfl) (by kernel_rfl) (by kernel_rfl) (fun _ _ _ _ h => h) rfl ?_; apply Exists.intro; refine ⟨fun v1 hv1 => ?_, ?_⟩; (· (go_simp; rfl)); simp only [Act.put, List.setIfInBounds_toArray, List.set_cons_zero, List.set_cons_succ]
        refine anyT_val (But.pre _) 10 rfl (by kernel_rfl) (by kernel_rfl) (by kernel_rfl) (fun _ _ _ _ h => h) rfl ?_; apply Exists.intro; refine ⟨fun v1 hv1 => ?_, ?_⟩; (· (go_simp; rfl)); simp only [Act.put, List.setIfInBounds_toArray, List.set_cons_zero, List.set_cons_succ]
        refine anyT_val (But.pre _) 11 rfl (by kernel_rfl) (by kernel_rfl) (by kernel_rfl) (fun _ _ _ _ h => h) rfl ?_; apply Exists.intro; refine ⟨fun v1 hv1 => ?_, ?_⟩; (· (go_simp; rfl)); simp only [Act.put, List.setIfInBounds_toArray, List.set_cons_zero, List.set_cons_succ]
        refine anyT_val (But.pre _) 12 rfl (by kernel_rfl) (by kernel_rfl) (by kernel_rfl) (fun _ _ _ _ h => h) rfl ?_; apply Exists.intro; refine ⟨fun v1 hv1 => ?_, ?_⟩; (· (go_simp; rfl)); simp only [Act.put, List.setIfInBounds_toArray, List.set_cons_zero, List.set_cons_succ]
        refine anyT_val (But.pre _) 13 rfl (by kernel_rfl) (by kernel_rfl) (by kernel_rfl) (fun _ _ _ _ h => h) rfl ⟨.int .i64 ((j : Int) + 1), fun v1 hv1 => by go_simp; rw [HWR.out], ?_⟩
        simp only [Act.put, List.setIfInBounds_toArray, List.set_cons_zero, List.set_cons_succ]
        refine anyT_val (But.pre _) 14 rfl (by kernel_rfl) (by kernel_rfl) (by kernel_rfl) (fun _ _ _ _ h => h) rfl ?_; apply Exists.intro; refine ⟨fun v1 hv1 => ?_, ?_⟩; (· (go_simp; rfl)); simp only [Act.put, List.setIfInBounds_toArray, List.set_cons_zero, List.set_cons_succ]
        clear hbd
        have hr0 : Wd.ownsRow base 36 8 (.slice none 0 0) ([] : List Ru).length (rus []) := ⟨rfl, .inl ⟨rfl, rfl⟩⟩
        obtain ⟨v1, W1, q1, q2, q3, q4⟩ := appQ Wd 41 base Wd.heap.size (.slice none 0 0) [] (.slice (some ⟨g, 0, none⟩) j (j + 1)) (l.take j) hr0 (ownU_rd (l := l.take j) (by rw [List.length_take, Nat.min_eq_left (by omega)]; exact ownU_take j (by omega) (HT.out.later ld).2.2)) (by omega) (by simp; omega)
        have b1 : But (fun x => w.heap.size ≤ x) Wd W1 := ⟨q3.os, q3.tape, q3.output, q3.size, fun k hk he => q3.block k hk (fun e => by cases e)⟩
        have l1 : Later Wd W1 := ⟨q3.os, q3.tape, q3.output, q3.size, fun k hk => q3.block k hk (fun e => by cases e)⟩
        have L1 := ld.trans l1
        have hs1 := L1.size
        refine anyT_one 7 rfl (by kernel_rfl) rfl ?_
        refine wp_app (.tmp 21) (.tmp 27) 41 rfl _ _ rfl rfl _ W1 q1 ⟨b1, ?_⟩
        simp only [Act.put, List.setIfInBounds_toArray, List.set_cons_zero, List.set_cons_succ]
        have hd1 := ownU_drop (j + 1) (by omega) (HT.out.later L1).2.2
        rw [if_pos rfl, Nat.sub_self, show l.length - (j + 1) = 0 from by omega] at hd1
        obtain ⟨v2, W2, p1, p2, p3, p4⟩ := appQ W1 41 base W1.heap.size v1 ([] ++ l.take j) _ (l.drop (j + 1)) q2 hd1 (by omega) (by simp; omega)
        have f1 : ∀ x, v1.ownBlock = some x → w.heap.size ≤ x := fun x hx => by
          rcases q4 with h | h
          · rw [h] at hx; cases hx
          · rw [h] at hx; cases hx; omega
        have f2 : ∀ x, v2.ownBlock = some x → w.heap.size ≤ x := fun x hx => by
          rcases p4 with h | h
          · rw [h] at hx; exact f1 x hx
          · rw [h] at hx; cases hx; omega
        have b2 : But (fun x => w.heap.size ≤ x) W1 W2 := ⟨p3.os, p3.tape, p3.output, p3.size, fun k hk he => p3.block k hk (fun e => he (f1 k e.symm))⟩
        rw [List.nil_append, ← erase_eq] at p2
        obtain ⟨a2, c2, rfl, _, _⟩ := (ownU_rd p2).slice
        refine anyT_one 15 rfl (by kernel_rfl) rfl ?_
        refine wp_app (.tmp 28) (.tmp 35) 41 rfl _ _ rfl rfl _ W2 p1 ⟨b2, ?_⟩
        simp only [Act.put, List.setIfInBounds_toArray, List.set_cons_zero, List.set_cons_succ]
        refine anyT_one 16 rfl (by kernel_rfl) rfl ?_
        unfold Oper.wp
        go_simp
        refine ⟨But.refl _ _, ?_⟩
        refine anyT_done (by kernel_rfl) ?_
        have bz : But (fun x => w.heap.size ≤ x) w W2 := (But.of ld).trans (b1.trans b2)
        have hb0 := (bz.block b HT.out.blt (fun e => by have := HT.out.blt; omega)).trans HT.out.2.1
        have kz := block_cell hb0
        have fz := block_frozen hb0
        have P2 := hide p2
        have F2 := hide f2
        clear p2 f2 q2 p1 q1 hd1 q4 p4 f1 hr0
        go_wp2_with fail
        go_ret
        refine ⟨by rw [HD.out]; rfl, ?_⟩
        rw [HL.out, Int.toNat_natCast]
        have bs : But (fun x => x = b ∨ Value.ownBlock (.slice (some ⟨g, 0, none⟩) l.length (j + 1)) = some x) w (W2.setCell ⟨b, 0, none⟩ (.slice a2 (l.eraseIdx j).length c2)) := by
          refine ⟨bz.os, bz.tape, bz.output, Nat.le_trans bz.size (by simp), fun k hk he => ?_⟩
          exact (Below.heap_setCell W2 ⟨b, 0, none⟩ _ k (fun e => he (.inl e))).trans (bz.block k hk (fun e => by omega))
        refine ⟨.slice a2 (l.eraseIdx j).length c2, ⟨HT.out.1, heap_set1 hb0 0 _, ?_⟩, bs, .inr F2.out⟩
        obtain ⟨s1, s2 | ⟨g2, cap2, cur, e, s2, s3, s4⟩⟩ := P2.out
        · exact ⟨s1, .inl s2⟩
        · refine ⟨s1, .inr ⟨g2, cap2, cur, e, s2, hset_ne s3 (fun e2 => ?_), s4⟩⟩
          rw [e2, hb0] at s3
          simp at s3
      · have hn : True := trivial
        refine anyT_val (But.pre _) 0 rfl (by kernel_rfl) (by kernel_rfl) (by kernel_rfl) (fun _ _ _ _ h => h) rfl ?_; apply Exists.intro; refine ⟨fun v1 hv1 => ?_, ?_⟩; (· (go_simp; rfl)); simp only [Act.put, List.setIfInBounds_toArray, List.set_cons_zero, List.set_cons_succ]
        refine anyT_val (But.pre _) 1 rfl (by kernel_rfl) (by kernel_rfl) (by kernel_rfl) (fun _ _ _ _ h => h) rfl ?_; apply Exists.intro; refine ⟨fun v1 hv1 => ?_, ?_⟩; (· (go_simp; rfl)); simp only [Act.put, List.setIfInBounds_toArray, List.set_cons_zero, List.set_cons_succ]
        refine anyT_val (But.pre _) 2 rfl (by kernel_rfl) (by kernel_rfl) (by kernel_rfl) (fun _ _ _ _ h => h) rfl ?_; apply Exists.intro; refine ⟨fun v1 hv1 => ?_, ?_⟩; (· (go_simp; rfl)); simp only [Act.put, List.setIfInBounds_toArray, List.set_cons_zero, List.set_cons_succ]
        refine anyT_val (But.pre _) 3 rfl (by kernel_rfl) (by kernel_rfl) (by kernel_rfl) (fun _ _ _ _ h => h) rfl ?_; apply Exists.intro; refine ⟨fun v1 hv1 => ?_, ?_⟩; (· (go_simp; rfl)); simp only [Act.put, List.setIfInBounds_toArray, List.set_cons_zero, List.set_cons_succ]
        refine anyT_val (But.pre _) 4 rfl (by kernel_rfl) (by kernel_rfl) (by kernel_rfl) (fun _ _ _ _ h => h) rfl ?_; apply Exists.intro; refine ⟨fun v1 hv1 => ?_, ?_⟩; (· (go_simp; rfl)); simp only [Act.put, List.setIfInBounds_toArray, List.set_cons_zero, List.set_cons_succ]
        refine anyT_val (But.pre _) 5 rfl (by kernel_rfl) (by kernel_rfl) (by kernel_rfl) (fun _ _ _ _ h => h) rfl ?_; apply Exists.intro; refine ⟨fun v1 hv1 => ?_, ?_⟩; (· (go_simp; rfl)); simp only [Act.put, List.setIfInBounds_toArray, List.set_cons_zero, List.set_cons_succ]
        refine anyT_val (But.pre _) 6 rfl (by kernel_rfl) (by kernel_rfl) (by kernel_rfl) (fun _ _ _ _ h => h) rfl ?_; apply Exists.intro; refine ⟨fun v1 hv1 => ?_, ?_⟩; (· (go_simp; rfl)); simp only [Act.put, List.setIfInBounds_toArray, List.set_cons_zero, List.set_cons_succ]
        refine anyT_val (But.pre _) 8 rfl (by kernel_rfl) (by kernel_rfl) (by kernel_rfl) (fun _ _ _ _ h => h) rfl ?_; apply Exists.intro; refine ⟨fun v1 hv1 => ?_, ?_⟩; (· (go_simp; rfl)); simp only [Act.put, List.setIfInBounds_toArray, List.set_cons_zero, List.set_cons_succ]
        refine anyT_val (But.pre _) 9 rfl (by kernel_rfl) (by kernel_rfl) (by kernel_rfl) (fun _ _ _ _ h => h) rfl ?_; apply Exists.intro; refine ⟨fun v1 hv1 => ?_, ?_⟩; (· (go_simp; rfl)); simp only [Act.put, List.setIfInBounds_toArray, List.set_cons_zero, List.set_cons_succ]
        refine anyT_val (But.pre _) 10 rfl (by kernel_rfl) (by kernel_rfl) (by kernel_rfl) (fun _ _ _ _ h => h) rfl ?_; apply Exists.intro; refine ⟨fun v1 hv1 => ?_, ?_⟩; (· (go_simp; rfl)); simp only [Act.put, List.setIfInBounds_toArray, List.set_cons_zero, List.set_cons_succ]
        refine anyT_val (But.pre _) 11 rfl (by kernel_rfl) (by kernel_rfl) (by kernel_rfl) (fun _ _ _ _ h => h) rfl ?_; apply Exists.intro; refine ⟨fun v1 hv1 => ?_, ?_⟩; (· (go_simp; rfl)); simp only [Act.put, List.setIfInBounds_toArray, List.set_cons_zero, List.set_cons_succ]
        refine anyT_val (But.pre _) 12 rfl (by kernel_rfl) (by kernel_rfl) (by kernel_rfl) (fun _ _ _ _ h => h) rfl ?_; apply Exists.intro; refine ⟨fun v1 hv1 => ?_, ?_⟩; (· (go_simp; rfl)); simp only [Act.put, List.setIfInBounds_toArray, List.set_cons_zero, List.set_cons_succ]
        refine anyT_val (But.pre _) 13 rfl (by kernel_rfl) (by kernel_rfl) (by kernel_rfl) (fun _ _ _ _ h => h) rfl ⟨.int .i64 ((j : Int) + 1), fun v1 hv1 => by go_simp; rw [HWR.out], ?_⟩
        simp only [Act.put, List.setIfInBounds_toArray, List.set_cons_zero, List.set_cons_succ]
        refine anyT_val (But.pre _) 14 rfl (by kernel_rfl) (by kernel_rfl) (by kernel_rfl) (fun _ _ _ _ h => h) rfl ?_; apply Exists.intro; refine ⟨fun v1 hv1 => ?_, ?_⟩; (· (go_simp; rfl)); simp only [Act.put, List.setIfInBounds_toArray, List.set_cons_zero, List.set_cons_succ]
        clear hbd
        have hr0 : Wd.ownsRow base 36 8 (.slice none 0 0) ([] : List Ru).length (rus []) := ⟨rfl, .inl ⟨rfl, rfl⟩⟩
        obtain ⟨v1, W1, q1, q2, q3, q4⟩ := appQ Wd 41 base Wd.heap.size (.slice none 0 0) [] (.slice (some ⟨g, 0, none⟩) j cv) (l.take j) hr0 (ownU_rd (l := l.take j) (by rw [List.length_take, Nat.min_eq_left (by omega)]; exact ownU_take j (by omega) (HT.out.later ld).2.2)) (by omega) (by simp; omega)
        have b1 : But (fun x => w.heap.size ≤ x) Wd W1 := ⟨q3.os, q3.tape, q3.output, q3.size, fun k hk he => q3.block k hk (fun e => by cases e)⟩
        have l1 : Later Wd W1 := ⟨q3.os, q3.tape, q3.output, q3.size, fun k hk => q3.block k hk (fun e => by cases e)⟩
        have L1 := ld.trans l1
        have hs1 := L1.size
        refine anyT_one 7 rfl (by kernel_rfl) rfl ?_
        refine wp_app (.tmp 21) (.tmp 27) 41 rfl _ _ rfl rfl _ W1 q1 ⟨b1, ?_⟩
        simp only [Act.put, List.setIfInBounds_toArray, List.set_cons_zero, List.set_cons_succ]
        have hd1 := ownU_drop (j + 1) (by omega) (HT.out.later L1).2.2
        rw [if_neg hcap] at hd1
        obtain ⟨v2, W2, p1, p2, p3, p4⟩ := appQ W1 41 base W1.heap.size v1 ([] ++ l.take j) _ (l.drop (j + 1)) q2 hd1 (by omega) (by simp; omega)
        have f1 : ∀ x, v1.ownBlock = some x → w.heap.size ≤ x := fun x hx => by
          rcases q4 with h | h
          · rw [h] at hx; cases hx
          · rw [h] at hx; cases hx; omega
        have f2 : ∀ x, v2.ownBlock = some x → w.heap.size ≤ x := fun x hx => by
          rcases p4 with h | h
          · rw [h] at hx; exact f1 x hx
          · rw [h] at hx; cases hx; omega
        have b2 : But (fun x => w.heap.size ≤ x) W1 W2 := ⟨p3.os, p3.tape, p3.output, p3.size, fun k hk he => p3.block k hk (fun e => he (f1 k e.symm))⟩
        rw [List.nil_append, ← erase_eq] at p2
        obtain ⟨a2, c2, rfl, _, _⟩ := (ownU_rd p2).slice
        refine anyT_one 15 rfl (by kernel_rfl) rfl ?_
        refine wp_app (.tmp 28) (.tmp 35) 41 rfl _ _ rfl rfl _ W2 p1 ⟨b2, ?_⟩
        simp only [Act.put, List.setIfInBounds_toArray, List.set_cons_zero, List.set_cons_succ]
        refine anyT_one 16 rfl (by kernel_rfl) rfl ?_
        unfold Oper.wp
        go_simp
        refine ⟨But.refl _ _, ?_⟩
        refine anyT_done (by kernel_rfl) ?_
        have bz : But (fun x => w.heap.size ≤ x) w W2 := (But.of ld).trans (b1.trans b2)
        have hb0 := (bz.block b HT.out.blt (fun e => by have := HT.out.blt; omega)).trans HT.out.2.1
        have kz := block_cell hb0
        have fz := block_frozen hb0
        have P2 := hide p2
        have F2 := hide f2
        clear p2 f2 q2 p1 q1 hd1 q4 p4 f1 hr0
        go_wp2_with fail
        go_ret
        refine ⟨by rw [HD.out]; rfl, ?_⟩
        rw [HL.out, Int.toNat_natCast]
        have bs : But (fun x => x = b ∨ Value.ownBlock (.slice (some ⟨g, 0, none⟩) l.length cv) = some x) w (W2.setCell ⟨b, 0, none⟩ (.slice a2 (l.eraseIdx j).length c2)) := by
          refine ⟨bz.os, bz.tape, bz.output, Nat.le_trans bz.size (by simp), fun k hk he => ?_⟩
          exact (Below.heap_setCell W2 ⟨b, 0, none⟩ _ k (fun e => he (.inl e))).trans (bz.block k hk (fun e => by omega))
        refine ⟨.slice a2 (l.eraseIdx j).length c2, ⟨HT.out.1, heap_set1 hb0 0 _, ?_⟩, bs, .inr F2.out⟩
        obtain ⟨s1, s2 | ⟨g2, cap2, cur, e, s2, s3, s4⟩⟩ := P2.out
        · exact ⟨s1, .inl s2⟩
        · refine ⟨s1, .inr ⟨g2, cap2, cur, e, s2, hset_ne s3 (fun e2 => ?_), s4⟩⟩
          rw [e2, hb0] at s3
          simp at s3
end Go.Proofs.Ytgjemeibaghfaaa
