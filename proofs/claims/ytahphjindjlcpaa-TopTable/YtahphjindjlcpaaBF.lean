/- Package table: Put. -/
import Derived.Test.YtahphjindjlcpaaBE
namespace Go.Proofs.Ytahphjindjlcpaa
open Go.RowKit Go.Shelf
set_option maxRecDepth 100000
set_option linter.unusedVariables false
set_option linter.unusedSimpArgs false

/-- What Put answers. -/
def pute (lim cnt : Int) (ls : Nat → List Rw) (p s d a b till : Int) : Int := if mayb till = false then 2 else if kx p s d a b ls ≠ none then 10 else if lim ≤ cnt then 9 else 0
theorem TBv.but {base bt : Nat} {W V : World} {lim cnt trn c2 : Int} {vs : List Value} {ls : Nat → List Rw} (hT : TBv base W bt lim cnt trn vs ls) (hb : But (fun g => g = bt) W V) (hV : V.heap[bt]? = some (.cells (.int .i64 lim :: .int .i64 c2 :: .int .i64 trn :: vs).toArray 62 (0, 0))) : TBv base V bt lim c2 trn vs ls := by
  refine ⟨hT.1, hT.2.1, hV, fun i hi => ?_, hT.2.2.2.2⟩
  obtain ⟨h1, h2 | ⟨g, cap, cur, hv, hg, hh2, r⟩⟩ := hT.2.2.2.1 i hi
  · exact ⟨h1, .inl h2⟩
  · have hne : g ≠ bt := fun e => by subst e; have := hT.2.2.1; rw [hh2] at this; simp at this
    exact ⟨h1, .inr ⟨g, cap, cur, hv, hg, (hb.block g (Array.getElem?_eq_some_iff.1 hh2).1 hne).trans hh2, r⟩⟩

set_option maxHeartbeats 8000000 in
theorem put_any (base bt : Nat) (lim cnt trn : Int) (vs : List Value) (ls : Nat → List Rw) (p s d a b id till : Int) (w : World) (hT : TBv base w bt lim cnt trn vs ls) (hs : 0 ≤ s ∧ s ≤ 4294967295) (hd : 0 ≤ d ∧ d ≤ 4294967295) (ha : 0 ≤ a ∧ a ≤ 65535) (hb : 0 ≤ b ∧ b ≤ 65535) (hbs : base ≤ w.heap.size) (htr : 0 ≤ trn ∧ trn ≤ 1000000) (hcn : 0 ≤ cnt ∧ cnt ≤ 4096) (hlm : lim ≤ 4096) (hln : (ls (bki p s d a b)).length ≤ 5000) :
    Calls Try.prog 14 #[.pointer (some ⟨bt, 0, none⟩), .agg #[.int .u8 p, .int .u32 s, .int .u32 d, .int .u16 a, .int .u16 b], .int .i64 id, .int .i64 till] w fun e w' => e = .returned (.int .i64 (pute lim cnt ls p s d a b till)) ∧
      ((pute lim cnt ls p s d a b till ≠ 0 ∧ TBv base w' bt lim cnt trn vs ls ∧ Below w.heap.size w w') ∨ (pute lim cnt ls p s d a b till = 0 ∧ TB base w' bt lim (cnt + 1) (trn + 1) (addL ls (bki p s d a b) ⟨p, s, d, kyp p a, b, id, till, trn + 1⟩) ∧ But (fun g => g = bt ∨ (vs[bki p s d a b]?.getD undef).ownBlock = some g) w w')) := by
  have lb0 : Later w (w.alloc (.cells #[.int .u8 p, .int .u32 s, .int .u32 d, .int .u16 a, .int .u16 b] 26)) := (Below.refl _ _).alloc (Nat.le_refl _) _
  have t0 := heap_alloc_new w (.cells #[.int .u8 p, .int .u32 s, .int .u32 d, .int .u16 a, .int .u16 b] 26)
  go_enter Try.func14, Try.ntmps14
  go_wp2_with fail
  generalize w.alloc (.cells #[.int .u8 p, .int .u32 s, .int .u32 d, .int .u16 a, .int .u16 b] 26) = w0 at *
  refine (mayBe_any till w0).mono ?_
  rintro e w1 ⟨rfl, rfl⟩
  have hT1 := hT.later lb0
  cases hm : mayb till with
  | false =>
    have HQ : Hid (pute lim cnt ls p s d a b till = 2) := if_pos hm
    clear hm
    go_wp2_with fail
    go_ret
    exact ⟨by rw [HQ.out]; rfl, .inl ⟨by rw [HQ.out]; decide, hT1, lb0⟩⟩
  | true =>
    have k0 := block_cell t0
    go_wp2_with fail
    clear k0
    refine (tfind_any base bt lim cnt trn vs ls p s d a b w1 hT1 hs hd ha hb).mono ?_
    rintro e w2 ⟨hb2, ⟨hk, rfl⟩ | ⟨k, g2, cap, hk, hkl, hv, rfl⟩⟩
    · have l2 : Later w1 w2 := hb2
      have L2 := lb0.trans l2
      have hT2 := hT.later L2
      have t2 := later_keep l2 t0
      have c1 : w2.cell? ⟨bt, 1, none⟩ = some (.int .i64 cnt) := by rw [block_cell hT2.2.2.1]; rfl
      have c0 : w2.cell? ⟨bt, 0, none⟩ = some (.int .i64 lim) := by rw [block_cell hT2.2.2.1]; rfl
      have HP : Hid (pute lim cnt ls p s d a b till = if lim ≤ cnt then 9 else 0) := by show _ = _; unfold pute; rw [hm, hk]; simp
      clear hm hk
      go_upto_region 7 with fail
      refine anyR_begin (R := Later) Later.pre Later.drew 10 rfl (by kernel_rfl) (fun V1 hV1 => ?_)
      have q1 : ∀ v1, Later V1 v1 → v1.cell? ⟨bt, 1, none⟩ = some (.int .i64 cnt) := fun v1 h => (hV1.trans h).cell c1
      have q0 : ∀ v1, Later V1 v1 → v1.cell? ⟨bt, 0, none⟩ = some (.int .i64 lim) := fun v1 h => (hV1.trans h).cell c0
      clear c0 c1
      refine anyR_val Later.pre 0 rfl (by kernel_rfl) (by kernel_rfl) (by kernel_rfl) (fun _ _ _ _ h => h) rfl ?_; apply Exists.intro; refine ⟨fun w1 hw1 => ?_, ?_⟩; (· (go_simp; rfl)); simp only [Act.put, List.setIfInBounds_toArray, List.set_cons_zero, List.set_cons_succ]
      refine anyR_val Later.pre 1 rfl (by kernel_rfl) (by kernel_rfl) (by kernel_rfl) (fun _ _ _ _ h => h) rfl ?_; apply Exists.intro; refine ⟨fun w1 hw1 => ?_, ?_⟩; (· (go_simp; rfl)); simp only [Act.put, List.setIfInBounds_toArray, List.set_cons_zero, List.set_cons_succ]
      refine anyR_val Later.pre 2 rfl (by kernel_rfl) (by kernel_rfl) (by kernel_rfl) (fun _ _ _ _ h => h) rfl ?_; apply Exists.intro; refine ⟨fun w1 hw1 => ?_, ?_⟩; (· (go_simp; rfl)); simp only [Act.put, List.setIfInBounds_toArray, List.set_cons_zero, List.set_cons_succ]
      refine anyR_val Later.pre 3 rfl (by kernel_rfl) (by kernel_rfl) (by kernel_rfl) (fun _ _ _ _ h => h) rfl ?_; apply Exists.intro; refine ⟨fun w1 hw1 => ?_, ?_⟩; (· (go_simp; rfl)); simp only [Act.put, List.setIfInBounds_toArray, List.set_cons_zero, List.set_cons_succ]
      refine anyR_val Later.pre 4 rfl (by kernel_rfl) (by kernel_rfl) (by kernel_rfl) (fun _ _ _ _ h => h) rfl ?_; apply Exists.intro; refine ⟨fun w1 hw1 => ?_, ?_⟩; (· (go_simp; rfl)); simp only [Act.put, List.setIfInBounds_toArray, List.set_cons_zero, List.set_cons_succ]
      refine anyR_val Later.pre 5 rfl (by kernel_rfl) (by kernel_rfl) (by kernel_rfl) (fun _ _ _ _ h => h) rfl ?_; apply Exists.intro; refine ⟨fun w1 hw1 => ?_, ?_⟩; (· (go_simp; rfl)); simp only [Act.put, List.setIfInBounds_toArray, List.set_cons_zero, List.set_cons_succ]
      refine anyR_val Later.pre 6 rfl (by kernel_rfl) (by kernel_rfl) (by kernel_rfl) (fun _ _ _ _ h => h) rfl ?_; apply Exists.intro; refine ⟨fun w1 hw1 => ?_, ?_⟩; (· (go_simp; rfl)); simp only [Act.put, List.setIfInBounds_toArray, List.set_cons_zero, List.set_cons_succ]
      refine anyR_val Later.pre 7 rfl (by kernel_rfl) (by kernel_rfl) (by kernel_rfl) (fun _ _ _ _ h => h) rfl ?_; apply Exists.intro; refine ⟨fun w1 hw1 => ?_, ?_⟩; (· (go_simp; rfl)); simp only [Act.put, List.setIfInBounds_toArray, List.set_cons_zero, List.set_cons_succ]
      refine anyR_val Later.pre 8 rfl (by kernel_rfl) (by kernel_rfl) (by kernel_rfl) (fun _ _ _ _ h => h) rfl ?_; apply Exists.intro; refine ⟨fun w1 hw1 => ?_, ?_⟩; (· (go_simp; rfl)); simp only [Act.put, List.setIfInBounds_toArray, List.set_cons_zero, List.set_cons_succ]
      refine anyR_val Later.pre 9 rfl (by kernel_rfl) (by kernel_rfl) (by kernel_rfl) (fun _ _ _ _ h => h) rfl ?_; apply Exists.intro; refine ⟨fun w1 hw1 => ?_, ?_⟩; (· (go_simp; rfl)); simp only [Act.put, List.setIfInBounds_toArray, List.set_cons_zero, List.set_cons_succ]
      refine anyR_done (by kernel_rfl) (fun V2 hV2 => ?_)
      clear q0 q1
      have L3 := L2.trans (hV1.trans hV2)
      have t3 := later_keep (hV1.trans hV2) t2
      have hT3 := hT.later L3
      by_cases hful : lim ≤ cnt
      · have HQ : Hid (pute lim cnt ls p s d a b till = 9) := HP.out.trans (if_pos hful)
        go_wp2_with fail
        go_ret
        exact ⟨by rw [HQ.out]; rfl, .inl ⟨by rw [HQ.out]; decide, hT3, L3⟩⟩
      · have HQ : Hid (pute lim cnt ls p s d a b till = 0) := HP.out.trans (if_neg hful)
        have hnb : w.heap.size ≠ bt := fun e => by have := (Array.getElem?_eq_some_iff.1 hT.2.2.1).1; omega
        have hnv : (vs[bki p s d a b]?.getD undef).ownBlock ≠ some w.heap.size := fun e => by have := ((hT.2.2.2.1 _ (bki_lt p s d a b)).lt _ e).2; omega
        go_upto_region 9 with fail
        refine anyT_begin (R := But (fun g => g = bt ∨ (vs[bki p s d a b]?.getD undef).ownBlock = some g)) 13 rfl (by kernel_rfl) ?_
        have ld : Later V2 V2.drew := Later.drew V2
        have td := later_keep ld t3
        have LD := L3.trans ld
        generalize V2.drew = Wd at *
        have hq : ∀ v1, But (fun g => g = bt ∨ (vs[bki p s d a b]?.getD undef).ownBlock = some g) Wd v1 → ∀ j, v1.cell? ⟨w.heap.size, j, none⟩ = #[Value.int .u8 p, .int .u32 s, .int .u32 d, .int .u16 a, .int .u16 b][j]? := fun v1 hv => block_cell ((hv.block w.heap.size (Array.getElem?_eq_some_iff.1 td).1 (fun hE => hE.elim hnb hnv)).trans td)
        refine anyT_val (But.pre _) 0 rfl (by kernel_rfl) (by kernel_rfl) (by kernel_rfl) (fun _ _ _ _ h => h) rfl ?_; apply Exists.intro; refine ⟨fun v1 hv1 => ?_, ?_⟩; (· (go_simp; rfl)); simp only [Act.put, List.setIfInBounds_toArray, List.set_cons_zero, List.set_cons_succ]
        refine anyT_val (But.pre _) 1 rfl (by kernel_rfl) (by kernel_rfl) (by kernel_rfl) (fun _ _ _ _ h => h) rfl ?_; apply Exists.intro; refine ⟨fun v1 hv1 => ?_, ?_⟩; (· (go_simp; rfl)); simp only [Act.put, List.setIfInBounds_toArray, List.set_cons_zero, List.set_cons_succ]
        refine anyT_val (But.pre _) 2 rfl (by kernel_rfl) (by kernel_rfl) (by kernel_rfl) (fun _ _ _ _ h => h) rfl ?_; apply Exists.intro; refine ⟨fun v1 hv1 => ?_, ?_⟩; (· (go_simp; rfl)); simp only [Act.put, List.setIfInBounds_toArray, List.set_cons_zero, List.set_cons_succ]
        refine anyT_val (But.pre _) 3 rfl (by kernel_rfl) (by kernel_rfl) (by kernel_rfl) (fun _ _ _ _ h => h) rfl ?_; apply Exists.intro; refine ⟨fun v1 hv1 => ?_, ?_⟩; (· (go_simp; rfl)); simp only [Act.put, List.setIfInBounds_toArray, List.set_cons_zero, List.set_cons_succ]
        refine anyT_val (But.pre _) 5 rfl (by kernel_rfl) (by kernel_rfl) (by kernel_rfl) (fun _ _ _ _ h => h) rfl ?_; apply Exists.intro; refine ⟨fun v1 hv1 => ?_, ?_⟩; (· (go_simp; rfl)); simp only [Act.put, List.setIfInBounds_toArray, List.set_cons_zero, List.set_cons_succ]
        refine anyT_val (But.pre _) 7 rfl (by kernel_rfl) (by kernel_rfl) (by kernel_rfl) (fun _ _ _ _ h => h) rfl ?_; apply Exists.intro; refine ⟨fun v1 hv1 => ?_, ?_⟩; (· (go_simp; rfl)); simp only [Act.put, List.setIfInBounds_toArray, List.set_cons_zero, List.set_cons_succ]
        refine anyT_val (But.pre _) 8 rfl (by kernel_rfl) (by kernel_rfl) (by kernel_rfl) (fun _ _ _ _ h => h) rfl ?_; apply Exists.intro; refine ⟨fun v1 hv1 => ?_, ?_⟩; (· (go_simp; rfl)); simp only [Act.put, List.setIfInBounds_toArray, List.set_cons_zero, List.set_cons_succ]
        refine anyT_val (But.pre _) 9 rfl (by kernel_rfl) (by kernel_rfl) (by kernel_rfl) (fun _ _ _ _ h => h) rfl ?_; apply Exists.intro; refine ⟨fun v1 hv1 => ?_, ?_⟩; (· (go_simp; rfl)); simp only [Act.put, List.setIfInBounds_toArray, List.set_cons_zero, List.set_cons_succ]
        clear hq
        refine anyT_one 4 rfl (by kernel_rfl) rfl ?_
        refine wp_enter 34 #[.agg #[.int .u8 p, .int .u32 s, .int .u32 d, .int .u16 a, .int .u16 b]] (by go_simp) ?_
        refine (hash_any p s d a b Wd hs hd ha hb).mono ?_
        rintro e W1 ⟨rfl, hb1⟩
        have k1 : Later Wd W1 := hb1
        refine ⟨But.of k1, ?_⟩
        simp only [Act.put, List.setIfInBounds_toArray, List.set_cons_zero, List.set_cons_succ]
        refine anyT_one 6 rfl (by kernel_rfl) rfl ?_
        refine wp_enter 35 #[.agg #[.int .u8 p, .int .u32 s, .int .u32 d, .int .u16 a, .int .u16 b]] (by go_simp) ?_
        refine (key_any p s d a b W1).mono ?_
        rintro e W2 ⟨rfl, hb2'⟩
        have k2 : Later W1 W2 := hb2'
        refine ⟨But.of k2, ?_⟩
        simp only [Act.put, List.setIfInBounds_toArray, List.set_cons_zero, List.set_cons_succ]
        have LW2 := LD.trans (k1.trans k2)
        refine anyT_one 10 rfl (by kernel_rfl) rfl ?_
        refine wp_enter 36 #[.pointer (some ⟨bt, 0, none⟩)] (by go_simp) ?_
        refine (turn_any base bt lim cnt trn vs ls W2 (hT.later LW2) htr).mono ?_
        rintro e W3 ⟨rfl, hb3, hT4⟩
        have hb3' : But (fun g => g = bt ∨ (vs[bki p s d a b]?.getD undef).ownBlock = some g) W2 W3 := ⟨hb3.os, hb3.tape, hb3.output, hb3.size, fun k hk he => hb3.block k hk (fun e => he (.inl e))⟩
        refine ⟨hb3', ?_⟩
        simp only [Act.put, List.setIfInBounds_toArray, List.set_cons_zero, List.set_cons_succ]
        refine anyT_val (But.pre _) 11 rfl (by kernel_rfl) (by kernel_rfl) (by kernel_rfl) (fun _ _ _ _ h => h) rfl ?_; apply Exists.intro; refine ⟨fun v1 hv1 => ?_, ?_⟩; (· (go_simp; rfl)); simp only [Act.put, List.setIfInBounds_toArray, List.set_cons_zero, List.set_cons_succ]
        refine anyT_one 12 rfl (by kernel_rfl) rfl ?_
        refine wp_enter 33 #[.pointer (some ⟨bt, 3, none⟩), .int .u32 (hsh (tb p s d (kyp p a) b)), .agg #[.int .u8 p, .int .u32 s, .int .u32 d, .int .u16 (kyp p a), .int .u16 b, .int .i64 id, .int .i64 till, .int .i64 (trn + 1)]] (by go_simp) ?_
        refine (add_any base bt lim cnt (trn + 1) vs ls (hsh (tb p s d (kyp p a) b)) (bki p s d a b) p s d (kyp p a) b id till (trn + 1) W3 hT4 (hsh_tb _ _ _ _ _) rfl hln (Nat.le_trans (Nat.le_trans hbs LW2.size) hb3.size)).mono ?_
        rintro e W4 ⟨rfl, ⟨vs4, hT5⟩, hb4⟩
        refine ⟨hb4, ?_⟩
        simp only [Act.put, List.setIfInBounds_toArray, List.set_cons_zero, List.set_cons_succ]
        refine anyT_done (by kernel_rfl) ?_
        have hbt : But (fun g => g = bt ∨ (vs[bki p s d a b]?.getD undef).ownBlock = some g) w W4 := (But.of LW2).trans (hb3'.trans hb4)
        have hh5 := hT5.2.2.1
        have c1 : W4.cell? ⟨bt, 1, none⟩ = some (.int .i64 cnt) := by rw [block_cell hh5]; rfl
        have f1 := block_frozen hh5 1
        have hst := heap_set1 hh5 1 (.int .i64 (cnt + 1))
        have hb5 : But (fun g => g = bt) W4 (W4.setCell ⟨bt, 1, none⟩ (.int .i64 (cnt + 1))) := (But.refl (fun g => g = bt) _).setCell (p := ⟨bt, 1, none⟩) rfl _
        have hb5' : But (fun g => g = bt ∨ (vs[bki p s d a b]?.getD undef).ownBlock = some g) W4 (W4.setCell ⟨bt, 1, none⟩ (.int .i64 (cnt + 1))) := ⟨hb5.os, hb5.tape, hb5.output, hb5.size, fun k hk he => hb5.block k hk (fun e => he (.inl e))⟩
        have hT6 := hT5.but (c2 := cnt + 1) hb5 (by simpa using hst)
        have HT6 := hide hT6
        have HB6 := hide (hbt.trans hb5')
        clear hT6 hb5 hb5' hst hh5 hT5
        go_wp2_with fail
        go_ret
        exact ⟨by rw [HQ.out]; rfl, .inr ⟨HQ.out, ⟨_, HT6.out⟩, HB6.out⟩⟩
    · have l2 : Later w1 w2 := hb2
      have HQ : Hid (pute lim cnt ls p s d a b till = 10) := by show _ = _; unfold pute; rw [hm, hk]; simp
      have L2 := lb0.trans l2
      have hT2 := hT.later L2
      clear hm hk hv
      go_wp2_with fail
      go_ret
      exact ⟨by rw [HQ.out]; rfl, .inl ⟨by rw [HQ.out]; decide, hT2, L2⟩⟩
end Go.Proofs.Ytahphjindjlcpaa
