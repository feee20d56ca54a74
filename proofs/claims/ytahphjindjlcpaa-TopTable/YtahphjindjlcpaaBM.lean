/- Package table: the law's live. -/
import Derived.Test.YtahphjindjlcpaaBL
namespace Go.Proofs.Ytahphjindjlcpaa
open Go.RowKit Go.Shelf
set_option maxRecDepth 100000
set_option linter.unusedVariables false
set_option linter.unusedSimpArgs false

theorem TBv.apart {base bt : Nat} {W : World} {lim cnt trn : Int} {vs : List Value} {ls : Nat → List Rw} (hT : TBv base W bt lim cnt trn vs ls) {A0 : Nat} {c : Array Value} {f : Nat × Nat} (h : W.heap[A0]? = some (.cells c 26 f)) (i : Nat) (hi : i < 256) : ¬ (A0 = bt ∨ (vs[i]?.getD undef).ownBlock = some A0) := by
  rintro (rfl | e)
  · rw [hT.2.2.1] at h
    cases h
  · rcases (hT.2.2.2.1 i hi).2 with ⟨e2, _⟩ | ⟨g, cp, cur, e2, hg, hgh, _⟩
    · rw [e2] at e; cases e
    · rw [e2] at e
      have e3 : g = A0 := by simpa [Value.ownBlock] using e
      rw [e3, h] at hgh
      cases hgh

def lv1 : Rw := ⟨0, 1, 0, kyp 0 0, 0, 1, 5, 0 + 1⟩
def lv2 : Rw := ⟨0, 2, 0, kyp 0 0, 0, 2, 3, 0 + 1 + 1⟩
def lvl1 : Nat → List Rw := addL (fun _ => []) (bki 0 1 0 0 0) lv1
def lvl2 : Nat → List Rw := addL lvl1 (bki 0 2 0 0 0) lv2
theorem lv_pute1 : pute 4 0 (fun _ => []) 0 1 0 0 0 5 = 0 := by decide +kernel
theorem lv_pute2 : pute 4 (0 + 1) lvl1 0 2 0 0 0 3 = 0 := by decide +kernel
theorem lv_due : duR 4 (allR lvl2) = [lv2] := by kernel_rfl
theorem lv_len : (allR lvl2).length = 2 := by kernel_rfl
theorem lv_short : (lvl1 (bki 0 2 0 0 0)).length ≤ 5000 := by decide +kernel

set_option maxHeartbeats 8000000 in
theorem live6_any (w : World) : Calls Try.prog 8 #[] w fun e w' => e = .returned (.bool true) ∧ Below w.heap.size w w' := by
  go_enter Try.func8, Try.ntmps8
  go_wp2_with fail
  refine (new_yes 4 w (by omega) (by omega)).mono ?_
  rintro e w1 ⟨rfl, hb1, hT1⟩
  have l2 : Later w1 ((w1.alloc (.cells #[.int .u8 0, .int .u32 1, .int .u32 0, .int .u16 0, .int .u16 0] 26)).alloc (.cells #[.int .u8 0, .int .u32 2, .int .u32 0, .int .u16 0, .int .u16 0] 26)) := ((Below.refl _ _).alloc (Nat.le_refl _) _).alloc (by simp) _
  have tA := (Below.heap_alloc (w1.alloc (.cells #[.int .u8 0, .int .u32 1, .int .u32 0, .int .u16 0, .int .u16 0] 26)) (.cells #[.int .u8 0, .int .u32 2, .int .u32 0, .int .u16 0, .int .u16 0] 26) w1.heap.size (by simp)).trans (heap_alloc_new w1 _)
  have tB := heap_alloc_new (w1.alloc (.cells #[.int .u8 0, .int .u32 1, .int .u32 0, .int .u16 0, .int .u16 0] 26)) (.cells #[.int .u8 0, .int .u32 2, .int .u32 0, .int .u16 0, .int .u16 0] 26)
  rw [World.size_alloc] at tB
  have hT2 := hT1.later l2
  have hb2 := hb1.trans (l2.mono hb1.size)
  go_upto_region 3 with fail
  generalize (w1.alloc (.cells #[.int .u8 0, .int .u32 1, .int .u32 0, .int .u16 0, .int .u16 0] 26)).alloc (.cells #[.int .u8 0, .int .u32 2, .int .u32 0, .int .u16 0, .int .u16 0] 26) = w2 at *
  refine anyT_begin (R := But (fun g => g ≠ w1.heap.size ∧ g ≠ w1.heap.size + 1)) 8 rfl (by kernel_rfl) ?_
  have ld : Later w2 w2.drew := Later.drew w2
  have tA3 := later_keep ld tA
  have tB3 := later_keep ld tB
  have hT3 := hT2.later ld
  have hb3 := hb2.trans (ld.mono hb2.size)
  generalize w2.drew = Wd at *
  clear tA tB hT1 hT2
  have qA : ∀ v1, But (fun g => g ≠ w1.heap.size ∧ g ≠ w1.heap.size + 1) Wd v1 → ∀ j, v1.cell? ⟨w1.heap.size, j, none⟩ = #[Value.int .u8 0, .int .u32 1, .int .u32 0, .int .u16 0, .int .u16 0][j]? := fun v1 hv => block_cell ((hv.block w1.heap.size (Array.getElem?_eq_some_iff.1 tA3).1 (fun hE => hE.1 rfl)).trans tA3)
  have qB : ∀ v1, But (fun g => g ≠ w1.heap.size ∧ g ≠ w1.heap.size + 1) Wd v1 → ∀ j, v1.cell? ⟨w1.heap.size + 1, j, none⟩ = #[Value.int .u8 0, .int .u32 2, .int .u32 0, .int .u16 0, .int .u16 0][j]? := fun v1 hv => block_cell ((hv.block (w1.heap.size + 1) (Array.getElem?_eq_some_iff.1 tB3).1 (fun hE => hE.2 rfl)).trans tB3)
  refine anyT_val (But.pre _) 0 rfl (by kernel_rfl) (by kernel_rfl) (by kernel_rfl) (fun _ _ _ _ h => h) rfl ?_; apply Exists.intro; refine ⟨fun v1 hv1 => ?_, ?_⟩; (· (go_simp; rfl)); simp only [Act.put, List.setIfInBounds_toArray, List.set_cons_zero, List.set_cons_succ]
  refine anyT_val (But.pre _) 1 rfl (by kernel_rfl) (by kernel_rfl) (by kernel_rfl) (fun _ _ _ _ h => h) rfl ?_; apply Exists.intro; refine ⟨fun v1 hv1 => ?_, ?_⟩; (· (go_simp; rfl)); simp only [Act.put, List.setIfInBounds_toArray, List.set_cons_zero, List.set_cons_succ]
  refine anyT_val (But.pre _) 3 rfl (by kernel_rfl) (by kernel_rfl) (by kernel_rfl) (fun _ _ _ _ h => h) rfl ?_; apply Exists.intro; refine ⟨fun v1 hv1 => ?_, ?_⟩; (· (go_simp; rfl)); simp only [Act.put, List.setIfInBounds_toArray, List.set_cons_zero, List.set_cons_succ]
  refine anyT_val (But.pre _) 4 rfl (by kernel_rfl) (by kernel_rfl) (by kernel_rfl) (fun _ _ _ _ h => h) rfl ?_; apply Exists.intro; refine ⟨fun v1 hv1 => ?_, ?_⟩; (· (go_simp; rfl)); simp only [Act.put, List.setIfInBounds_toArray, List.set_cons_zero, List.set_cons_succ]
  clear qA qB
  obtain ⟨vs3, hT3⟩ := hT3
  refine anyT_one 2 rfl (by kernel_rfl) rfl ?_
  refine wp_enter 14 #[.pointer (some ⟨w.heap.size, 0, none⟩), .agg #[Value.int .u8 0, .int .u32 1, .int .u32 0, .int .u16 0, .int .u16 0], .int .i64 1, .int .i64 5] (by go_simp) ?_
  refine (put_any w.heap.size w.heap.size 4 0 0 vs3 (fun _ => []) 0 1 0 0 0 1 5 Wd hT3 (by omega) (by omega) (by omega) (by omega) hb3.size (by omega) (by omega) (by omega) (by simp)).mono ?_
  rw [lv_pute1]
  rintro e W1 ⟨rfl, ⟨hx, _⟩ | ⟨_, hT4, hb4⟩⟩
  · exact absurd rfl hx
  have hE4 : But (fun g => g ≠ w1.heap.size ∧ g ≠ w1.heap.size + 1) Wd W1 := ⟨hb4.os, hb4.tape, hb4.output, hb4.size, fun k hk he => hb4.block k hk (fun e => he ⟨fun h => hT3.apart tA3 _ (bki_lt 0 1 0 0 0) (h ▸ e), fun h => hT3.apart tB3 _ (bki_lt 0 1 0 0 0) (h ▸ e)⟩)⟩
  refine ⟨hE4, ?_⟩
  simp only [Act.put, List.setIfInBounds_toArray, List.set_cons_zero, List.set_cons_succ]
  have tA4 := (hE4.block _ (Array.getElem?_eq_some_iff.1 tA3).1 (fun hE => hE.1 rfl)).trans tA3
  have tB4 := (hE4.block _ (Array.getElem?_eq_some_iff.1 tB3).1 (fun hE => hE.2 rfl)).trans tB3
  obtain ⟨vs4, hT4⟩ := (show TB w.heap.size W1 w.heap.size 4 (0 + 1) (0 + 1) lvl1 from hT4)
  have hs4 := Nat.le_trans hb3.size hE4.size
  refine anyT_one 5 rfl (by kernel_rfl) rfl ?_
  refine wp_enter 14 #[.pointer (some ⟨w.heap.size, 0, none⟩), .agg #[Value.int .u8 0, .int .u32 2, .int .u32 0, .int .u16 0, .int .u16 0], .int .i64 2, .int .i64 3] (by go_simp) ?_
  refine (put_any w.heap.size w.heap.size 4 (0 + 1) (0 + 1) vs4 lvl1 0 2 0 0 0 2 3 W1 hT4 (by omega) (by omega) (by omega) (by omega) hs4 (by omega) (by omega) (by omega) lv_short).mono ?_
  rw [lv_pute2]
  rintro e W2 ⟨rfl, ⟨hx, _⟩ | ⟨_, hT5, hb5⟩⟩
  · exact absurd rfl hx
  have hE5 : But (fun g => g ≠ w1.heap.size ∧ g ≠ w1.heap.size + 1) W1 W2 := ⟨hb5.os, hb5.tape, hb5.output, hb5.size, fun k hk he => hb5.block k hk (fun e => he ⟨fun h => hT4.apart tA4 _ (bki_lt 0 2 0 0 0) (h ▸ e), fun h => hT4.apart tB4 _ (bki_lt 0 2 0 0 0) (h ▸ e)⟩)⟩
  refine ⟨hE5, ?_⟩
  simp only [Act.put, List.setIfInBounds_toArray, List.set_cons_zero, List.set_cons_succ]
  have tB5 := (hE5.block _ (Array.getElem?_eq_some_iff.1 tB4).1 (fun hE => hE.2 rfl)).trans tB4
  refine anyT_val (But.pre _) 6 rfl (by kernel_rfl) (by kernel_rfl) (by kernel_rfl) (fun _ _ _ _ h => h) rfl ?_; apply Exists.intro; refine ⟨fun v1 hv1 => ?_, ?_⟩; (· (go_simp; rfl)); simp only [Act.put, List.setIfInBounds_toArray, List.set_cons_zero, List.set_cons_succ]
  refine anyT_val (But.pre _) 7 rfl (by kernel_rfl) (by kernel_rfl) (by kernel_rfl) (fun _ _ _ _ h => h) rfl ?_; apply Exists.intro; refine ⟨fun v1 hv1 => ?_, ?_⟩; (· (go_simp; rfl)); simp only [Act.put, List.setIfInBounds_toArray, List.set_cons_zero, List.set_cons_succ]
  refine anyT_done (by kernel_rfl) ?_
  have hT6 : TB w.heap.size W2 w.heap.size 4 (0 + 1 + 1) (0 + 1 + 1) lvl2 := hT5
  have hw4 : Below w.heap.size Wd W1 := hb4.below hb3.size (fun k h e => by
    rcases e with e | e
    · omega
    · have := ((hT3.2.2.2.1 _ (bki_lt 0 1 0 0 0)).lt _ e).1; omega)
  have hw5 : Below w.heap.size W1 W2 := hb5.below hs4 (fun k h e => by
    rcases e with e | e
    · omega
    · have := ((hT4.2.2.2.1 _ (bki_lt 0 2 0 0 0)).lt _ e).1; omega)
  have hwW := hb3.trans (hw4.trans hw5)
  clear hw4 hw5 hb4 hb5 hE4 hE5 hT4 hT5 hT3 tA3 tA4 tB3 tB4 hb3 hb2 hb1 l2 ld hs4
  go_wp2_with fail
  refine (due_any w.heap.size w.heap.size 4 (0 + 1 + 1) (0 + 1 + 1) 4 lvl2 [lv2] W2 hT6 (by rw [lv_due]; exact sorts_one _ (by simp)) (by rw [lv_len]; omega)).mono ?_
  rintro e W3 ⟨hb7, g, rfl, hgs, hg⟩
  have l7 : Later W2 W3 := hb7
  have tB7 := later_keep l7 tB5
  have hT7 := hT6.later l7
  have hg' : W3.heap[g]? = some (.cells #[Value.int .u8 0, .int .u32 2, .int .u32 0, .int .u16 0, .int .u16 0] 26 (0, 0)) := hg
  have hw7 := hwW.trans (l7.mono hwW.size)
  clear hg hb7
  go_upto_region 5 with fail
  refine anyR_begin (R := Later) Later.pre Later.drew 24 rfl (by kernel_rfl) (fun V1 hV1 => ?_)
  have qB : ∀ v1, Later V1 v1 → ∀ j, v1.cell? ⟨w1.heap.size + 1, j, none⟩ = #[Value.int .u8 0, .int .u32 2, .int .u32 0, .int .u16 0, .int .u16 0][j]? := fun v1 h => block_cell (later_keep (hV1.trans h) tB7)
  have qG : ∀ v1, Later V1 v1 → ∀ j, v1.cell? ⟨g, j, none⟩ = #[Value.int .u8 0, .int .u32 2, .int .u32 0, .int .u16 0, .int .u16 0][j]? := fun v1 h => block_cell (later_keep (hV1.trans h) hg')
  refine anyR_val Later.pre 0 rfl (by kernel_rfl) (by kernel_rfl) (by kernel_rfl) (fun _ _ _ _ h => h) rfl ?_; apply Exists.intro; refine ⟨fun w1 hw1 => ?_, ?_⟩; (· (go_simp; rfl)); simp only [Act.put, List.setIfInBounds_toArray, List.set_cons_zero, List.set_cons_succ]
  refine anyR_val Later.pre 1 rfl (by kernel_rfl) (by kernel_rfl) (by kernel_rfl) (fun _ _ _ _ h => h) rfl ?_; apply Exists.intro; refine ⟨fun w1 hw1 => ?_, ?_⟩; (· (go_simp; rfl)); simp only [Act.put, List.setIfInBounds_toArray, List.set_cons_zero, List.set_cons_succ]
  refine anyR_val Later.pre 2 rfl (by kernel_rfl) (by kernel_rfl) (by kernel_rfl) (fun _ _ _ _ h => h) rfl ?_; apply Exists.intro; refine ⟨fun w1 hw1 => ?_, ?_⟩; (· (go_simp; rfl)); simp only [Act.put, List.setIfInBounds_toArray, List.set_cons_zero, List.set_cons_succ]
  refine anyR_valG Later.pre 3 rfl (by kernel_rfl) (by kernel_rfl) (by kernel_rfl) (fun _ _ _ _ h => h) (by rfl) ?_; apply Exists.intro; refine ⟨fun w1 hw1 => ?_, ?_⟩; (· (go_simp; rfl)); simp only [Act.put, List.setIfInBounds_toArray, List.set_cons_zero, List.set_cons_succ]
  refine anyR_valG Later.pre 4 rfl (by kernel_rfl) (by kernel_rfl) (by kernel_rfl) (fun _ _ _ _ h => h) (by rfl) ?_; apply Exists.intro; refine ⟨fun w1 hw1 => ?_, ?_⟩; (· (go_simp; rfl)); simp only [Act.put, List.setIfInBounds_toArray, List.set_cons_zero, List.set_cons_succ]
  refine anyR_val Later.pre 5 rfl (by kernel_rfl) (by kernel_rfl) (by kernel_rfl) (fun _ _ _ _ h => h) rfl ?_; apply Exists.intro; refine ⟨fun w1 hw1 => ?_, ?_⟩; (· (go_simp; rfl)); simp only [Act.put, List.setIfInBounds_toArray, List.set_cons_zero, List.set_cons_succ]
  refine anyR_val Later.pre 6 rfl (by kernel_rfl) (by kernel_rfl) (by kernel_rfl) (fun _ _ _ _ h => h) rfl ?_; apply Exists.intro; refine ⟨fun w1 hw1 => ?_, ?_⟩; (· (go_simp; rfl)); simp only [Act.put, List.setIfInBounds_toArray, List.set_cons_zero, List.set_cons_succ]
  refine anyR_valG Later.pre 7 rfl (by kernel_rfl) (by kernel_rfl) (by kernel_rfl) (fun _ _ _ _ h => h) (by rfl) ?_; apply Exists.intro; refine ⟨fun w1 hw1 => ?_, ?_⟩; (· (go_simp; rfl)); simp only [Act.put, List.setIfInBounds_toArray, List.set_cons_zero, List.set_cons_succ]
  refine anyR_valG Later.pre 8 rfl (by kernel_rfl) (by kernel_rfl) (by kernel_rfl) (fun _ _ _ _ h => h) (by rfl) ?_; apply Exists.intro; refine ⟨fun w1 hw1 => ?_, ?_⟩; (· (go_simp; rfl)); simp only [Act.put, List.setIfInBounds_toArray, List.set_cons_zero, List.set_cons_succ]
  refine anyR_valG Later.pre 9 rfl (by kernel_rfl) (by kernel_rfl) (by kernel_rfl) (fun _ _ _ _ h => h) (by rfl) ?_; apply Exists.intro; refine ⟨fun w1 hw1 => ?_, ?_⟩; (· (go_simp; rfl)); simp only [Act.put, List.setIfInBounds_toArray, List.set_cons_zero, List.set_cons_succ]
  refine anyR_val Later.pre 10 rfl (by kernel_rfl) (by kernel_rfl) (by kernel_rfl) (fun _ _ _ _ h => h) rfl ?_; apply Exists.intro; refine ⟨fun w1 hw1 => ?_, ?_⟩; (· (go_simp; rfl)); simp only [Act.put, List.setIfInBounds_toArray, List.set_cons_zero, List.set_cons_succ]
  refine anyR_val Later.pre 11 rfl (by kernel_rfl) (by kernel_rfl) (by kernel_rfl) (fun _ _ _ _ h => h) rfl ?_; apply Exists.intro; refine ⟨fun w1 hw1 => ?_, ?_⟩; (· (go_simp; rfl)); simp only [Act.put, List.setIfInBounds_toArray, List.set_cons_zero, List.set_cons_succ]
  refine anyR_valG Later.pre 12 rfl (by kernel_rfl) (by kernel_rfl) (by kernel_rfl) (fun _ _ _ _ h => h) (by rfl) ?_; apply Exists.intro; refine ⟨fun w1 hw1 => ?_, ?_⟩; (· (go_simp; rfl)); simp only [Act.put, List.setIfInBounds_toArray, List.set_cons_zero, List.set_cons_succ]
  refine anyR_valG Later.pre 13 rfl (by kernel_rfl) (by kernel_rfl) (by kernel_rfl) (fun _ _ _ _ h => h) (by rfl) ?_; apply Exists.intro; refine ⟨fun w1 hw1 => ?_, ?_⟩; (· (go_simp; rfl)); simp only [Act.put, List.setIfInBounds_toArray, List.set_cons_zero, List.set_cons_succ]
  refine anyR_valG Later.pre 14 rfl (by kernel_rfl) (by kernel_rfl) (by kernel_rfl) (fun _ _ _ _ h => h) (by rfl) ?_; apply Exists.intro; refine ⟨fun w1 hw1 => ?_, ?_⟩; (· (go_simp; rfl)); simp only [Act.put, List.setIfInBounds_toArray, List.set_cons_zero, List.set_cons_succ]
  refine anyR_valG Later.pre 15 rfl (by kernel_rfl) (by kernel_rfl) (by kernel_rfl) (fun _ _ _ _ h => h) (by rfl) ?_; apply Exists.intro; refine ⟨fun w1 hw1 => ?_, ?_⟩; (· (go_simp; rfl)); simp only [Act.put, List.setIfInBounds_toArray, List.set_cons_zero, List.set_cons_succ]
  refine anyR_valG Later.pre 16 rfl (by kernel_rfl) (by kernel_rfl) (by kernel_rfl) (fun _ _ _ _ h => h) (by rfl) ?_; apply Exists.intro; refine ⟨fun w1 hw1 => ?_, ?_⟩; (· (go_simp; rfl)); simp only [Act.put, List.setIfInBounds_toArray, List.set_cons_zero, List.set_cons_succ]
  refine anyR_val Later.pre 17 rfl (by kernel_rfl) (by kernel_rfl) (by kernel_rfl) (fun _ _ _ _ h => h) rfl ?_; apply Exists.intro; refine ⟨fun w1 hw1 => ?_, ?_⟩; (· (go_simp; rfl)); simp only [Act.put, List.setIfInBounds_toArray, List.set_cons_zero, List.set_cons_succ]
  refine anyR_val Later.pre 18 rfl (by kernel_rfl) (by kernel_rfl) (by kernel_rfl) (fun _ _ _ _ h => h) rfl ?_; apply Exists.intro; refine ⟨fun w1 hw1 => ?_, ?_⟩; (· (go_simp; rfl)); simp only [Act.put, List.setIfInBounds_toArray, List.set_cons_zero, List.set_cons_succ]
  refine anyR_valG Later.pre 19 rfl (by kernel_rfl) (by kernel_rfl) (by kernel_rfl) (fun _ _ _ _ h => h) (by rfl) ?_; apply Exists.intro; refine ⟨fun w1 hw1 => ?_, ?_⟩; (· (go_simp; rfl)); simp only [Act.put, List.setIfInBounds_toArray, List.set_cons_zero, List.set_cons_succ]
  clear qB qG
  refine anyR_takeG Later.pre 20 (.int .i64 (0 + 1 + 1)) rfl (by kernel_rfl) (by kernel_rfl) (by kernel_rfl) (fun _ _ _ h => h) (by rfl) (fun w9 hw9 => goes_call 15 #[.pointer (some ⟨w.heap.size, 0, none⟩)] (by go_simp) ((len_any w.heap.size w.heap.size 4 (0 + 1 + 1) (0 + 1 + 1) lvl2 w9 (hT7.later (hV1.trans hw9))).mono fun e w2 h => h)) ?_
  simp only [Act.put, List.setIfInBounds_toArray, List.set_cons_zero, List.set_cons_succ]
  refine anyR_valG Later.pre 21 rfl (by kernel_rfl) (by kernel_rfl) (by kernel_rfl) (fun _ _ _ _ h => h) (by rfl) ?_; apply Exists.intro; refine ⟨fun w1 hw1 => ?_, ?_⟩; (· (go_simp; rfl)); simp only [Act.put, List.setIfInBounds_toArray, List.set_cons_zero, List.set_cons_succ]
  refine anyR_val Later.pre 22 rfl (by kernel_rfl) (by kernel_rfl) (by kernel_rfl) (fun _ _ _ _ h => h) rfl ?_; apply Exists.intro; refine ⟨fun w1 hw1 => ?_, ?_⟩; (· (go_simp; rfl)); simp only [Act.put, List.setIfInBounds_toArray, List.set_cons_zero, List.set_cons_succ]
  refine anyR_val Later.pre 23 rfl (by kernel_rfl) (by kernel_rfl) (by kernel_rfl) (fun _ _ _ _ h => h) rfl ?_; apply Exists.intro; refine ⟨fun w1 hw1 => ?_, ?_⟩; (· (go_simp; rfl)); simp only [Act.put, List.setIfInBounds_toArray, List.set_cons_zero, List.set_cons_succ]
  refine anyR_done (by kernel_rfl) (fun V2 hV2 => ?_)
  have hw9 := hw7.trans ((hV1.trans hV2).mono hw7.size)
  go_wp2_with fail
  go_ret
  exact ⟨rfl, hw9⟩
end Go.Proofs.Ytahphjindjlcpaa
