/- The walk of TopExpected, whole. -/
import Derived.Test.YtbimdhapkbdmjabEG
import Derived.Test.YtbimdhapkbdmjabW4
namespace Go.Proofs.Ytbimdhapkbdmjab
open Go.RowKit Go.Shelf
set_option maxRecDepth 100000
set_option linter.unusedVariables false
set_option linter.unusedSimpArgs false

theorem one_yes {q : Ex → Bool} {e : Ex} (h : q e = true) : fnd q [e] = e ∧ fdb q [e] = true ∧ mtL q [e] = [] := by
  have h1 : fnd q [e] = e := by unfold fnd; simp [h]
  have h2 : fdb q [e] = true := by unfold fdb; simp [h]
  exact ⟨h1, h2, by rw [mtL_yes h2, h1]; simp⟩
theorem one_no {q : Ex → Bool} {e : Ex} (h : q e = false) : fnd q [e] = zEx ∧ fdb q [e] = false ∧ mtL q [e] = [e] := by
  have h1 : fnd q [e] = zEx := by unfold fnd; simp [h]
  have h2 : fdb q [e] = false := by unfold fdb; simp [h]
  exact ⟨h1, h2, mtL_no h2⟩
theorem one_none (q : Ex → Bool) : fnd q [] = zEx ∧ fdb q [] = false ∧ mtL q [] = [] := ⟨rfl, rfl, mtL_no rfl⟩

set_option maxHeartbeats 8000000 in
theorem walk_TopExpected (w : World) (src : Int) (hs : 0 ≤ src ∧ src ≤ 4294967295) (frm : Int) (hf : 0 ≤ frm ∧ frm ≤ 4294967295) (port : Int) (hp : 0 ≤ port ∧ port ≤ 65535) (now : Int) (hn : 0 ≤ now ∧ now ≤ 255) :
    Calls Try.prog 5 #[.agg #[.int .u32 src, .int .u32 frm], .int .u16 port, .int .u8 now] w fun e w' => e = .returned (.bool true) ∧ Below w.heap.size w w' := by
  have lb0 : Later w (w.alloc (.cells #[.int .u32 src, .int .u32 frm] 42)) := (Below.refl _ _).alloc (Nat.le_refl _) _
  have c0 := heap_alloc_new w (.cells #[.int .u32 src, .int .u32 frm] 42)
  go_enter Try.func5, Try.ntmps5
  go_upto_region 1 with fail
  generalize w.alloc _ = w0 at *
  have k0 := block_cell c0
  go_quiet (fail)
  clear k0 c0
  have lq := fun q => lb0.trans (below_draw (Later.refl w0) q)
  go_upto_region 2 with fail
  rename Nat => nq
  have L0 := lq nq
  clear lq lb0
  generalize w0.drewN nq = W0 at *
  go_wp2_with fail
  refine (new12_any W0).mono ?_
  rintro e w1 ⟨rfl, l1, hT1⟩
  have L1 := L0.trans l1
  have la : Later w1 (w1.alloc (.cells #[.int .u8 6, .int .u32 src, .int .u32 5, .int .u16 0, .int .u16 port, .int .u32 6, .int .u16 7, .int .i64 3, .int .i64 100] 25)) := (Below.refl _ _).alloc (Nat.le_refl _) _
  have e1 := heap_alloc_new w1 (.cells #[.int .u8 6, .int .u32 src, .int .u32 5, .int .u16 0, .int .u16 port, .int .u32 6, .int .u16 7, .int .i64 3, .int .i64 100] 25)
  have hb1 : W0.heap.size < w1.heap.size := hT1.blt
  have hwb : w.heap.size ≤ W0.heap.size := L0.size
  generalize W0.heap.size = b at *
  go_upto_region 4 with fail
  generalize w1.alloc _ = w2 at *
  have hb2 : w1.heap.size < w2.heap.size := (Array.getElem?_eq_some_iff.1 e1).1
  have L2 := L1.trans la
  have hT2 := hT1.later la
  have k1 := block_cell e1
  have HAD := hide (add12_any b b _ [] ⟨6, src, 5, 0, port, 6, 7, 3, 100⟩ w2 hT2 (by simp) (by omega))
  unfold exc at HAD
  simp only at HAD
  by_cases hp0 : port = 0
  · subst hp0
    have hae : adE [] ⟨6, src, 5, 0, 0, 6, 7, 3, 100⟩ = 2 := by unfold adE; rw [if_pos (by unfold rtX; simp)]
    rw [hae] at HAD
    clear hae hs hf hp hn
    go_wp2_with fail
    refine HAD.out.mono ?_
    rintro e w3 ⟨rfl, v3, hT3, hb3, _⟩
    have L3 : Below w.heap.size w w3 := Below.trans L2 (hb3.below L2.size (fun k hk e => by rcases e with e | e; (· omega); (· cases e)))
    go_wp2_with fail
    go_ret
    exact ⟨by first | rfl | simp, L3⟩
  · have hae : adE [] ⟨6, src, 5, 0, port, 6, 7, 3, 100⟩ = 0 := by unfold adE; rw [if_neg (by unfold rtX crX; simp [hp0])]; simp [ownN]
    rw [hae, adL_yes hae] at HAD
    clear hae
    have HP0 := hide hp0
    go_wp2_with fail
    refine HAD.out.mono ?_
    rintro e w3 ⟨rfl, v3, hT3, hb3, hf3⟩
    have hf3' : ∀ g, v3.ownBlock = some g → w2.heap.size ≤ g := fun g hg => by
      rcases hf3 with h | h
      · rw [h] at hg; cases hg
      · exact h g hg
    have hs3 := hb3.size
    have L3 : Below w.heap.size w w3 := Below.trans L2 (hb3.below L2.size (fun k hk e => by rcases e with e | e; (· omega); (· cases e)))
    have e3 := (hb3.block w1.heap.size hb2 (fun e => by rcases e with e | e; (· omega); (· cases e))).trans e1
    clear k1 HAD e1 hb3 hf3
    simp only [List.nil_append] at hT3
    go_wp2_with fail
    refine (fork12_any b b v3 _ w3 hT3 (by simp)).mono ?_
    rintro e w4 ⟨l4, fa, vf, rfl, hF4⟩
    have L4 := L3.trans (l4.mono L3.size)
    have hT4 := hT3.later l4
    have e4 := later_keep l4 e3
    have la4 : Later w4 (w4.alloc (.cells #[.int .u8 6, .int .u32 frm, .int .u32 5, .int .u16 9, .int .u16 port] 27)) := (Below.refl _ _).alloc (Nat.le_refl _) _
    have t4 := heap_alloc_new w4 (.cells #[.int .u8 6, .int .u32 frm, .int .u32 5, .int .u16 9, .int .u16 port] 27)
    go_upto_region 9 with fail
    generalize w4.alloc _ = w5 at *
    have hb5 : w4.heap.size < w5.heap.size := (Array.getElem?_eq_some_iff.1 t4).1
    have hs4 : w3.heap.size ≤ w4.heap.size := l4.size
    have L5 := L4.trans (la4.mono L4.size)
    have hT5 := hT4.later la4
    have hF5 := hF4.later la4
    have e5 := later_keep la4 e4
    have hE1 : ∀ g, (g = b ∨ v3.ownBlock = some g) → b ≤ g ∧ g < w3.heap.size ∧ g ≠ w1.heap.size := fun g h => by
      rcases h with rfl | h
      · exact ⟨Nat.le_refl _, hT3.blt, by omega⟩
      · exact ⟨(hT3.lt h).1, (hT3.lt h).2, by have := hf3' g h; omega⟩
    have k5 := block_cell t4
    have HM1 := hide (match12_any b b v3 [⟨6, src, 5, 0, port, 6, 7, 3, 100⟩] ⟨6, frm, 5, 9, port⟩ now w5 hT5 (by omega) (by simp))
    have HM2 := hide (fun W v l' (h : BL 48 b W b v l') (h2 : b ≤ W.heap.size) (h3 : l'.length ≤ 1000) => match12_any b b v l' ⟨6, frm, 5, 9, port⟩ now W h h2 h3)
    have HMF := hide (fun W v (h : BL 48 w3.heap.size W fa v []) (h2 : w3.heap.size ≤ W.heap.size) => match12_any w3.heap.size fa v [] ⟨6, frm, 5, 9, port⟩ 0 W h h2 (by simp))
    rw [(one_none _).1, (one_none _).2.1, (one_none _).2.2] at HMF
    have HGO := hide (fun W v (h : BL 48 w3.heap.size W fa v [⟨6, src, 5, 0, port, 6, 7, 3, 100⟩]) (h2 : w3.heap.size ≤ W.heap.size) => gone12_any w3.heap.size fa v [⟨6, src, 5, 0, port, 6, 7, 3, 100⟩] 3 W h h2 (by simp))
    simp only [List.filter_cons, decide_true, if_true, List.filter_nil, Bool.not_true, List.length_cons, List.length_nil] at HGO
    cases hq : pkX ⟨6, frm, 5, 9, port⟩ now ⟨6, src, 5, 0, port, 6, 7, 3, 100⟩ with
    | true =>
      rw [(one_yes hq).1, (one_yes hq).2.1, (one_yes hq).2.2] at HM1
      unfold exc tuc at HM1
      simp only [zEx] at HM1
      go_wp2_with fail
      refine HM1.out.mono ?_
      rintro e w6 ⟨rfl, v6, hT6, hb6, hf6⟩
      clear HM1 k5
      have hs6 := hb6.size
      have hF6 : BL 48 w3.heap.size w6 fa vf [⟨6, src, 5, 0, port, 6, 7, 3, 100⟩] := hF5.but hb6 (fun e => by have := hE1 _ e; have := hF5.1; omega) (fun g hg e => by have := hE1 _ e; have := (hF5.lt hg).1; omega)
      have e6 := (hb6.block w1.heap.size (by omega) (fun e => (hE1 _ e).2.2 rfl)).trans e5
      have t6 := (hb6.block w4.heap.size (by omega) (fun e => by have := hE1 _ e; omega)).trans t4
      have L6 : Below w.heap.size w w6 := L5.trans (hb6.below L5.size (fun k hk e => by have := hE1 _ e; omega))
      have la6 : Later w6 (w6.alloc (.cells #[.int .u8 6, .int .u32 src, .int .u32 5, .int .u16 0, .int .u16 port, .int .u32 6, .int .u16 7, .int .i64 3, .int .i64 100] 25)) := (Below.refl _ _).alloc (Nat.le_refl _) _
      have x6 := heap_alloc_new w6 (.cells #[.int .u8 6, .int .u32 src, .int .u32 5, .int .u16 0, .int .u16 port, .int .u32 6, .int .u16 7, .int .i64 3, .int .i64 100] 25)
      go_upto_region 10 with fail
      generalize w6.alloc _ = w7 at *
      have hs7 : w6.heap.size < w7.heap.size := (Array.getElem?_eq_some_iff.1 x6).1
      have hT7 := hT6.later la6
      have hF7 := hF6.later la6
      have e7 := later_keep la6 e6
      have t7 := later_keep la6 t6
      have L7 := L6.trans (la6.mono L6.size)
      have hE2 : ∀ g, (g = b ∨ v6.ownBlock = some g) → b ≤ g ∧ g < w6.heap.size ∧ g ≠ w1.heap.size ∧ (g < w3.heap.size ∨ w5.heap.size ≤ g) := fun g h => by
        rcases h with rfl | h
        · exact ⟨Nat.le_refl _, hT6.blt, by omega, .inl hT3.blt⟩
        · rcases hf6 with f | f
          · rw [f] at h
            have := hE1 g (.inr h)
            exact ⟨this.1, by omega, this.2.2, .inl this.2.1⟩
          · have h5 := f g h
            have := hT6.lt h
            exact ⟨this.1, this.2, by omega, .inr h5⟩
      have k7 := block_cell t7
      have HMB := hide (HM2.out w7 v6 [] hT7 (by omega) (by simp))
      rw [(one_none _).1, (one_none _).2.1, (one_none _).2.2] at HMB
      unfold exc tuc at HMB
      simp only [zEx] at HMB
      clear HM2
      go_wp2_with fail
      refine HMB.out.mono ?_
      rintro e w8 ⟨rfl, v8, hT8, hb8, hf8⟩
      clear HMB k7
      have hs8 := hb8.size
      have hF8 : BL 48 w3.heap.size w8 fa vf [⟨6, src, 5, 0, port, 6, 7, 3, 100⟩] := hF7.but hb8 (fun e => by have := hE2 _ e; have := hF5.1; have := hF5.blt; omega) (fun g hg e => by have := hE2 _ e; have := hF5.lt hg; omega)
      have e8 := (hb8.block w1.heap.size (by omega) (fun e => (hE2 _ e).2.2.1 rfl)).trans e7
      have t8 := (hb8.block w4.heap.size (by omega) (fun e => by have := hE2 _ e; omega)).trans t7
      have x8 := (hb8.block w6.heap.size (by omega) (fun e => by have := hE2 _ e; omega)).trans x6
      have L8 : Below w.heap.size w w8 := L7.trans (hb8.below L7.size (fun k hk e => by have := hE2 _ e; omega))
      have la8 : Later w8 (w8.alloc (.cells #[.int .u8 0, .int .u32 0, .int .u32 0, .int .u16 0, .int .u16 0, .int .u32 0, .int .u16 0, .int .i64 0, .int .i64 0] 25)) := (Below.refl _ _).alloc (Nat.le_refl _) _
      go_upto_region 11 with fail
      generalize w8.alloc _ = w9 at *
      have hF9 := hF8.later la8
      have e9 := later_keep la8 e8
      have t9 := later_keep la8 t8
      have x9 := later_keep la8 x8
      have hs9 : w8.heap.size ≤ w9.heap.size := la8.size
      have L9 := L8.trans (la8.mono L8.size)
      clear hT8 hb8 hf8 hb6 hf6 hT7 hT6 e4 e5 e6 e7 e8 t4 t6 t7 t8 x6 x8
      go_wp2_with fail
      refine (HGO.out w9 vf hF9 (by omega)).mono ?_
      rintro e w10 ⟨u10, rfl, v10, hF10, hu10, hb10, hf10⟩
      obtain ⟨su, cu, rfl⟩ := ownE_slice hu10
      have hfa := hF9.1
      have hs10 := hb10.size
      have e10 := (hb10.block w1.heap.size (by omega) (by omega)).trans e9
      have hfat : fa ≠ w4.heap.size := fun e => by have h1 := hF9.2.1; rw [e, t9] at h1; simp at h1
      have hfax : fa ≠ w6.heap.size := fun e => by have h1 := hF9.2.1; rw [e, x9] at h1; simp at h1
      have t10 := (hb10.block w4.heap.size (by omega) (fun e => hfat e.symm)).trans t9
      have x10 := (hb10.block w6.heap.size (by omega) (fun e => hfax e.symm)).trans x9
      have L10 : Below w.heap.size w w10 := L9.trans (hb10.below L9.size (fun k hk e => by omega))
      have k10 := block_cell t10
      unfold exc tuc at HMF
      simp only [zEx] at HMF
      clear HGO hu10
      go_wp2_with fail
      refine (HMF.out w10 v10 hF10 (by omega)).mono ?_
      rintro e w11 ⟨rfl, v11, hF11, hb11, _⟩
      have hE3 : ∀ g, (g = fa ∨ v10.ownBlock = some g) → w3.heap.size ≤ g ∧ g ≠ w6.heap.size := fun g h => by
        rcases h with rfl | h
        · exact ⟨hfa, hfax⟩
        · have := hf10 g h
          have h2 := (Array.getElem?_eq_some_iff.1 x9).1
          exact ⟨by omega, by omega⟩
      have e11 := (hb11.block w1.heap.size (by omega) (fun e => by have := hE3 _ e; omega)).trans e10
      have x11 := (hb11.block w6.heap.size (by have := (Array.getElem?_eq_some_iff.1 x9).1; omega) (fun e => (hE3 _ e).2 rfl)).trans x10
      have L11 : Below w.heap.size w w11 := L10.trans (hb11.below L10.size (fun k hk e => by have := hE3 _ e; omega))
      have la11 : Later w11 (w11.alloc (.cells #[.int .u8 0, .int .u32 0, .int .u32 0, .int .u16 0, .int .u16 0, .int .u32 0, .int .u16 0, .int .i64 0, .int .i64 0] 25)) := (Below.refl _ _).alloc (Nat.le_refl _) _
      clear k10 HMF
      go_upto_region 13 with fail
      generalize w11.alloc _ = w12 at *
      have j1 := block_cell (later_keep la11 e11)
      have j2 := block_cell (later_keep la11 x11)
      have L12 := L11.trans (la11.mono L11.size)
      clear e9 e10 e11 x9 x10 x11 t9 t10 hF9 hF10 hF11 hb10 hb11 hf10 L0 L1 L2 L3 L4 L5 L6 L7 L8 L9 L10 L11
      have hwant : (src = 0 ∨ frm = src) ∧ now < 100 := by
        unfold pkX ftX at hq
        simpa using hq
      obtain ⟨hw1, hw2⟩ := hwant
      by_cases hs0 : src = 0
      · subst hs0
        clear hw1 hq
        go_wp2_with fail
        go_ret
        exact ⟨by first | rfl | (simp; done), L12⟩
      · have hsf : frm = src := by rcases hw1 with h | h; (· exact absurd h hs0); (· exact h)
        subst hsf
        clear hw1 hq
        go_wp2_with fail
        go_ret
        exact ⟨by first | rfl | (simp; done), L12⟩
    | false =>
      rw [(one_no hq).1, (one_no hq).2.1, (one_no hq).2.2] at HM1
      unfold exc tuc at HM1
      simp only [zEx] at HM1
      go_wp2_with fail
      refine HM1.out.mono ?_
      rintro e w6 ⟨rfl, v6, hT6, hb6, hf6⟩
      clear HM1 k5
      have hs6 := hb6.size
      have hF6 : BL 48 w3.heap.size w6 fa vf [⟨6, src, 5, 0, port, 6, 7, 3, 100⟩] := hF5.but hb6 (fun e => by have := hE1 _ e; have := hF5.1; omega) (fun g hg e => by have := hE1 _ e; have := (hF5.lt hg).1; omega)
      have e6 := (hb6.block w1.heap.size (by omega) (fun e => (hE1 _ e).2.2 rfl)).trans e5
      have t6 := (hb6.block w4.heap.size (by omega) (fun e => by have := hE1 _ e; omega)).trans t4
      have L6 : Below w.heap.size w w6 := L5.trans (hb6.below L5.size (fun k hk e => by have := hE1 _ e; omega))
      have la6 : Later w6 (w6.alloc (.cells #[.int .u8 0, .int .u32 0, .int .u32 0, .int .u16 0, .int .u16 0, .int .u32 0, .int .u16 0, .int .i64 0, .int .i64 0] 25)) := (Below.refl _ _).alloc (Nat.le_refl _) _
      have x6 := heap_alloc_new w6 (.cells #[.int .u8 0, .int .u32 0, .int .u32 0, .int .u16 0, .int .u16 0, .int .u32 0, .int .u16 0, .int .i64 0, .int .i64 0] 25)
      go_upto_region 10 with fail
      generalize w6.alloc _ = w7 at *
      have hs7 : w6.heap.size < w7.heap.size := (Array.getElem?_eq_some_iff.1 x6).1
      have hT7 := hT6.later la6
      have hF7 := hF6.later la6
      have e7 := later_keep la6 e6
      have t7 := later_keep la6 t6
      have L7 := L6.trans (la6.mono L6.size)
      have hE2 : ∀ g, (g = b ∨ v6.ownBlock = some g) → b ≤ g ∧ g < w6.heap.size ∧ g ≠ w1.heap.size ∧ (g < w3.heap.size ∨ w5.heap.size ≤ g) := fun g h => by
        rcases h with rfl | h
        · exact ⟨Nat.le_refl _, hT6.blt, by omega, .inl hT3.blt⟩
        · rcases hf6 with f | f
          · rw [f] at h
            have := hE1 g (.inr h)
            exact ⟨this.1, by omega, this.2.2, .inl this.2.1⟩
          · have h5 := f g h
            have := hT6.lt h
            exact ⟨this.1, this.2, by omega, .inr h5⟩
      have k7 := block_cell t7
      have HMB := hide (HM2.out w7 v6 [⟨6, src, 5, 0, port, 6, 7, 3, 100⟩] hT7 (by omega) (by simp))
      rw [(one_no hq).1, (one_no hq).2.1, (one_no hq).2.2] at HMB
      unfold exc tuc at HMB
      simp only [zEx] at HMB
      clear HM2
      go_wp2_with fail
      refine HMB.out.mono ?_
      rintro e w8 ⟨rfl, v8, hT8, hb8, hf8⟩
      clear HMB k7
      have hs8 := hb8.size
      have hF8 : BL 48 w3.heap.size w8 fa vf [⟨6, src, 5, 0, port, 6, 7, 3, 100⟩] := hF7.but hb8 (fun e => by have := hE2 _ e; have := hF5.1; have := hF5.blt; omega) (fun g hg e => by have := hE2 _ e; have := hF5.lt hg; omega)
      have e8 := (hb8.block w1.heap.size (by omega) (fun e => (hE2 _ e).2.2.1 rfl)).trans e7
      have t8 := (hb8.block w4.heap.size (by omega) (fun e => by have := hE2 _ e; omega)).trans t7
      have x8 := (hb8.block w6.heap.size (by omega) (fun e => by have := hE2 _ e; omega)).trans x6
      have L8 : Below w.heap.size w w8 := L7.trans (hb8.below L7.size (fun k hk e => by have := hE2 _ e; omega))
      have la8 : Later w8 (w8.alloc (.cells #[.int .u8 0, .int .u32 0, .int .u32 0, .int .u16 0, .int .u16 0, .int .u32 0, .int .u16 0, .int .i64 0, .int .i64 0] 25)) := (Below.refl _ _).alloc (Nat.le_refl _) _
      go_upto_region 11 with fail
      generalize w8.alloc _ = w9 at *
      have hF9 := hF8.later la8
      have e9 := later_keep la8 e8
      have t9 := later_keep la8 t8
      have x9 := later_keep la8 x8
      have hs9 : w8.heap.size ≤ w9.heap.size := la8.size
      have L9 := L8.trans (la8.mono L8.size)
      clear hT8 hb8 hf8 hb6 hf6 hT7 hT6 e4 e5 e6 e7 e8 t4 t6 t7 t8 x6 x8
      go_wp2_with fail
      refine (HGO.out w9 vf hF9 (by omega)).mono ?_
      rintro e w10 ⟨u10, rfl, v10, hF10, hu10, hb10, hf10⟩
      obtain ⟨su, cu, rfl⟩ := ownE_slice hu10
      have hfa := hF9.1
      have hs10 := hb10.size
      have e10 := (hb10.block w1.heap.size (by omega) (by omega)).trans e9
      have hfat : fa ≠ w4.heap.size := fun e => by have h1 := hF9.2.1; rw [e, t9] at h1; simp at h1
      have hfax : fa ≠ w6.heap.size := fun e => by have h1 := hF9.2.1; rw [e, x9] at h1; simp at h1
      have t10 := (hb10.block w4.heap.size (by omega) (fun e => hfat e.symm)).trans t9
      have x10 := (hb10.block w6.heap.size (by omega) (fun e => hfax e.symm)).trans x9
      have L10 : Below w.heap.size w w10 := L9.trans (hb10.below L9.size (fun k hk e => by omega))
      have k10 := block_cell t10
      unfold exc tuc at HMF
      simp only [zEx] at HMF
      clear HGO hu10
      go_wp2_with fail
      refine (HMF.out w10 v10 hF10 (by omega)).mono ?_
      rintro e w11 ⟨rfl, v11, hF11, hb11, _⟩
      have hE3 : ∀ g, (g = fa ∨ v10.ownBlock = some g) → w3.heap.size ≤ g ∧ g ≠ w6.heap.size := fun g h => by
        rcases h with rfl | h
        · exact ⟨hfa, hfax⟩
        · have := hf10 g h
          have h2 := (Array.getElem?_eq_some_iff.1 x9).1
          exact ⟨by omega, by omega⟩
      have e11 := (hb11.block w1.heap.size (by omega) (fun e => by have := hE3 _ e; omega)).trans e10
      have x11 := (hb11.block w6.heap.size (by have := (Array.getElem?_eq_some_iff.1 x9).1; omega) (fun e => (hE3 _ e).2 rfl)).trans x10
      have L11 : Below w.heap.size w w11 := L10.trans (hb11.below L10.size (fun k hk e => by have := hE3 _ e; omega))
      have la11 : Later w11 (w11.alloc (.cells #[.int .u8 0, .int .u32 0, .int .u32 0, .int .u16 0, .int .u16 0, .int .u32 0, .int .u16 0, .int .i64 0, .int .i64 0] 25)) := (Below.refl _ _).alloc (Nat.le_refl _) _
      clear k10 HMF
      go_upto_region 13 with fail
      generalize w11.alloc _ = w12 at *
      have j1 := block_cell (later_keep la11 e11)
      have j2 := block_cell (later_keep la11 x11)
      have L12 := L11.trans (la11.mono L11.size)
      clear e9 e10 e11 x9 x10 x11 t9 t10 hF9 hF10 hF11 hb10 hb11 hf10 L0 L1 L2 L3 L4 L5 L6 L7 L8 L9 L10 L11
      have hwant : ¬ ((src = 0 ∨ frm = src) ∧ now < 100) := by
        unfold pkX ftX at hq
        simpa using hq
      by_cases hs0 : src = 0
      · have hnn : ¬ now < 100 := fun h => hwant ⟨.inl hs0, h⟩
        subst hs0
        clear hwant hq
        go_wp2_with fail
        go_ret
        exact ⟨by first | rfl | (simp; done), L12⟩
      · by_cases hsf : src = frm
        · have hnn : ¬ now < 100 := fun h => hwant ⟨.inr hsf.symm, h⟩
          subst hsf
          clear hwant hq
          go_wp2_with fail
          go_ret
          exact ⟨by first | rfl | (simp; done), L12⟩
        · clear hwant hq
          go_wp2_with fail
          go_ret
          exact ⟨by first | rfl | (simp; done), L12⟩
end Go.Proofs.Ytbimdhapkbdmjab
