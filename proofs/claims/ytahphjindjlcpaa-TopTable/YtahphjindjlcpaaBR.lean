/- Package table: Drop, the walk. -/
import Derived.Test.YtahphjindjlcpaaBQ
namespace Go.Proofs.Ytahphjindjlcpaa
open Go.RowKit Go.Shelf
set_option maxRecDepth 100000
set_option linter.unusedVariables false
set_option linter.unusedSimpArgs false

/-- What Drop answers. -/
def dpe (ls : Nat → List Rw) (p s d a b : Int) : Int := if kx p s d a b ls = none then 11 else 0

set_option maxHeartbeats 8000000 in
theorem tdrop_any (base bt : Nat) (lim cnt trn : Int) (ls : Nat → List Rw) (p s d a b : Int) (w : World) (hT : TB base w bt lim cnt trn ls) (hu : ∀ i, UQ (ls i)) (hs : 0 ≤ s ∧ s ≤ 4294967295) (hd : 0 ≤ d ∧ d ≤ 4294967295) (ha : 0 ≤ a ∧ a ≤ 65535) (hb : 0 ≤ b ∧ b ≤ 65535) (hbs : base ≤ w.heap.size) (hcn : -4096 ≤ cnt ∧ cnt ≤ 4096) :
    Calls Try.prog 17 #[.pointer (some ⟨bt, 0, none⟩), .agg #[.int .u8 p, .int .u32 s, .int .u32 d, .int .u16 a, .int .u16 b]] w fun e w' => e = .returned (.int .i64 (dpe ls p s d a b)) ∧ (Below base w w' ∧ KT w w') ∧
      ((kx p s d a b ls = none ∧ TB base w' bt lim cnt trn ls) ∨ ∃ k, kx p s d a b ls = some k ∧ TB base w' bt lim (cnt - 1) trn (dpL ls (bki p s d a b) k)) := by
  obtain ⟨vs, hT⟩ := hT
  have lb0 : Later w (w.alloc (.cells #[.int .u8 p, .int .u32 s, .int .u32 d, .int .u16 a, .int .u16 b] 26)) := (Below.refl _ _).alloc (Nat.le_refl _) _
  have t0 := heap_alloc_new w (.cells #[.int .u8 p, .int .u32 s, .int .u32 d, .int .u16 a, .int .u16 b] 26)
  have k0 := block_cell t0
  go_enter Try.func17, Try.ntmps17
  go_wp2_with fail
  generalize w.alloc _ = w0 at *
  refine (tfind_any base bt lim cnt trn vs ls p s d a b w0 (hT.later lb0) hs hd ha hb).mono ?_
  rintro e w1 ⟨hb1, hor⟩
  have l1 : Later w0 w1 := hb1
  have L1 := lb0.trans l1
  clear k0
  rcases hor with ⟨hn, rfl⟩ | ⟨k, g2, cap, hk, hkl, hv, rfl⟩
  · have HN := hide hn
    clear hn
    go_wp2_with fail
    go_ret
    exact ⟨by unfold dpe; rw [if_pos HN.out]; rfl, ⟨L1.mono hbs, KT.of_later L1⟩, .inl ⟨HN.out, vs, hT.later L1⟩⟩
  · have HK := hide hk
    have HV := hide hv
    clear hk hv
    have t1 := later_keep l1 t0
    have hT1 := hT.later L1
    go_upto_region 5 with fail
    refine anyT_begin (R := But (fun g => g = bt ∨ (vs[bki p s d a b]?.getD undef).ownBlock = some g)) 8 rfl (by kernel_rfl) ?_
    have ld : Later w1 w1.drew := Later.drew w1
    have td := later_keep ld t1
    have LD := L1.trans ld
    generalize w1.drew = Wd at *
    have hTd := hT.later LD
    have hbtl := (Array.getElem?_eq_some_iff.1 hT.2.2.1).1
    have hvl : ∀ x, (vs[bki p s d a b]?.getD undef).ownBlock = some x → base ≤ x ∧ x < w.heap.size := fun x hx => (hT.2.2.2.1 _ (bki_lt p s d a b)).lt x hx
    have hq : ∀ v1, But (fun g => g = bt ∨ (vs[bki p s d a b]?.getD undef).ownBlock = some g) Wd v1 → ∀ j, v1.cell? ⟨w.heap.size, j, none⟩ = #[Value.int .u8 p, .int .u32 s, .int .u32 d, .int .u16 a, .int .u16 b][j]? := fun v1 hv => block_cell ((hv.block w.heap.size (Array.getElem?_eq_some_iff.1 td).1 (fun hE => by rcases hE with e | e; (· omega); (· have := (hvl _ e).2; omega))).trans td)
    refine anyT_val (But.pre _) 0 rfl (by kernel_rfl) (by kernel_rfl) (by kernel_rfl) (fun _ _ _ _ h => h) rfl ?_; apply Exists.intro; refine ⟨fun v1 hv1 => ?_, ?_⟩; (· (go_simp; rfl)); simp only [Act.put, List.setIfInBounds_toArray, List.set_cons_zero, List.set_cons_succ]
    refine anyT_val (But.pre _) 1 rfl (by kernel_rfl) (by kernel_rfl) (by kernel_rfl) (fun _ _ _ _ h => h) rfl ?_; apply Exists.intro; refine ⟨fun v1 hv1 => ?_, ?_⟩; (· (go_simp; rfl)); simp only [Act.put, List.setIfInBounds_toArray, List.set_cons_zero, List.set_cons_succ]
    refine anyT_val (But.pre _) 2 rfl (by kernel_rfl) (by kernel_rfl) (by kernel_rfl) (fun _ _ _ _ h => h) rfl ?_; apply Exists.intro; refine ⟨fun v1 hv1 => ?_, ?_⟩; (· (go_simp; rfl)); simp only [Act.put, List.setIfInBounds_toArray, List.set_cons_zero, List.set_cons_succ]
    refine anyT_val (But.pre _) 3 rfl (by kernel_rfl) (by kernel_rfl) (by kernel_rfl) (fun _ _ _ _ h => h) rfl ?_; apply Exists.intro; refine ⟨fun v1 hv1 => ?_, ?_⟩; (· (go_simp; rfl)); simp only [Act.put, List.setIfInBounds_toArray, List.set_cons_zero, List.set_cons_succ]
    refine anyT_val (But.pre _) 5 rfl (by kernel_rfl) (by kernel_rfl) (by kernel_rfl) (fun _ _ _ _ h => h) rfl ?_; apply Exists.intro; refine ⟨fun v1 hv1 => ?_, ?_⟩; (· (go_simp; rfl)); simp only [Act.put, List.setIfInBounds_toArray, List.set_cons_zero, List.set_cons_succ]
    clear hq
    refine anyT_one 4 rfl (by kernel_rfl) rfl ?_
    refine wp_enter 34 #[.agg #[.int .u8 p, .int .u32 s, .int .u32 d, .int .u16 a, .int .u16 b]] (by go_simp) ?_
    refine (hash_any p s d a b Wd hs hd ha hb).mono ?_
    rintro e W1 ⟨rfl, hbW1⟩
    have k1 : Later Wd W1 := hbW1
    refine ⟨But.of k1, ?_⟩
    simp only [Act.put, List.setIfInBounds_toArray, List.set_cons_zero, List.set_cons_succ]
    refine anyT_one 6 rfl (by kernel_rfl) rfl ?_
    refine wp_enter 38 #[.agg #[.int .u8 p, .int .u32 s, .int .u32 d, .int .u16 a, .int .u16 b]] (by go_simp) ?_
    refine (of_key p s d a b W1).mono ?_
    rintro e W2 ⟨gk, rfl, hbW2, hgk, hgc⟩
    have k2 : Later W1 W2 := hbW2
    refine ⟨But.of k2, ?_⟩
    simp only [Act.put, List.setIfInBounds_toArray, List.set_cons_zero, List.set_cons_succ]
    have LW2 := LD.trans (k1.trans k2)
    refine anyT_one 7 rfl (by kernel_rfl) rfl ?_
    refine wp_enter 37 #[.pointer (some ⟨bt, 3, none⟩), .int .u32 (hsh (tb p s d (kyp p a) b)), .func (.func 50) #[] #[.pointer (some ⟨gk, 0, none⟩)]] (by go_simp) ?_
    refine (remove_any base bt gk lim cnt trn vs ls (hsh (tb p s d (kyp p a) b)) (bki p s d a b) k p s d (kyp p a) b W2 (hT.later LW2) (hsh_tb _ _ _ _ _) rfl (hu _) HK.out hgc).mono ?_
    rintro e W4 ⟨rfl, ⟨vs4, hT5⟩, hb4⟩
    refine ⟨hb4, ?_⟩
    simp only [Act.put, List.setIfInBounds_toArray, List.set_cons_zero, List.set_cons_succ]
    refine anyT_done (by kernel_rfl) ?_
    have hE : ∀ x, (x = bt ∨ (vs[bki p s d a b]?.getD undef).ownBlock = some x) → base ≤ x := fun x e => by
      rcases e with rfl | e
      · exact hT.2.1
      · exact (hvl x e).1
    have hbz : Below base w W4 := (LW2.mono hbs).trans (hb4.below (Nat.le_trans hbs LW2.size) (fun x hx e => by have := hE x e; omega))
    have h6 := hT5.2.2.1
    have kk := block_cell h6
    have k6 : W4.cell? ⟨bt, 1, none⟩ = some (.int .i64 cnt) := by rw [kk]; rfl
    have f6 := block_frozen h6
    clear kk
    have hV3 := heap_set1 h6 1 (.int .i64 (cnt - 1))
    have hbV1 : But (fun g => g = bt) W4 (W4.setCell ⟨bt, 1, none⟩ (.int .i64 (cnt - 1))) := (But.refl (fun g => g = bt) _).setCell (p := ⟨bt, 1, none⟩) rfl _
    have hTf := TBv.but (c2 := cnt - 1) hT5 hbV1 (by rw [hV3]; rfl)
    have hbf : Below base w (W4.setCell ⟨bt, 1, none⟩ (.int .i64 (cnt - 1))) := hbz.trans (hbV1.below (Nat.le_trans hbs hbz.size) (fun x hx e => by have := hT.2.1; omega))
    have hEf : But (fun x => x = bt ∨ (vs[bki p s d a b]?.getD undef).ownBlock = some x) w (W4.setCell ⟨bt, 1, none⟩ (.int .i64 (cnt - 1))) := ((But.of LW2).trans hb4).trans ⟨hbV1.os, hbV1.tape, hbV1.output, hbV1.size, fun x hx he => hbV1.block x hx (fun e => he (.inl e))⟩
    have hkt := KT.of_but hEf (hT.typed _ (bki_lt p s d a b))
    have HTF := hide hTf
    have c1 : -9223372036854775808 ≤ cnt - 1 := by omega
    have c2 : cnt - 1 ≤ 9223372036854775807 := by omega
    clear hTf hV3 hbV1
    go_wp2_with fail
    go_ret
    exact ⟨by unfold dpe; rw [HK.out, if_neg (by simp)]; rfl, ⟨hbf, hkt⟩, .inr ⟨k, HK.out, _, HTF.out⟩⟩
end Go.Proofs.Ytahphjindjlcpaa
