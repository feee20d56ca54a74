import Derived.Test.YtofknbfbmaefoaaGreatDoorX17
import Derived.Deep.MidRow
import Derived.Test.YtofknbfbmaefoaaGreatDoorX19
namespace Go.Proofs.YtofknbfbmaefoaaGreatDoor
set_option maxHeartbeats 8000000
open Go.RowKit Go.Shelf
set_option maxRecDepth 100000
set_option linter.unusedVariables false
set_option linter.unusedSimpArgs false
def pute (lim cnt : Int) (ls : Nat → List Rw) (p s d a b till : Int) : Int := if mayb till = false then 2 else if kx p s d a b ls ≠ none then 10 else if lim ≤ cnt then 9 else 0
theorem TBv.but {base bt : Nat} {W V : World} {lim cnt trn c2 : Int} {vs : List Value} {ls : Nat → List Rw} (hT : TBv base W bt lim cnt trn vs ls) (hb : But (fun g => g = bt) W V) (hV : V.heap[bt]? = some (.cells (.int .i64 lim :: .int .i64 c2 :: .int .i64 trn :: vs).toArray 142 (0, 0))) : TBv base V bt lim c2 trn vs ls := by
 refine ⟨hT.1, hT.2.1, hV, fun i hi => ?_, hT.2.2.2.2⟩
 obtain ⟨h1, h2 | ⟨g, cap, cur, hv, hg, hh2, r⟩⟩ := hT.2.2.2.1 i hi
 ·exact ⟨h1, .inl h2⟩
 ·have hne : g ≠ bt := fun e => by subst e; have := hT.2.2.1; rw [hh2] at this; simp at this
  exact ⟨h1, .inr ⟨g, cap, cur, hv, hg, (hb.block g (bl9 hh2) hne).trans hh2, r⟩⟩
theorem tput_any (base bt : Nat) (lim cnt trn : Int) (vs : List Value) (ls : Nat → List Rw) (p s d a b id till : Int) (w : World) (hT : TBv base w bt lim cnt trn vs ls) (hs : 0 ≤ s ∧ s ≤ 4294967295) (hd : 0 ≤ d ∧ d ≤ 4294967295) (ha : 0 ≤ a ∧ a ≤ 65535) (hb : 0 ≤ b ∧ b ≤ 65535) (hbs : base ≤ w.heap.size) (htr : 0 ≤ trn ∧ trn ≤ 1000000) (hcn : 0 ≤ cnt ∧ cnt ≤ 4096) (hlm : lim ≤ 4096) (hln : (ls (bki p s d a b)).length ≤ 5000) :
  Calls Tryz.prog 262 #[.pointer (some ⟨bt, 0, none⟩), .agg #[.int .u8 p, .int .u32 s, .int .u32 d, .int .u16 a, .int .u16 b], .int .i64 id, .int .i64 till] w fun e w' => e = .returned (.int .i64 (pute lim cnt ls p s d a b till)) ∧
   ((pute lim cnt ls p s d a b till ≠ 0 ∧ TBv base w' bt lim cnt trn vs ls ∧ Below w.heap.size w w') ∨ (pute lim cnt ls p s d a b till = 0 ∧ TB base w' bt lim (cnt + 1) (trn + 1) (addL ls (bki p s d a b) ⟨p, s, d, kyp p a, b, id, till, trn + 1⟩) ∧ But (fun g => g = bt ∨ (vs[bki p s d a b]?.getD undef).ownBlock = some g) w w')) := by
 have lb0 : Later w (w.alloc (.cells #[.int .u8 p, .int .u32 s, .int .u32 d, .int .u16 a, .int .u16 b] 68)) := (Below.refl _ _).alloc (Nat.le_refl _) _
 have t0 := heap_alloc_new w (.cells #[.int .u8 p, .int .u32 s, .int .u32 d, .int .u16 a, .int .u16 b] 68)
 go_enter Tryz.func262, Tryz.ntmps262
 go_wp2_with fail
 generalize w.alloc (.cells #[.int .u8 p, .int .u32 s, .int .u32 d, .int .u16 a, .int .u16 b] 68) = w0 at *
 refine (mayBe_any till w0).mono ?_
 rintro e w1 ⟨rfl, rfl⟩
 have hT1 := hT.later lb0
 cases hm : mayb till with
 | false =>
  have HQ : Hid (pute lim cnt ls p s d a b till = 2) := if_pos hm
  clear hm
  go_wp2_with fail
  go_ret
  exact ⟨by rw [HQ.out]; rfl, .inl ⟨by rw [HQ.out]; decide, hT1, lb0⟩⟩
 | true =>
  have k0 := block_cell t0
  go_wp2_with fail
  clear k0
  refine (tfind_any base bt lim cnt trn vs ls p s d a b w1 hT1 hs hd ha hb).mono ?_
  rintro e w2 ⟨hb2, ⟨hk, rfl⟩ | ⟨k, g2, cap, hk, hkl, hv, rfl⟩⟩
  ·have l2 : Later w1 w2 := hb2
   have L2 := lb0.trans l2
   have hT2 := hT.later L2
   have t2 := later_keep l2 t0
   have c1 : w2.cell? ⟨bt, 1, none⟩ = some (.int .i64 cnt) := by rw [block_cell hT2.2.2.1]; rfl
   have c0 : w2.cell? ⟨bt, 0, none⟩ = some (.int .i64 lim) := by rw [block_cell hT2.2.2.1]; rfl
   have HP : Hid (pute lim cnt ls p s d a b till = if lim ≤ cnt then 9 else 0) := by show _ = _; unfold pute; rw [hm, hk]; simp
   clear hm hk
   go_upto_region 7 with fail
   refine anyR_begin (R := Later) Later.pre Later.drew 10 rfl (by kernel_rfl) (fun V1 hV1 => ?_)
   have q1 : ∀ v1, Later V1 v1 → v1.cell? ⟨bt, 1, none⟩ = some (.int .i64 cnt) := fun v1 h => (hV1.trans h).cell c1
   have q0 : ∀ v1, Later V1 v1 → v1.cell? ⟨bt, 0, none⟩ = some (.int .i64 lim) := fun v1 h => (hV1.trans h).cell c0
   clear c0 c1
   refine rV Later.pre 0 rfl rfl ⟨_, fun v h => by (go_simp; rfl), ?_⟩; simp only [Act.put, sA, sB, sC]
   refine rV Later.pre 1 rfl rfl ⟨_, fun v h => by (go_simp; rfl), ?_⟩; simp only [Act.put, sA, sB, sC]
   refine rV Later.pre 2 rfl rfl ⟨_, fun v h => by (go_simp; rfl), ?_⟩; simp only [Act.put, sA, sB, sC]
   refine rV Later.pre 3 rfl rfl ⟨_, fun v h => by (go_simp; rfl), ?_⟩; simp only [Act.put, sA, sB, sC]
   refine rV Later.pre 4 rfl rfl ⟨_, fun v h => by (go_simp; rfl), ?_⟩; simp only [Act.put, sA, sB, sC]
   refine rV Later.pre 5 rfl rfl ⟨_, fun v h => by (go_simp; rfl), ?_⟩; simp only [Act.put, sA, sB, sC]
   refine rV Later.pre 6 rfl rfl ⟨_, fun v h => by (go_simp; rfl), ?_⟩; simp only [Act.put, sA, sB, sC]
   refine rV Later.pre 7 rfl rfl ⟨_, fun v h => by (go_simp; rfl), ?_⟩; simp only [Act.put, sA, sB, sC]
   refine rV Later.pre 8 rfl rfl ⟨_, fun v h => by (go_simp; rfl), ?_⟩; simp only [Act.put, sA, sB, sC]
   refine rV Later.pre 9 rfl rfl ⟨_, fun v h => by (go_simp; rfl), ?_⟩; simp only [Act.put, sA, sB, sC]
   refine anyR_done (by kernel_rfl) (fun V2 hV2 => ?_)
   clear q0 q1
   have L3 := L2.trans (hV1.trans hV2)
   have t3 := later_keep (hV1.trans hV2) t2
   have hT3 := hT.later L3
   by_cases hful : lim ≤ cnt
   ·have HQ : Hid (pute lim cnt ls p s d a b till = 9) := HP.out.trans (if_pos hful)
    go_wp2_with fail
    go_ret
    exact ⟨by rw [HQ.out]; rfl, .inl ⟨by rw [HQ.out]; decide, hT3, L3⟩⟩
   ·have HQ : Hid (pute lim cnt ls p s d a b till = 0) := HP.out.trans (if_neg hful)
    have hnb : w.heap.size ≠ bt := fun e => by have := (bl9 hT.2.2.1); omega
    have hnv : (vs[bki p s d a b]?.getD undef).ownBlock ≠ some w.heap.size := fun e => by have := ((hT.2.2.2.1 _ (bki_lt p s d a b)).lt _ e).2; omega
    go_upto_region 9 with fail
    refine anyT_begin (R := But (fun g => g = bt ∨ (vs[bki p s d a b]?.getD undef).ownBlock = some g)) 13 rfl (by kernel_rfl) ?_
    have ld : Later V2 V2.drew := Later.drew V2
    have td := later_keep ld t3
    have LD := L3.trans ld
    generalize V2.drew = Wd at *
    have hq : ∀ v1, But (fun g => g = bt ∨ (vs[bki p s d a b]?.getD undef).ownBlock = some g) Wd v1 → ∀ j, v1.cell? ⟨w.heap.size, j, none⟩ = #[Value.int .u8 p, .int .u32 s, .int .u32 d, .int .u16 a, .int .u16 b][j]? := fun v1 hv => block_cell ((hv.block w.heap.size (bl9 td) (fun hE => hE.elim hnb hnv)).trans td)
    refine tV (But.pre _) 0 rfl rfl ⟨_, fun v h => by (go_simp; rfl), ?_⟩; simp only [Act.put, sA, sB, sC]
    refine tV (But.pre _) 1 rfl rfl ⟨_, fun v h => by (go_simp; rfl), ?_⟩; simp only [Act.put, sA, sB, sC]
    refine tV (But.pre _) 2 rfl rfl ⟨_, fun v h => by (go_simp; rfl), ?_⟩; simp only [Act.put, sA, sB, sC]
    refine tV (But.pre _) 3 rfl rfl ⟨_, fun v h => by (go_simp; rfl), ?_⟩; simp only [Act.put, sA, sB, sC]
    refine tV (But.pre _) 5 rfl rfl ⟨_, fun v h => by (go_simp; rfl), ?_⟩; simp only [Act.put, sA, sB, sC]
    refine tV (But.pre _) 7 rfl rfl ⟨_, fun v h => by (go_simp; rfl), ?_⟩; simp only [Act.put, sA, sB, sC]
    refine tV (But.pre _) 8 rfl rfl ⟨_, fun v h => by (go_simp; rfl), ?_⟩; simp only [Act.put, sA, sB, sC]
    refine tV (But.pre _) 9 rfl rfl ⟨_, fun v h => by (go_simp; rfl), ?_⟩; simp only [Act.put, sA, sB, sC]
    clear hq
    refine anyT_one 4 rfl (by kernel_rfl) rfl ?_
    refine wp_enter 137 #[.agg #[.int .u8 p, .int .u32 s, .int .u32 d, .int .u16 a, .int .u16 b]] (by go_simp) ?_
    refine (hash_any p s d a b Wd hs hd ha hb).mono ?_
    rintro e W1 ⟨rfl, hb1⟩
    have k1 : Later Wd W1 := hb1
    refine ⟨But.of k1, ?_⟩
    simp only [Act.put, sA, sB, sC]
    refine anyT_one 6 rfl (by kernel_rfl) rfl ?_
    refine wp_enter 76 #[.agg #[.int .u8 p, .int .u32 s, .int .u32 d, .int .u16 a, .int .u16 b]] (by go_simp) ?_
    refine (key_any p s d a b W1).mono ?_
    rintro e W2 ⟨rfl, hb2'⟩
    have k2 : Later W1 W2 := hb2'
    refine ⟨But.of k2, ?_⟩
    simp only [Act.put, sA, sB, sC]
    have LW2 := LD.trans (k1.trans k2)
    refine anyT_one 10 rfl (by kernel_rfl) rfl ?_
    refine wp_enter 239 #[.pointer (some ⟨bt, 0, none⟩)] (by go_simp) ?_
    refine (turn_any base bt lim cnt trn vs ls W2 (hT.later LW2) htr).mono ?_
    rintro e W3 ⟨rfl, hb3, hT4⟩
    have hb3' : But (fun g => g = bt ∨ (vs[bki p s d a b]?.getD undef).ownBlock = some g) W2 W3 := ⟨hb3.os, hb3.tape, hb3.output, hb3.size, fun k hk he => hb3.block k hk (fun e => he (.inl e))⟩
    refine ⟨hb3', ?_⟩
    simp only [Act.put, sA, sB, sC]
    refine tV (But.pre _) 11 rfl rfl ⟨_, fun v h => by (go_simp; rfl), ?_⟩; simp only [Act.put, sA, sB, sC]
    refine anyT_one 12 rfl (by kernel_rfl) rfl ?_
    refine wp_enter 280 #[.pointer (some ⟨bt, 3, none⟩), .int .u32 (hsh (tb p s d (kyp p a) b)), .agg #[.int .u8 p, .int .u32 s, .int .u32 d, .int .u16 (kyp p a), .int .u16 b, .int .i64 id, .int .i64 till, .int .i64 (trn + 1)]] (by go_simp) ?_
    refine (tadd_any base bt lim cnt (trn + 1) vs ls (hsh (tb p s d (kyp p a) b)) (bki p s d a b) p s d (kyp p a) b id till (trn + 1) W3 hT4 (hsh_tb _ _ _ _ _) rfl hln (Nat.le_trans (Nat.le_trans hbs LW2.size) hb3.size)).mono ?_
    rintro e W4 ⟨rfl, ⟨vs4, hT5⟩, hb4⟩
    refine ⟨hb4, ?_⟩
    simp only [Act.put, sA, sB, sC]
    refine anyT_done (by kernel_rfl) ?_
    have hbt : But (fun g => g = bt ∨ (vs[bki p s d a b]?.getD undef).ownBlock = some g) w W4 := (But.of LW2).trans (hb3'.trans hb4)
    have hh5 := hT5.2.2.1
    have c1 : W4.cell? ⟨bt, 1, none⟩ = some (.int .i64 cnt) := by rw [block_cell hh5]; rfl
    have f1 := block_frozen hh5 1
    have hst := heap_set1 hh5 1 (.int .i64 (cnt + 1))
    have hb5 : But (fun g => g = bt) W4 (W4.setCell ⟨bt, 1, none⟩ (.int .i64 (cnt + 1))) := (But.refl (fun g => g = bt) _).setCell (p := ⟨bt, 1, none⟩) rfl _
    have hb5' : But (fun g => g = bt ∨ (vs[bki p s d a b]?.getD undef).ownBlock = some g) W4 (W4.setCell ⟨bt, 1, none⟩ (.int .i64 (cnt + 1))) := ⟨hb5.os, hb5.tape, hb5.output, hb5.size, fun k hk he => hb5.block k hk (fun e => he (.inl e))⟩
    have hT6 := hT5.but (c2 := cnt + 1) hb5 (by simpa using hst)
    have HT6 := hide hT6
    have HB6 := hide (hbt.trans hb5')
    clear hT6 hb5 hb5' hst hh5 hT5
    go_wp2_with fail
    go_ret
    exact ⟨by rw [HQ.out]; rfl, .inr ⟨HQ.out, ⟨_, HT6.out⟩, HB6.out⟩⟩
  ·have l2 : Later w1 w2 := hb2
   have HQ : Hid (pute lim cnt ls p s d a b till = 10) := by show _ = _; unfold pute; rw [hm, hk]; simp
   have L2 := lb0.trans l2
   have hT2 := hT.later L2
   clear hm hk hv
   go_wp2_with fail
   go_ret
   exact ⟨by rw [HQ.out]; rfl, .inl ⟨by rw [HQ.out]; decide, hT2, L2⟩⟩
def cmpv (x y : Int) : Int := if x < y then -1 else if y < x then 1 else 0
theorem nan_any (x : Int) (w : World) : Calls Tryz.prog 174 #[.int .i64 x] w fun e w' => e = .returned (.bool false) ∧ w' = w := by
 go_enter Tryz.func174, Tryz.ntmps174
 go_wp2_with fail
 go_ret
 exact ⟨rfl, rfl⟩
theorem compare_any (x y : Int) (w : World) : Calls Tryz.prog 134 #[.int .i64 x, .int .i64 y] w fun e w' => e = .returned (.int .i64 (cmpv x y)) ∧ w' = w := by
 by_cases h1 : x < y
 ·have HM : Hid (cmpv x y = -1) := by show _ = _; unfold cmpv; rw [if_pos h1]
  go_enter Tryz.func134, Tryz.ntmps134
  go_wp2_with fail
  refine (nan_any x w).mono ?_
  rintro e w1 ⟨rfl, rfl⟩
  go_wp2_with fail
  refine (nan_any y w1).mono ?_
  rintro e w2 ⟨rfl, rfl⟩
  go_wp2_with fail
  go_ret
  exact ⟨by rw [HM.out]; rfl, rfl⟩
 ·by_cases h2 : y < x
  ·have HM : Hid (cmpv x y = 1) := by show _ = _; unfold cmpv; rw [if_neg h1, if_pos h2]
   go_enter Tryz.func134, Tryz.ntmps134
   go_wp2_with fail
   refine (nan_any x w).mono ?_
   rintro e w1 ⟨rfl, rfl⟩
   go_wp2_with fail
   refine (nan_any y w1).mono ?_
   rintro e w2 ⟨rfl, rfl⟩
   go_wp2_with fail
   go_ret
   exact ⟨by rw [HM.out]; rfl, rfl⟩
  ·have HM : Hid (cmpv x y = 0) := by show _ = _; unfold cmpv; rw [if_neg h1, if_neg h2]
   go_enter Tryz.func134, Tryz.ntmps134
   go_wp2_with fail
   refine (nan_any x w).mono ?_
   rintro e w1 ⟨rfl, rfl⟩
   go_wp2_with fail
   refine (nan_any y w1).mono ?_
   rintro e w2 ⟨rfl, rfl⟩
   go_wp2_with fail
   go_ret
   exact ⟨by rw [HM.out]; rfl, rfl⟩
def orv (x y : Int) : Int := if x = 0 then y else x
def ORI (x y : Int) (i : Value) : Prop := i = .int .i64 0 ∨ (i = .int .i64 1 ∧ x = 0) ∨ (i = .int .i64 2 ∧ x = 0 ∧ y = 0)
theorem or_two (g : Nat) (x y : Int) (w : World) (hg : w.heap[g]? = some (.cells #[.int .i64 x, .int .i64 y] 3 (0, 0))) : Calls Tryz.prog 133 #[.slice (some ⟨g, 0, none⟩) 2 2] w fun e w' => e = .returned (.int .i64 (orv x y)) ∧ w' = w := by
 have kg := block_cell hg
 have k0 : w.cell? ⟨g, 0, none⟩ = some (.int .i64 x) := by rw [kg]; rfl
 have k1 : w.cell? ⟨g, 1, none⟩ = some (.int .i64 y) := by rw [kg]; rfl
 clear kg hg
 go_enter Tryz.func133, Tryz.ntmps133
 go_wp2_with fail
 go_loopw [8] (fun i wr => wr = w ∧ ORI x y i) (fun i _ => 2 - (intOf i).toNat)
 case atStart => exact ⟨rfl, .inl rfl⟩
 case round =>
  obtain ⟨rfl, rfl | ⟨rfl, hx⟩ | ⟨rfl, hx, hy⟩⟩ := hrel
  ·by_cases hx : x = 0
   ·have HX := hide hx
    subst hx
    go_wp2_with fail
    go_roundw
    case rel => exact ⟨by first | rfl | trivial, .inr (.inl ⟨by go_num, rfl⟩)⟩
    case measure => simp [intOf]
   ·have HX : Hid (orv x y = x) := by show _ = _; unfold orv; rw [if_neg hx]
    go_wp2_with fail
    go_ret
    exact ⟨by rw [HX.out]; rfl, rfl⟩
  ·subst hx
   have HX : Hid (orv 0 y = y) := rfl
   by_cases hy : y = 0
   ·subst hy
    go_wp2_with fail
    go_roundw
    case rel => exact ⟨by first | rfl | trivial, .inr (.inr ⟨by go_num, rfl, rfl⟩)⟩
    case measure => simp [intOf]
   ·go_wp2_with fail
    go_ret
    exact ⟨by rw [HX.out]; rfl, rfl⟩
  ·subst hx
   subst hy
   go_wp2_with fail
   go_ret
   exact ⟨rfl, rfl⟩
def ordv (r q : Rw) : Int := orv (cmpv r.till q.till) (cmpv r.turn q.turn)
theorem inOrder_any (r q : Rw) (w : World) : Calls Tryz.prog 74 #[.agg (rwc r).toArray, .agg (rwc q).toArray] w fun e w' => e = .returned (.int .i64 (ordv r q)) ∧ Below w.heap.size w w' := by
 obtain ⟨p, s, d, a, b, id, till, turn⟩ := r
 obtain ⟨p2, s2, d2, a2, b2, id2, till2, turn2⟩ := q
 have HO : Hid (ordv ⟨p, s, d, a, b, id, till, turn⟩ ⟨p2, s2, d2, a2, b2, id2, till2, turn2⟩ = orv (cmpv till till2) (cmpv turn turn2)) := rfl
 unfold rwc
 have hb0 : Below w.heap.size w ((w.alloc (.cells #[.int .u8 p, .int .u32 s, .int .u32 d, .int .u16 a, .int .u16 b, .int .i64 id, .int .i64 till, .int .i64 turn] 177)).alloc (.cells #[.int .u8 p2, .int .u32 s2, .int .u32 d2, .int .u16 a2, .int .u16 b2, .int .i64 id2, .int .i64 till2, .int .i64 turn2] 177)) := ((Below.refl _ _).alloc (Nat.le_refl _) _).alloc (by simp) _
 have t0 := (Below.heap_alloc (w.alloc (.cells #[.int .u8 p, .int .u32 s, .int .u32 d, .int .u16 a, .int .u16 b, .int .i64 id, .int .i64 till, .int .i64 turn] 177)) (.cells #[.int .u8 p2, .int .u32 s2, .int .u32 d2, .int .u16 a2, .int .u16 b2, .int .i64 id2, .int .i64 till2, .int .i64 turn2] 177) w.heap.size (by simp)).trans (heap_alloc_new w _)
 have t1 := heap_alloc_new (w.alloc (.cells #[.int .u8 p, .int .u32 s, .int .u32 d, .int .u16 a, .int .u16 b, .int .i64 id, .int .i64 till, .int .i64 turn] 177)) (.cells #[.int .u8 p2, .int .u32 s2, .int .u32 d2, .int .u16 a2, .int .u16 b2, .int .i64 id2, .int .i64 till2, .int .i64 turn2] 177)
 rw [World.size_alloc] at t1
 go_enter Tryz.func74, Tryz.ntmps74
 go_upto_region 1 with fail
 generalize (w.alloc (.cells #[.int .u8 p, .int .u32 s, .int .u32 d, .int .u16 a, .int .u16 b, .int .i64 id, .int .i64 till, .int .i64 turn] 177)).alloc (.cells #[.int .u8 p2, .int .u32 s2, .int .u32 d2, .int .u16 a2, .int .u16 b2, .int .i64 id2, .int .i64 till2, .int .i64 turn2] 177) = w0 at *
 refine anyR_begin (R := Later) Later.pre Later.drew 13 rfl (by kernel_rfl) (fun V1 hV1 => ?_)
 have q0 : ∀ v1, Later V1 v1 → ∀ i, v1.cell? ⟨w.heap.size, i, none⟩ = #[Value.int .u8 p, .int .u32 s, .int .u32 d, .int .u16 a, .int .u16 b, .int .i64 id, .int .i64 till, .int .i64 turn][i]? := fun v1 h => block_cell (later_keep (hV1.trans h) t0)
 have q1 : ∀ v1, Later V1 v1 → ∀ i, v1.cell? ⟨w.heap.size + 1, i, none⟩ = #[Value.int .u8 p2, .int .u32 s2, .int .u32 d2, .int .u16 a2, .int .u16 b2, .int .i64 id2, .int .i64 till2, .int .i64 turn2][i]? := fun v1 h => block_cell (later_keep (hV1.trans h) t1)
 refine rV Later.pre 0 rfl rfl ⟨_, fun v h => by (go_simp; rfl), ?_⟩; simp only [Act.put, sA, sB, sC]
 refine rV Later.pre 1 rfl rfl ⟨_, fun v h => by (go_simp; rfl), ?_⟩; simp only [Act.put, sA, sB, sC]
 refine rV Later.pre 2 rfl rfl ⟨_, fun v h => by (go_simp; rfl), ?_⟩; simp only [Act.put, sA, sB, sC]
 refine rV Later.pre 3 rfl rfl ⟨_, fun v h => by (go_simp; rfl), ?_⟩; simp only [Act.put, sA, sB, sC]
 refine rV Later.pre 5 rfl rfl ⟨_, fun v h => by (go_simp; rfl), ?_⟩; simp only [Act.put, sA, sB, sC]
 refine rV Later.pre 6 rfl rfl ⟨_, fun v h => by (go_simp; rfl), ?_⟩; simp only [Act.put, sA, sB, sC]
 refine rV Later.pre 7 rfl rfl ⟨_, fun v h => by (go_simp; rfl), ?_⟩; simp only [Act.put, sA, sB, sC]
 refine rV Later.pre 8 rfl rfl ⟨_, fun v h => by (go_simp; rfl), ?_⟩; simp only [Act.put, sA, sB, sC]
 clear q0 q1
 refine anyR_take Later.pre 4 (.int .i64 (cmpv till till2)) rfl (by kernel_rfl) (by kernel_rfl) (by kernel_rfl) (fun _ _ _ h => h) rfl (fun w1 hw1 => goes_call 134 #[.int .i64 till, .int .i64 till2] (by go_simp) ((compare_any till till2 w1).mono fun e w2 h => ⟨h.1, by rw [h.2]; exact Below.refl _ _⟩)) ?_
 simp only [Act.put, sA, sB, sC]
 refine anyR_take Later.pre 9 (.int .i64 (cmpv turn turn2)) rfl (by kernel_rfl) (by kernel_rfl) (by kernel_rfl) (fun _ _ _ h => h) rfl (fun w1 hw1 => goes_call 134 #[.int .i64 turn, .int .i64 turn2] (by go_simp) ((compare_any turn turn2 w1).mono fun e w2 h => ⟨h.1, by rw [h.2]; exact Below.refl _ _⟩)) ?_
 simp only [Act.put, sA, sB, sC]
 generalize hx : cmpv till till2 = x at *
 generalize hy : cmpv turn turn2 = y at *
 have HX := hide hx
 have HY := hide hy
 clear hx hy
 refine anyR_one 10 rfl (by kernel_rfl) rfl (fun V2 hV2 => ?_)
 unfold Oper.wp
 go_simp
 have la : Later V2 (V2.alloc (.cells #[.int .i64 x, .int .i64 y] 3)) := (Below.refl _ _).alloc (Nat.le_refl _) _
 have ga := heap_alloc_new V2 (.cells #[.int .i64 x, .int .i64 y] 3)
 refine ⟨la, ?_⟩
 generalize V2.alloc (.cells #[.int .i64 x, .int .i64 y] 3) = V3 at *
 refine anyR_one 11 rfl (by kernel_rfl) rfl (fun V4 hV4 => ?_)
 refine wp_enter 133 #[.slice (some ⟨V2.heap.size, 0, none⟩) 2 2] (by go_simp) ?_
 refine (or_two V2.heap.size x y V4 (later_keep hV4 ga)).mono ?_
 rintro e V5 ⟨rfl, rfl⟩
 refine ⟨Below.refl _ _, ?_⟩
 simp only [Act.put, sA, sB, sC]
 generalize hz : orv x y = z at *
 have HZ := hide hz
 clear hz
 refine rV Later.pre 12 rfl rfl ⟨_, fun v h => by (go_simp; rfl), ?_⟩; simp only [Act.put, sA, sB, sC]
 refine anyR_done (by kernel_rfl) (fun V6 hV6 => ?_)
 have l6 : Later w0 V6 := (hV1.trans hV2).trans (la.trans (hV4.trans hV6))
 go_wp2_with fail
 go_ret
 exact ⟨by rw [HO.out]; rfl, hb0.trans (l6.mono hb0.size)⟩
theorem len64_few (n : Nat) (w : World) (hn : n ≤ 12) : Calls Tryz.prog 173 #[.int .u64 (n : Int)] w fun e w' => (∃ v, e = .returned (.int .i64 v)) ∧ w' = w := by
 have hc : n = 0 ∨ n = 1 ∨ n = 2 ∨ n = 3 ∨ n = 4 ∨ n = 5 ∨ n = 6 ∨ n = 7 ∨ n = 8 ∨ n = 9 ∨ n = 10 ∨ n = 11 ∨ n = 12 := by omega
 clear hn
 rcases hc with rfl | rfl | rfl | rfl | rfl | rfl | rfl | rfl | rfl | rfl | rfl | rfl | rfl
 all_goals
  go_enter Tryz.func173, Tryz.ntmps173
  go_wp2_with fail
  go_ret
  exact ⟨⟨_, rfl⟩, rfl⟩
theorem len_few (n : Nat) (w : World) (hn : n ≤ 12) : Calls Tryz.prog 132 #[.int .u64 (n : Int)] w fun e w' => (∃ v, e = .returned (.int .i64 v)) ∧ w' = w := by
 go_enter Tryz.func132, Tryz.ntmps132
 go_wp2_with fail
 refine (len64_few n w hn).mono ?_
 rintro e w1 ⟨⟨v, rfl⟩, rfl⟩
 go_wp2_with fail
 go_ret
 exact ⟨⟨_, rfl⟩, rfl⟩
attribute [local go_sem] Oper.semAt_some
def allR (ls : Nat → List Rw) : List Rw := (List.range 256).flatMap ls
def partR (ls : Nat → List Rw) (i : Nat) : List Rw := (List.range i).flatMap ls
theorem partR_succ (ls : Nat → List Rw) (i : Nat) : partR ls (i + 1) = partR ls i ++ ls i := by
 unfold partR
 rw [List.range_succ, List.flatMap_append]
 simp
theorem allR_at (ls : Nat → List Rw) (i k : Nat) (hi : i < 256) (hk : k < (ls i).length) : ∃ rest, (partR ls i ++ (ls i).take k) ++ (ls i)[k] :: rest = allR ls := by
 obtain ⟨m, hm⟩ : ∃ m, 256 = i + 1 + m := ⟨255 - i, by omega⟩
 have e : allR ls = partR ls (i + 1) ++ ((List.range m).map (i + 1 + ·)).flatMap ls := by
  unfold allR partR
  rw [hm, List.range_add, List.flatMap_append]
 refine ⟨(ls i).drop (k + 1) ++ ((List.range m).map (i + 1 + ·)).flatMap ls, ?_⟩
 rw [e, partR_succ]
 have h2 : ls i = (ls i).take k ++ (ls i)[k] :: (ls i).drop (k + 1) := by
  rw [← List.drop_eq_getElem_cons hk, List.take_append_drop]
 rw [List.append_assoc, List.append_assoc]
 congr 1
 rw [← List.cons_append, ← List.append_assoc, ← h2]
def encR (r : Rw) : Array Value := #[.agg (rwc r).toArray]
def XR (ls : Nat → List Rw) (pre : List Rw) (x : Rw) (_V : World) : Prop := ∃ rest, pre ++ x :: rest = allR ls
theorem wpListIn_valD {F : Fence} {n : Nat} {P : Program} {ops : Array Oper} {rest : List Oper} {o : Oper} {a : Act} {Q : Exit → Act → World → Prop} {w : World} (k : Nat) (hd : o.dst = some k) (hg : o.guard = none) (v : Value) (ha : o.about P w a.eval = none) (h : (o.semAt F.round a.eval).run P w = .ok (.value v) w)
  (hk : wpListIn F n P ops Q rest (a.put o.dst v) w) : wpListIn F n P ops Q (o :: rest) a w := wpListIn_plain hg fun K hK => by unfold Oper.wpIn; rw [h]; exact ⟨fun f hf => (by rw [ha] at hf; cases hf), hK _ _ hk⟩
theorem idx_arr (vs : List Value) (i : Nat) (w : World) (hv : vs.length = 256) (hi : i < 256) : (Instr.index 138 (.agg vs.toArray) (.int .i64 (i : Int))).run Tryz.prog w = .ok (vs[i]?.getD undef) w := by
 have h1 : (i : Int) < 256 := by omega
 have h2 : i < vs.length := by omega
 simp [Instr.index, go_sem, h1, h2, hv, hi]
theorem all1_in (n : Nat) (hn : 1 ≤ n) (l B bt n₀ : Nat) (vs : List Value) (ls : Nat → List Rw) (hv : vs.length = 256) (J Jx : List Rw → World → Prop)
  (hJ : ∀ s A B, J s A → Later A B → J s B)
  (hY : ∀ pre x V, J pre V → XR ls pre x V → YieldAt Fence.wide (n - 1) Tryz.prog l (encR x) V fun e V' => (e = .returned (.bool true) ∧ J (pre ++ [x]) V' ∧ Below n₀ V V') ∨ (e = .returned (.bool false) ∧ Jx (pre ++ [x]) V'))
  (W : World) (hB : W.cell? ⟨B, 0, none⟩ = some (.pointer (some ⟨bt, 3, none⟩))) (hn0 : n₀ ≤ W.heap.size) (hc : ∀ i, i < 256 → W.cell? ⟨bt, 3 + i, none⟩ = some (vs[i]?.getD undef)) (hR : ∀ i, i < 256 → RdR n₀ W (vs[i]?.getD undef) (ls i)) (h0 : J [] W) :
  CallsIn Fence.wide n Tryz.prog 130 #[.func (.yield l) #[] #[], .pointer (some ⟨B, 0, none⟩)] W fun e W' => (∃ v, e = .returned v) ∧ ((∃ xs, xs = allR ls ∧ J xs W') ∨ (∃ pre, True ∧ Jx pre W')) := by
 have hra : W.rangeAt bt 3 vs := fun j v hj => by
  have hlt : j < 256 := by have := (List.getElem?_eq_some_iff.1 hj).1; omega
  rw [hc j hlt, hj]; rfl
 have hL : (Instr.loadAt 138 (.pointer (some ⟨bt, 3, none⟩))).run Tryz.prog W = .ok (.agg vs.toArray) W := run_loadAt_mid W bt 3 _ vs _ hra Tryz.underlying138 rfl (by rw [hv]; kernel_rfl)
 have HC := hide hc
 have HR := hide hR
 have HL := hide hL
 clear hc hR hra hL
 refine callsIn_of_wp Tryz.func130 rfl trivial ?_ rfl
 simp only [Tryz.ntmps130, List.size_toArray, List.length_cons, List.length_nil, Nat.reduceAdd, Nat.reduceSub, Array.replicate_succ, Array.replicate_zero, List.push_toArray, List.append_toArray, List.nil_append, List.cons_append]
 gi_wp2_with (refine wpListIn_valD 10 rfl rfl (.agg vs.toArray) rfl (by go_loud (show Sem.run _ (Instr.loadAt 138 (.pointer (some ⟨bt, 3, none⟩)) >>= fun v => pure (Next.value v)) _ = _; rw [Sem.run_bind, HL.out]; rfl)) ?_)
 gi_loopw [11] (fun i wr => ∃ p : Nat, p ≤ 256 ∧ i = .int .i64 (p : Int) ∧ J (partR ls p) wr ∧ Below n₀ W wr) (fun i _ => 256 - (intOf i).toNat)
 case atStart => exact ⟨0, by omega, rfl, h0, Below.refl _ _⟩
 case round =>
  obtain ⟨p, hp, rfl, hJp, hbp⟩ := hrel
  by_cases hlt : p < 256
  ·have hlt' : (p : Int) < 256 := by omega
   have hRp := (HR.out p hlt).below hbp
   have hix := idx_arr vs p wr hv hlt
   generalize hvp : vs[p]?.getD undef = v at *
   obtain ⟨sa, cap, rfl, hc1, hc2⟩ := hRp.slice
   have HIX := hide hix
   have HRP := hide hRp
   have HVP := hide hvp
   clear hvp hix hRp
   gi_wp2_with (refine wpListIn_valD 13 rfl rfl (.slice sa (ls p).length cap) rfl (by go_loud (show Sem.run _ (Instr.index 138 (.agg vs.toArray) (.int .i64 (p : Int)) >>= fun v => pure (Next.value v)) _ = _; rw [Sem.run_bind, HIX.out]; rfl)) ?_)
   rename World => w1
   gi_loopw [16] (fun i wx => ∃ k : Nat, k ≤ (ls p).length ∧ i = .int .i64 (k : Int) ∧ J (partR ls p ++ (ls p).take k) wx ∧ Below n₀ W wx) (fun i _ => (ls p).length - (intOf i).toNat)
   case atStart => exact ⟨0, by omega, rfl, by rw [List.take_zero, List.append_nil]; exact hJp, hbp⟩
   case round =>
    obtain ⟨k, hk, rfl, hJk, hbk⟩ := hrel
    by_cases hkl : k < (ls p).length
    ·obtain ⟨g, off, cp, e, _, _, hgn, hcs⟩ := ((HR.out p hlt).below hbk |> fun h => show RdR n₀ wr (.slice sa (ls p).length cap) (ls p) from HVP.out ▸ h).cells (by omega)
     simp at e
     obtain ⟨rfl, rfl⟩ := e
     have c0 := hcs k hkl 0 (by omega)
     have c1 := hcs k hkl 1 (by omega)
     have c2 := hcs k hkl 2 (by omega)
     have c3 := hcs k hkl 3 (by omega)
     have c4 := hcs k hkl 4 (by omega)
     have c5 := hcs k hkl 5 (by omega)
     have c6 := hcs k hkl 6 (by omega)
     have c7 := hcs k hkl 7 (by omega)
     have hkl' : (k : Int) < (ls p).length := by omega
     have hat := allR_at ls p k hlt hkl
     have htk : partR ls p ++ (ls p).take (k + 1) = partR ls p ++ (ls p).take k ++ [(ls p)[k]] := by rw [List.append_assoc, List.take_append_getElem hkl]
     clear hcs
     generalize hgo : (ls p)[k] = r at *
     have HAT := hide hat
     have HTK := hide htk
     clear hgo hat htk
     simp only [rwc, List.getElem?_cons_zero, List.getElem?_cons_succ, Nat.add_zero] at c0 c1 c2 c3 c4 c5 c6 c7
     have la : Later wr (wr.alloc (.cells #[.int .u8 r.p, .int .u32 r.s, .int .u32 r.d, .int .u16 r.a, .int .u16 r.b, .int .i64 r.id, .int .i64 r.till, .int .i64 r.turn] 177)) := (Below.refl _ _).alloc (Nat.le_refl _) _
     obtain ⟨fn, tmps, assign, body, hy, hR⟩ := hY _ r _ (hJ _ _ _ hJk la) HAT.out
     dsimp only [encR, rwc] at hy
     have hwr := Nat.le_trans hn0 hbk.size
     gi_wp2
     refine hR.mono ?_
     rintro e W3 (⟨rfl, hJ3, hk3⟩ | ⟨rfl, hJx3⟩)
     ·gi_wp2
      go_roundw
      case rel => exact ⟨k + 1, by omega, by go_num, by rw [HTK.out]; exact hJ3, hbk.trans ((la.mono hwr).trans hk3)⟩
      case measure => simp [intOf]; omega
     ·gi_wp2
      refine bodyPost_ret (results_none rfl _ _ _) rfl ?_
      exact ⟨⟨_, rfl⟩, .inr ⟨_, trivial, hJx3⟩⟩
    ·obtain rfl : k = (ls p).length := by omega
     gi_wp2
     go_roundw
     case rel => exact ⟨p + 1, by omega, by go_num, by rw [partR_succ]; rw [List.take_length] at hJk; exact hJk, hbk⟩
     case measure => simp [intOf]; omega
  ·obtain rfl : p = 256 := by omega
   gi_wp2
   go_end0
   exact ⟨⟨_, rfl⟩, .inl ⟨_, rfl, hJp⟩⟩
theorem all_gen (n : Nat) (hn : 1 ≤ n) (B bt n₀ base : Nat) (lim cnt trn : Int) (vs : List Value) (ls : Nat → List Rw) (w0 w : World) (hT : TBv base w0 bt lim cnt trn vs ls) (hn0 : n₀ = w0.heap.size) (hw : Later w0 w) (hBl : B < w.heap.size) (hB : w.cell? ⟨B, 0, none⟩ = some (.pointer (some ⟨bt, 3, none⟩))) :
  GenX Fence.wide n Tryz.prog 130 #[.pointer (some ⟨B, 0, none⟩)] encR (Below n₀) (XR ls) (fun xs => xs = allR ls) (fun _ => True) w := fun l J Jx W hW hJ hY h0 => by
 subst hn0
 have hwW : Later w0 W := hw.trans hW
 have hTW := hT.later hwW
 exact all1_in n hn l B bt w0.heap.size vs ls hT.1 J Jx hJ hY W ((hW.cell (p := ⟨B, 0, none⟩) hBl).trans hB) hwW.size (fun i hi => hTW.cell i hi) (fun i hi => (ownR_rd (hT.2.2.2.1 i hi)).below hwW) h0
theorem insert_one (sv : Value) (n : Nat) (f : Value) (w : World) (hn : n ≤ 1) : Calls Tryz.prog 164 #[sv, .int .i64 0, .int .i64 (n : Int), f] w fun e w' => (∃ v, e = .returned v) ∧ w' = w := by
 go_enter Tryz.func164, Tryz.ntmps164
 go_wp2_with fail
 go_loopw [8] (fun i wr => i = .int .i64 1 ∧ wr = w) (fun _ _ => 0)
 case atStart => exact ⟨rfl, rfl⟩
 case round =>
  obtain ⟨rfl, rfl⟩ := hrel
  have h1 : ¬ (1 : Int) < (n : Int) := by omega
  go_wp2_with fail
  go_end0
  exact ⟨⟨_, rfl⟩, rfl⟩
theorem pdq_one (sv : Value) (n : Nat) (lm : Int) (f : Value) (w : World) (hn : n ≤ 1) : Calls Tryz.prog 131 #[sv, .int .i64 0, .int .i64 (n : Int), .int .i64 lm, f] w fun e w' => (∃ v, e = .returned v) ∧ w' = w := by
 have h1 : (n : Int) ≤ 12 := by omega
 go_enter Tryz.func131, Tryz.ntmps131
 go_wp2_with fail
 go_loopw [1, 2] (fun a b wr => a = .int .i64 0 ∧ b = .int .i64 (n : Int) ∧ wr = w) (fun _ _ _ => 0)
 case atStart => exact ⟨rfl, rfl, rfl⟩
 case round =>
  obtain ⟨rfl, rfl, rfl⟩ := hrel
  go_wp2_with fail
  refine (insert_one sv n f wr hn).mono ?_
  rintro e w1 ⟨⟨v, rfl⟩, rfl⟩
  go_wp2_with fail
  refine bodyPost_ret (results_none rfl _ _ _) rfl ?_
  exact ⟨⟨_, rfl⟩, rfl⟩
theorem sort_one (a : Option Addr) (n cap : Nat) (f : Value) (w : World) (hn : n ≤ 1) : Calls Tryz.prog 73 #[.slice a n cap, f] w fun e w' => (∃ v, e = .returned v) ∧ w' = w := by
 have h1 : (n : Int) ≤ 12 := by omega
 go_enter Tryz.func73, Tryz.ntmps73
 go_wp2_with fail
 refine (len_few n w (by omega)).mono ?_
 rintro e w1 ⟨⟨v, rfl⟩, rfl⟩
 go_wp2_with fail
 refine (pdq_one (.slice a n cap) n v f w1 hn).mono ?_
 rintro e w2 ⟨⟨v2, rfl⟩, rfl⟩
 go_wp2_with fail
 go_end0
 exact ⟨⟨_, rfl⟩, rfl⟩
attribute [local go_sem] Oper.semAt_some
theorem all_in (n bt : Nat) (w : World) :
  CallsIn Fence.wide n Tryz.prog 72 #[.pointer (some ⟨bt, 3, none⟩)] w fun e w' => e = .returned (.func (.func 130) #[] #[.pointer (some ⟨w.heap.size, 0, none⟩)]) ∧ w' = w.alloc (.cells #[.pointer (some ⟨bt, 3, none⟩)] 235) := by
 refine callsIn_of_wp Tryz.func72 rfl trivial ?_ rfl
 simp only [Tryz.ntmps72, List.size_toArray, List.length_cons, List.length_nil, Nat.reduceAdd, Nat.reduceSub, Array.replicate_succ, Array.replicate_zero, List.push_toArray, List.append_toArray, List.nil_append, List.cons_append]
 gi_wp2
 go_ret
 exact ⟨rfl, rfl⟩
def duR (now : Int) (l : List Rw) : List Rw := l.filter fun r => decide (r.till ≤ now)
theorem duR_yes {now : Int} {l : List Rw} {r : Rw} (h : r.till ≤ now) : duR now (l ++ [r]) = duR now l ++ [r] := by unfold duR; rw [List.filter_append]; simp [h]
theorem duR_no {now : Int} {l : List Rw} {r : Rw} (h : ¬ r.till ≤ now) : duR now (l ++ [r]) = duR now l := by unfold duR; rw [List.filter_append]; simp [h]
theorem duR_length (now : Int) (l : List Rw) : (duR now l).length ≤ l.length := List.length_filter_le _ _
theorem rws_snoc (l : List Rw) (r : Rw) : rws (l ++ [r]) = rws l ++ rwc r := by unfold rws; simp
def CTy (A B : World) : Prop := A.heap.size ≤ B.heap.size ∧ ∀ (k : Nat) (o : Obj), A.heap[k]? = some o → o.isCells = true → B.heap[k]? = some o
theorem CTy.of {A B : World} (h : Later A B) : CTy A B := ⟨h.size, fun k o ho _ => later_keep h ho⟩
theorem CTy.row {A B : World} {row : Option Nat} (hg : A.grownBy B row) (hr : ∀ r, row = some r → ∃ o : Obj, A.heap[r]? = some o ∧ o.isCells = false) : CTy A B :=
 ⟨hg.size, fun k o ho hc => (hg.block k (bl9 ho) (fun e => by obtain ⟨o', h1, h2⟩ := hr k e.symm; rw [ho] at h1; cases h1; rw [hc] at h2; cases h2)).trans ho⟩
theorem CTy.put {A : World} {l : Nat} {o o' : Obj} (h : A.heap[l]? = some o) (hc : o.isCells = false) : CTy A (A.putObj l o') :=
 CTy.row (grownBy_putObj' A l o') (fun r e => by cases e; exact ⟨o, h, hc⟩)
theorem ownsR_ct {base : Nat} {e : TypeId} {size : Nat} {A B : World} {v : Value} {n : Nat} {xs : List Value} (h : A.ownsRow base e size v n xs) (c : CTy A B) : B.ownsRow base e size v n xs := by
 obtain ⟨h1, h2 | ⟨g, cap, cur, hv, hg, hh, r⟩⟩ := h
 ·exact ⟨h1, .inl h2⟩
 ·exact ⟨h1, .inr ⟨g, cap, cur, hv, hg, c.2 _ _ hh rfl, r⟩⟩
def PD (rb base : Nat) (now : Int) (pre : List Rw) (W : World) : Prop :=
 (∃ v, W.heap[rb + 1]? = some (.cells #[v] 137 (0, 0)) ∧ W.ownsRow base 177 8 v (duR now pre).length (rws (duR now pre))) ∧ W.heap[rb]? = some (.cells #[.int .i64 now] 3 (0, 0))
theorem PD.ct {rb base : Nat} {now : Int} {pre : List Rw} {A B : World} (h : PD rb base now pre A) (c : CTy A B) : PD rb base now pre B := by
 obtain ⟨⟨v, h1, h2⟩, h3⟩ := h
 exact ⟨⟨v, c.2 _ _ h1 rfl, ownsR_ct h2 c⟩, c.2 _ _ h3 rfl⟩
def SortsTo (l l' : List Rw) : Prop := l'.length = l.length ∧ ∀ (base : Nat) (v : Value) (W : World), W.ownsRow base 177 8 v l.length (rws l) →
 Calls Tryz.prog 73 #[v, .func (.func 74) #[] #[]] W fun e W' => (∃ u, e = .returned u) ∧ W'.ownsRow base 177 8 v l.length (rws l') ∧ But (fun g => v.ownBlock = some g) W W'
theorem sorts_one (l : List Rw) (h : l.length ≤ 1) : SortsTo l l := ⟨rfl, fun base v W hv => by
 obtain ⟨a, cap, rfl, _, _⟩ := (ownR_rd hv).slice
 refine (sort_one a l.length cap _ W h).mono ?_
 rintro e W' ⟨hu, rfl⟩
 exact ⟨hu, hv, But.refl _ _⟩⟩
attribute [local go_sem] Oper.semAt_some
theorem hset_ne {W : World} {n m j : Nat} {v : Value} {o : Obj} (h : W.heap[n]? = some o) (hne : n ≠ m) : (W.setCell ⟨m, j, none⟩ v).heap[n]? = some o := (Below.heap_setCell W ⟨m, j, none⟩ v n hne).trans h
def rks (l : List Rw) : List Value := l.flatMap rwk
theorem rks_length (l : List Rw) : (rks l).length = l.length * 5 := by
 induction l with
 | nil => rfl
 | cons r l ih => unfold rks at ih ⊢; simp [rwk] at ih ⊢; omega
theorem rks_snoc (l : List Rw) (r : Rw) : rks (l ++ [r]) = rks l ++ rwk r := by unfold rks; simp
theorem putRow_mid {n : Nat} {t : TypeId} : ∀ (vs pre mid post : List Value) (W : World), W.heap[n]? = some (.cells (pre ++ (mid ++ post)).toArray t (0, 0)) → mid.length = vs.length → (putRow W n pre.length vs).heap[n]? = some (.cells (pre ++ (vs ++ post)).toArray t (0, 0))
 | [], pre, mid, post, W, h, hl => by
  have : mid = [] := List.length_eq_zero_iff.1 hl
  subst this
  exact h
 | v :: r, pre, [], post, W, h, hl => by simp at hl
 | v :: r, pre, p :: mid, post, W, h, hl => by
  have h1 := heap_set1 h pre.length v
  have e : ((pre ++ (p :: mid ++ post)).toArray.setIfInBounds pre.length v) = ((pre ++ [v]) ++ (mid ++ post)).toArray := by
   simp
  rw [e] at h1
  have := putRow_mid r (pre ++ [v]) mid post _ h1 (by simpa using hl)
  simpa [putRow] using this
theorem info_tupl : (Tryz.prog.info? 68).map (fun i => (i.zero, i.size, i.bytes)) = some (some (.agg #[.int .u8 0, .int .u32 0, .int .u32 0, .int .u16 0, .int .u16 0]), 5, 16) := by kernel_rfl
theorem due_any (base bt : Nat) (lim cnt trn now : Int) (ls : Nat → List Rw) (l' : List Rw) (w : World) (hT : TB base w bt lim cnt trn ls) (hS : SortsTo (duR now (allR ls)) l') (hal : (allR ls).length ≤ 5000) :
  Calls Tryz.prog 32 #[.pointer (some ⟨bt, 0, none⟩), .int .i64 now] w fun e w' => Below w.heap.size w w' ∧ ∃ g, e = .returned (.slice (some ⟨g, 0, none⟩) l'.length l'.length) ∧ w.heap.size ≤ g ∧ w'.heap[g]? = some (.cells (rks l').toArray 68 (0, 0)) := by
 obtain ⟨vs, hT⟩ := hT
 refine (callsIn_wide (n := 5)).1 ?_
 refine callsIn_of_wp_marks Tryz.func32 rfl trivial ?_ rfl
 simp only [Tryz.ntmps32, List.size_toArray, List.length_cons, List.length_nil, Nat.reduceAdd, Nat.reduceSub, Array.replicate_succ, Array.replicate_zero, List.push_toArray, List.append_toArray, List.nil_append, List.cons_append]
 have hb4 : Later w (((w.alloc (.cells #[.int .i64 now] 3)).alloc (.cells #[.slice none 0 0] 137)).alloc (.cells #[.pointer (some ⟨bt, 3, none⟩)] 235)) := (((Below.refl _ _).alloc (Nat.le_refl _) _).alloc (by simp) _).alloc (by simp <;> omega) _
 have c0 : (((w.alloc (.cells #[.int .i64 now] 3)).alloc (.cells #[.slice none 0 0] 137)).alloc (.cells #[.pointer (some ⟨bt, 3, none⟩)] 235)).heap[w.heap.size]? = some (.cells #[.int .i64 now] 3) := (Below.heap_alloc _ _ _ (by simp <;> omega)).trans ((Below.heap_alloc _ _ _ (by simp)).trans (heap_alloc_new w _))
 have c1 : (((w.alloc (.cells #[.int .i64 now] 3)).alloc (.cells #[.slice none 0 0] 137)).alloc (.cells #[.pointer (some ⟨bt, 3, none⟩)] 235)).heap[w.heap.size + 1]? = some (.cells #[.slice none 0 0] 137) := by
  have := heap_alloc_new (w.alloc (.cells #[.int .i64 now] 3)) (.cells #[.slice none 0 0] 137)
  rw [World.size_alloc] at this
  exact (Below.heap_alloc _ _ _ (by simp)).trans this
 have c2 : (((w.alloc (.cells #[.int .i64 now] 3)).alloc (.cells #[.slice none 0 0] 137)).alloc (.cells #[.pointer (some ⟨bt, 3, none⟩)] 235)).heap[w.heap.size + 1 + 1]? = some (.cells #[.pointer (some ⟨bt, 3, none⟩)] 235) := by
  have := heap_alloc_new ((w.alloc (.cells #[.int .i64 now] 3)).alloc (.cells #[.slice none 0 0] 137)) (.cells #[.pointer (some ⟨bt, 3, none⟩)] 235)
  simpa only [World.size_alloc] using this
 have hs4 : (((w.alloc (.cells #[.int .i64 now] 3)).alloc (.cells #[.slice none 0 0] 137)).alloc (.cells #[.pointer (some ⟨bt, 3, none⟩)] 235)).heap.size = w.heap.size + 1 + 1 + 1 := by simp
 have C0 := hide c0
 have C1 := hide c1
 have C2 := hide c2
 have HS4 := hide hs4
 clear c0 c1 c2 hs4
 gi_wp2_with (refine ⟨trivial, ?_⟩; gi_at_call 72; refine (all_in _ _ _).mono ?_; rintro e w' ⟨rfl, rfl⟩)
 generalize ((w.alloc (.cells #[.int .i64 now] 3)).alloc (.cells #[.slice none 0 0] 137)).alloc (.cells #[.pointer (some ⟨bt, 3, none⟩)] 235) = w4 at *
 have hs4 : w4.heap.size = w.heap.size + 1 + 1 + 1 := HS4.out
 refine wpIn_rangeX (w := w4) rfl (by omega) (gf := 130) (lb := #[.pointer (some ⟨w.heap.size + 1 + 1, 0, none⟩)]) rfl trivial (enters_of Tryz.func130 (by kernel_rfl) rfl)
  (all_gen 4 (by omega) (w.heap.size + 1 + 1) bt w.heap.size base lim cnt trn vs ls w w4 hT rfl hb4 (by omega) (block_cell C2.out 0))
  (fun h k => h.trans k) (fun W l o o' hl ho hc hw => belowK_b (w := w4) (by omega) W l o o' hl ho hc hw) (fun hA hL => hL.mono (by omega)) (fun _ _ _ _ h _ => h) (fun _ _ _ _ _ _ _ _ _ h => h) (fun _ => rfl)
  (fun pre W => PD w.heap.size (w.heap.size + 1 + 1 + 1) now pre W ∧ Below w.heap.size w W) (fun pre W => False)
  (OwnFrom.and (fun s A B row hs hg hr => hs.ct (CTy.row hg (fun r e => (hr r e).2))) (ownFrom_below (Nat.le_refl _) (by omega)))
  (fun s A B h l => ⟨h.1.ct (CTy.of l), h.2.trans (l.mono h.2.size)⟩)
  (fun s A B row hs hg hr => hs)
  ⟨⟨⟨.slice none 0 0, C1.out, rfl, .inl ⟨rfl, rfl⟩⟩, C0.out⟩, hb4⟩
  (fun x a' W => ∃ bx : Nat, w.heap.size + 1 + 1 + 1 ≤ bx ∧ W.heap[bx]? = some (.cells #[.int .u8 x.p, .int .u32 x.s, .int .u32 x.d, .int .u16 x.a, .int .u16 x.b, .int .i64 x.id, .int .i64 x.till, .int .i64 x.turn] 177 (0, 0)) ∧ a' = { tmps := #[.pointer (some ⟨bt, 0, none⟩), .int .i64 now, undef, .pointer (some ⟨w.heap.size, 0, none⟩), .slice none 0 0, .pointer (some ⟨w.heap.size + 1, 0, none⟩), .pointer (some ⟨bx, 0, none⟩), undef, undef, undef, .pointer (some ⟨bt, 0, none⟩), .bool false, .pointer (some ⟨bt, 0, none⟩), .pointer (some ⟨bt, 0, none⟩), .pointer (some ⟨bt, 3, none⟩), .func (.func 130) #[] #[.pointer (some ⟨w.heap.size + 1 + 1, 0, none⟩)], .agg #[.int .u8 x.p, .int .u32 x.s, .int .u32 x.d, .int .u16 x.a, .int .u16 x.b, .int .i64 x.id, .int .i64 x.till, .int .i64 x.turn], undef, undef, undef, undef, undef, undef, undef, undef, undef, undef, undef, undef, undef, undef, undef, undef, undef, undef, undef, undef, undef, undef, undef, undef, undef, undef, undef], defers := [] })
  (fun x a' W l o o' hl ho hc h => by obtain ⟨bx, h1, h2, h3⟩ := h; exact ⟨bx, h1, (CTy.put ho hc).2 _ _ h2 rfl, h3⟩) ?assign ?body ?done ?stop
 case assign =>
  rintro l pre x W K hsz _ hX hK
  dsimp only [encR, rwc]
  gi_wp2
  refine hK _ _ ?_ ⟨W.heap.size, by omega, heap_alloc_new _ _, rfl⟩
  exact (Below.refl _ W).alloc (Nat.le_refl _) _
 case body =>
  rintro l pre x a' W ⟨⟨⟨v, hob, hOw⟩, hr0⟩, hbW⟩ hX ⟨bx, hbx, hbo, rfl⟩
  have hbsz := hbW.size
  have Kb := block_cell hbo
  have Kn := block_cell hr0
  have hobl := (bl9 hob)
  have hbl := (bl9 hbo)
  have hal2 : pre.length ≤ 5000 := by obtain ⟨rest, e⟩ := hX; have := congrArg List.length e; simp at this; omega
  by_cases htl : x.till ≤ now
  ·have hdu := duR_yes (l := pre) htl
   have hdl : (duR now pre).length ≤ 5000 := Nat.le_trans (duR_length now pre) hal2
   have Kv := block_cell hob
   have Fv := block_frozen hob
   obtain ⟨sa, cap, rfl, _, _⟩ := (ownR_rd hOw).slice
   obtain ⟨i0, hi, hz0, hz1, hz2⟩ := info_parts info_row
   have la : Later W (W.alloc (.cells #[.int .u8 x.p, .int .u32 x.s, .int .u32 x.d, .int .u16 x.a, .int .u16 x.b, .int .i64 x.id, .int .i64 x.till, .int .i64 x.turn] 177)) := (Below.refl _ W).alloc (Nat.le_refl _) _
   have hrowA := ownR_later hOw la
   have hnews : ∀ j u, [Value.int .u8 x.p, .int .u32 x.s, .int .u32 x.d, .int .u16 x.a, .int .u16 x.b, .int .i64 x.id, .int .i64 x.till, .int .i64 x.turn][j]? = some u → (W.alloc (.cells #[.int .u8 x.p, .int .u32 x.s, .int .u32 x.d, .int .u16 x.a, .int .u16 x.b, .int .i64 x.id, .int .i64 x.till, .int .i64 x.turn] 177)).cell? ((⟨W.heap.size, 0, none⟩ : Addr).add j) = some u := new_row W [Value.int .u8 x.p, .int .u32 x.s, .int .u32 x.d, .int .u16 x.a, .int .u16 x.b, .int .i64 x.id, .int .i64 x.till, .int .i64 x.turn]
   have hbl2 : ∀ r, (Value.slice sa (duR now pre).length cap).ownBlock = some r → ∃ cur, (W.alloc (.cells #[.int .u8 x.p, .int .u32 x.s, .int .u32 x.d, .int .u16 x.a, .int .u16 x.b, .int .i64 x.id, .int .i64 x.till, .int .i64 x.turn] 177)).heap[r]? = some (.cells cur 177 (0, 0)) ∧ w.heap.size + 1 + 1 + 1 ≤ r := fun r hr => by
    rcases hrowA.2 with ⟨e, _⟩ | ⟨g, cp, cur, e, hg, hh, _⟩
    ·rw [e] at hr; cases hr
    ·rw [e] at hr; cases hr
     exact ⟨cur, hh, hg⟩
   have HNW := hide hnews
   have HRA := hide hrowA
   have HB2 := hide hbl2
   have HDU := hide hdu
   clear hnews hrowA hbl2 hOw hdu
   gi_wp2_with (gi_at_builtin; refine wpListIn_append_own _ rfl (.tmp 21) (.tmp 23) 137 rfl (w.heap.size + 1 + 1 + 1) 177 i0 (.agg #[.int .u8 0, .int .u32 0, .int .u32 0, .int .u16 0, .int .u16 0, .int .i64 0, .int .i64 0, .int .i64 0]) 8 40 Tryz.underlying137 hi hz0 hz1 hz2 rfl (by decide) _ (duR now pre).length (rws (duR now pre)) rfl HRA.out ⟨W.heap.size, 0, none⟩ 1 1 [Value.int .u8 x.p, .int .u32 x.s, .int .u32 x.d, .int .u16 x.a, .int .u16 x.b, .int .i64 x.id, .int .i64 x.till, .int .i64 x.turn] rfl rfl HNW.out (by intro u hu; simp at hu; rcases hu with rfl | rfl | rfl | rfl | rfl | rfl | rfl | rfl <;> rfl) (by simp only [maxLen]; omega) (by omega) (by simp; omega) ?_; intro v2 W2 hrow2 hg2 hnn; obtain ⟨g2, cp2, rfl⟩ := ownsRow_succ hrow2; have hob2 := (hg2.block (w.heap.size + 1) (by simp; omega) (fun e => by obtain ⟨_, _, h⟩ := HB2.out _ e.symm; omega)).trans ((Below.heap_alloc W _ (w.heap.size + 1) hobl).trans hob); have Kv2 := block_cell hob2; have Fv2 := block_frozen hob2)
   have hkeep : ∀ i o, W.heap[i]? = some o → some i ≠ (Value.slice sa (duR now pre).length cap).ownBlock → i ≠ w.heap.size + 1 → (W2.setCell ⟨w.heap.size + 1, 0, none⟩ (.slice (some ⟨g2, 0, none⟩) ((duR now pre).length + 1) cp2)).heap[i]? = some o := fun i o hi h1 h2 =>
    hset_ne ((hg2.block i (by have := (bl9 hi); simp; omega) h1).trans ((Below.heap_alloc W _ i (bl9 hi)).trans hi)) h2
   have hsz2 : W.heap.size + 1 ≤ W2.heap.size := by have := hg2.size; simpa using this
   have hown2 : (W2.setCell ⟨w.heap.size + 1, 0, none⟩ (.slice (some ⟨g2, 0, none⟩) ((duR now pre).length + 1) cp2)).ownsRow (w.heap.size + 1 + 1 + 1) 177 8 (.slice (some ⟨g2, 0, none⟩) ((duR now pre).length + 1) cp2) ((duR now pre).length + 1) (rws (duR now pre) ++ rwc x) := by
    refine ⟨hrow2.1, hrow2.2.imp id ?_⟩
    rintro ⟨g, cp, cur, e1, e2, e3, r⟩
    exact ⟨g, cp, cur, e1, e2, hset_ne e3 (by omega), r⟩
   have hbn : Below w.heap.size W (W2.setCell ⟨w.heap.size + 1, 0, none⟩ (.slice (some ⟨g2, 0, none⟩) ((duR now pre).length + 1) cp2)) := ⟨hg2.os, hg2.tape, hg2.output, by simp; omega, fun i hi => by
    cases hh : W.heap[i]? with
    | none => have := Array.getElem?_eq_none_iff.1 hh; omega
    | some o => exact hkeep i o hh (fun e => by obtain ⟨_, _, h⟩ := HB2.out _ e.symm; omega) (by omega)⟩
   refine ⟨⟨by simp; omega, fun i o hi ho hc => hkeep i o ho (fun e => ?_) (by omega)⟩, hbn, ⟨⟨.slice (some ⟨g2, 0, none⟩) ((duR now pre).length + 1) cp2, heap_set1 hob2 0 _, ?_⟩, ?_⟩, hbW.trans hbn⟩
   ·obtain ⟨c2, h2, _⟩ := HB2.out i e.symm
    rw [Below.heap_alloc W _ i (bl9 ho), ho] at h2
    cases h2
    cases hc
   ·rw [HDU.out, List.length_append, List.length_singleton, rws_snoc]
    exact hown2
   ·exact hkeep _ _ hr0 (fun e => by obtain ⟨_, _, h⟩ := HB2.out _ e.symm; omega) (by omega)
  ·have hdu := duR_no (l := pre) htl
   have HDU := hide hdu
   clear hdu
   gi_wp2
   exact ⟨KeepsFrom.refl _ _, Below.refl _ _, ⟨⟨v, hob, by rw [HDU.out]; exact hOw⟩, hr0⟩, hbW⟩
 case done =>
  rintro D xs W hD rfl ⟨⟨⟨v, h1, h2⟩, h3⟩, hbW⟩ hK
  obtain ⟨hl', hS⟩ := hS
  have hbsz := hbW.size
  have K1 := block_cell h1
  have hdl : (duR now (allR ls)).length ≤ 5000 := Nat.le_trans (duR_length now _) hal
  obtain ⟨sa, cap, rfl, hcp, hcm⟩ := (ownR_rd h2).slice
  have HSO := hide (hS _ _ W h2)
  have hnb : ∀ i o, W.heap[i]? = some o → (o.isCells = false ∨ i < w.heap.size + 1 + 1 + 1) → (Value.slice sa (duR now (allR ls)).length cap).ownBlock ≠ some i := fun i o ho hh e => by
   rcases h2.2 with ⟨e2, _⟩ | ⟨g, cp, cur, e2, hg, hgh, _⟩
   ·rw [e2] at e; cases e
   ·rw [e2] at e
    have e3 : g = i := by simpa [Value.ownBlock] using e
    subst e3
    rcases hh with hh | hh
    ·rw [hgh] at ho; cases ho; cases hh
    ·omega
  generalize (duR now (allR ls)).length = N at *
  subst hl'
  gi_wp2
  refine ⟨trivial, ?_⟩
  refine (callsIn_wide.2 HSO.out).mono ?_
  rintro e W1 ⟨⟨u, rfl⟩, hr1, hbt1⟩
  have h11 := (hbt1.block _ (bl9 h1) (hnb _ _ h1 (.inr (by omega)))).trans h1
  have hD1 := (hbt1.block _ (bl9 hK) (hnb _ _ hK (.inl rfl))).trans hK
  have hb1 : Below w.heap.size w W1 := hbW.trans (hbt1.below hbsz (fun k h e => by
   rcases h2.2 with ⟨e2, _⟩ | ⟨g, cp, cur, e2, hg, hgh, _⟩
   ·rw [e2] at e; cases e
   ·rw [e2] at e
    have e3 : g = k := by simpa [Value.ownBlock] using e
    omega))
  clear HSO h1 h2 hK hnb h3 K1 hbt1 hS
  have K1 := block_cell h11
  gi_wp2
  obtain ⟨i0, hi, hz0, hz1, hz2⟩ := info_parts info_tupl
  have hmk : (Instr.makeSlice 95 (.int .i64 (l'.length : Int)) (.int .i64 (l'.length : Int))).run Tryz.prog W1 = .ok (.slice (some ⟨W1.heap.size, 0, none⟩) l'.length l'.length) (W1.alloc (.cells (madeCells (Value.agg #[.int .u8 0, .int .u32 0, .int .u32 0, .int .u16 0, .int .u16 0]).cells (l'.length * 5)) 68)) := by
   have := run_make (P := Tryz.prog) W1 95 68 i0 _ Tryz.underlying95 hi hz0 .i64 .i64 (l'.length : Int) (l'.length : Int) (by omega) (by omega) (by rw [hz2]; omega) (by omega)
   rw [hz1] at this
   simpa using this
  have hsz : (madeCells (Value.agg #[.int .u8 0, .int .u32 0, .int .u32 0, .int .u16 0, .int .u16 0]).cells (l'.length * 5)).size = l'.length * 5 := size_madeCells _ _
  rw [hmk]
  clear hmk
  generalize madeCells (Value.agg #[.int .u8 0, .int .u32 0, .int .u32 0, .int .u16 0, .int .u16 0]).cells (l'.length * 5) = mk at *
  have la : Later W1 (W1.alloc (.cells mk 68)) := (Below.refl _ _).alloc (Nat.le_refl _) _
  have hgk := heap_alloc_new W1 (.cells mk 68)
  have hV1 := later_keep la h11
  have hVD := later_keep la hD1
  have hVr := ownR_later hr1 la
  have hbV : Below w.heap.size w (W1.alloc (.cells mk 68)) := hb1.trans (la.mono hb1.size)
  have hgsz := hb1.size
  clear h11 hD1 hr1 hb1 K1
  generalize hgke : W1.heap.size = gk at *
  generalize W1.alloc (.cells mk 68) = V at *
  clear hgke la
  have K1 := block_cell hV1
  gi_wp2
  clear K1
  gi_loopw [32] (fun i wx => ∃ k : Nat, k ≤ l'.length ∧ i = .int .i64 (k : Int) ∧ But (fun g => g = gk) V wx ∧ ∃ rest : List Value, rest.length = (l'.length - k) * 5 ∧ wx.heap[gk]? = some (.cells (rks (l'.take k) ++ rest).toArray 68 (0, 0))) (fun i _ => l'.length - (intOf i).toNat)
  case atStart => exact ⟨0, by omega, rfl, But.refl _ _, mk.toList, by simpa using hsz, by simpa [rks] using hgk⟩
  case round =>
   obtain ⟨k, hk, rfl, hbk, rest, hrl, hgw⟩ := hrel
   by_cases hkl : k < l'.length
   ·have hRw : RdR wr.heap.size wr (.slice sa l'.length cap) l' := by
     refine ownR_rd (base := w.heap.size + 1 + 1 + 1) ⟨hVr.1, hVr.2.imp id ?_⟩
     rintro ⟨g, cp, cur, e1, e2, e3, r⟩
     exact ⟨g, cp, cur, e1, e2, (hbk.block g (bl9 e3) (fun e => by rw [e, hgk] at e3; cases e3)).trans e3, r⟩
    obtain ⟨g, off, cp, e, _, _, hgn, hcs⟩ := hRw.cells (by omega)
    simp at e
    obtain ⟨rfl, rfl⟩ := e
    have c0 := hcs k hkl 0 (by omega)
    have c1 := hcs k hkl 1 (by omega)
    have c2 := hcs k hkl 2 (by omega)
    have c3 := hcs k hkl 3 (by omega)
    have c4 := hcs k hkl 4 (by omega)
    have c5 := hcs k hkl 5 (by omega)
    have c6 := hcs k hkl 6 (by omega)
    have c7 := hcs k hkl 7 (by omega)
    have hkl' : (k : Int) < l'.length := by omega
    have htk : rks (l'.take (k + 1)) = rks (l'.take k) ++ rwk l'[k] := by rw [← List.take_append_getElem hkl, rks_snoc]
    have hrk : (rks (l'.take k)).length = k * 5 := by rw [rks_length, List.length_take, Nat.min_eq_left hk]
    obtain ⟨r0, r1, r2, r3, r4, rest', rfl⟩ : ∃ r0 r1 r2 r3 r4 rest', rest = r0 :: r1 :: r2 :: r3 :: r4 :: rest' := by
     have h5 : 5 ≤ rest.length := by rw [hrl]; omega
     match rest, h5 with
     | r0 :: r1 :: r2 :: r3 :: r4 :: rest', _ => exact ⟨_, _, _, _, _, _, rfl⟩
    have hk5 : ∀ j, wr.cell? ⟨gk, k * 5 + j, none⟩ = (r0 :: r1 :: r2 :: r3 :: r4 :: rest')[j]? := fun j => by
     rw [block_cell hgw, List.getElem?_toArray, List.getElem?_append_right (by omega), hrk, Nat.add_sub_cancel_left]
    have d0 := hk5 0
    have d1 := hk5 1
    have d2 := hk5 2
    have d3 := hk5 3
    have d4 := hk5 4
    have Fg := block_frozen hgw
    have hgl : gk < wr.heap.size := (bl9 hgw)
    clear hcs hk5
    generalize hgo : l'[k] = r at *
    have hpt : (putRow wr gk (k * 5) (rwk r)).heap[gk]? = some (.cells (rks (l'.take k) ++ (rwk r ++ rest')).toArray 68 (0, 0)) := by
     have := putRow_mid (rwk r) (rks (l'.take k)) [r0, r1, r2, r3, r4] rest' wr hgw rfl
     rw [hrk] at this
     exact this
    have hpb : But (fun g => g = gk) V (putRow wr gk (k * 5) (rwk r)) := putRow_but (E := fun g => g = gk) rfl _ _ _ _ hbk
    have HPT := hide hpt
    have HPB := hide hpb
    clear hpt hpb
    have HTK := hide htk
    have HRK := hide hrk
    have HRL := hide hrl
    clear hgo htk hrk hrl
    simp only [rwc, List.getElem?_cons_zero, List.getElem?_cons_succ, Nat.add_zero] at c0 c1 c2 c3 c4 c5 c6 c7 d0 d1 d2 d3 d4
    gi_wp2
    go_roundw
    case rel =>
     refine ⟨k + 1, by omega, by go_num, (show But _ V (putRow wr gk (k * 5) (rwk r)) from HPB.out).trans (But.of ((Below.refl _ _).alloc (Nat.le_refl _) _)), rest', ?_, ?_⟩
     ·have := HRL.out
      simp at this
      omega
     ·rw [HTK.out, List.append_assoc]
      exact (Below.heap_alloc (putRow wr gk (k * 5) (rwk r)) _ gk (bl9 HPT.out)).trans HPT.out
    case measure => simp [intOf]; omega
   ·obtain rfl : k = l'.length := by omega
    have hrD : wr.heap[D]? = some (.deferred (some [])) := (hbk.block D (bl9 hVD) (fun e => by rw [e, hgk] at hVD; cases hVD)).trans hVD
    obtain rfl : rest = [] := List.length_eq_zero_iff.1 (by rw [hrl]; simp)
    rw [List.take_length, List.append_nil] at hgw
    have hbw : Below w.heap.size w wr := hbV.trans (hbk.below hbV.size (fun k h e => by omega))
    gi_wp2
    refine ⟨by simp, .inl ⟨_, _, rfl, run_takeDeferred hrD, ?_⟩⟩
    exact ⟨.slice (some ⟨gk, 0, none⟩) l'.length l'.length, by simp [results, Tryz.results32, go_sem], hbw.trans (belowK_b (w := w) (Nat.le_refl _) wr D _ _ (by omega) hrD rfl rfl), gk, rfl, by omega, (CTy.put (o' := .deferred none) hrD rfl).2 _ _ hgw rfl⟩
 case stop =>
  rintro D pre W hD hSp hF hK
  exact hF.elim
def getAt2 (zs : List Int) (p : Int) : Int := if 0 ≤ p ∧ p + 2 ≤ zs.length then wat zs p.toNat else 0
def getAt4 (zs : List Int) (p : Int) : Int := if 0 ≤ p ∧ p + 4 ≤ zs.length then wat4 zs p.toNat else 0
theorem get16_at {n₀ : Nat} (sv : Value) (zs : List Int) (hB : Mt.By zs) (p : Int) (w : World) (hI : Rd n₀ w sv zs) :
  Calls Tryz.prog 146 #[sv, .int .i64 p] w fun e w' => e = .returned (.int .u16 (getAt2 zs p)) ∧ ∃ n, w' = w.drewN n := by
 by_cases h : 0 ≤ p ∧ p + 2 ≤ zs.length
 ·obtain ⟨n, rfl⟩ := Int.eq_ofNat_of_zero_le h.1
  unfold getAt2
  rw [if_pos h, Int.toNat_natCast]
  exact get16_rd sv zs hB n (by omega) w hI
 ·unfold getAt2
  rw [if_neg h]
  obtain ⟨a, cap, rfl, h1, h2⟩ := hI.slice
  exact (get16_no a zs.length cap p w (by omega) (by omega)).mono fun e w' ⟨he, hw⟩ => ⟨he, 0, hw⟩
theorem get32_at {n₀ : Nat} (sv : Value) (zs : List Int) (hB : Mt.By zs) (p : Int) (w : World) (hI : Rd n₀ w sv zs) :
  Calls Tryz.prog 99 #[sv, .int .i64 p] w fun e w' => e = .returned (.int .u32 (getAt4 zs p)) ∧ ∃ n, w' = w.drewN n := by
 by_cases h : 0 ≤ p ∧ p + 4 ≤ zs.length
 ·obtain ⟨n, rfl⟩ := Int.eq_ofNat_of_zero_le h.1
  unfold getAt4
  rw [if_pos h, Int.toNat_natCast]
  exact get32_rd sv zs hB n (by omega) w hI
 ·unfold getAt4
  rw [if_neg h]
  obtain ⟨a, cap, rfl, h1, h2⟩ := hI.slice
  exact (get32_no a zs.length cap p w (by omega) (by omega)).mono fun e w' ⟨he, hw⟩ => ⟨he, 0, hw⟩
def HSt (tl : List Value) (t : TypeId) (ub : Nat) (N : Nat → Prop) (ys : List Int) (W : World) : Prop :=
 ∃ v, W.heap[ub]? = some (.cells (v :: tl).toArray t (0, 0)) ∧ W.ownsRow (ub + 1) 5 1 v ys.length (ys.map (Value.int .u8)) ∧ ∀ b, v.ownBlock = some b → ¬ N b
theorem HSt.lt {tl : List Value} {t : TypeId} {ub : Nat} {N : Nat → Prop} {ys : List Int} {W : World} (h : HSt tl t ub N ys W) : ub < W.heap.size := by
 obtain ⟨v, h1, _⟩ := h
 exact (bl9 h1)
theorem HSt.alloc {tl : List Value} {t : TypeId} {ub : Nat} {N : Nat → Prop} {ys : List Int} {W : World} (h : HSt tl t ub N ys W) (o : Obj) : HSt tl t ub (fun b => N b ∨ b = W.heap.size) ys (W.alloc o) := by
 obtain ⟨v, h1, h2, h3⟩ := h
 exact ⟨v, (Below.heap_alloc W o ub (bl9 h1)).trans h1, h2.alloc o, fun b hb hN => hN.elim (h3 b hb) (fun e => by have := (h2.lt b hb).2; omega)⟩
theorem HSt.weaken {tl : List Value} {t : TypeId} {ub : Nat} {N N' : Nat → Prop} {ys : List Int} {W : World} (h : HSt tl t ub N ys W) (hN : ∀ b, N' b → N b) : HSt tl t ub N' ys W := by
 obtain ⟨v, h1, h2, h3⟩ := h
 exact ⟨v, h1, h2, fun b hb hn => h3 b hb (hN b hn)⟩
theorem run_app3 {P : Program} (w : World) (t ty e : TypeId) (base : Nat) (i : TypeInfo) (ht : P.underlying t = some (.slice e)) (hi : P.info? e = some i) (hz : i.zero = some (.int .u8 0)) (hsize : i.size = 1) (hby : i.bytes = 1)
  (v : Value) (ys : List Int) (hown : w.ownsRow base e 1 v ys.length (ys.map (Value.int .u8)))
  (n₀ : Nat) (sx : Value) (zs : List Int) (hI : Rd n₀ w sx zs) (hbd : ys.length + zs.length ≤ 140737488355328) (hbase : base ≤ w.heap.size) :
  ∃ v' w', (Builtin.append_ #[t, t] ty #[v, sx]).run P w = .ok v' w' ∧ w'.ownsRow base e 1 v' (ys ++ zs).length ((ys ++ zs).map (Value.int .u8)) ∧ w.grownBy w' v.ownBlock ∧ ∀ b, v'.ownBlock = some b → v.ownBlock = some b ∨ w.heap.size ≤ b := by
 obtain ⟨v', w', hr, h2, h3⟩ := run_app (P := P) w t ty e base i ht hi hz hsize hby v ys hown n₀ sx zs hI hbd hbase
 refine ⟨v', w', hr, h2, h3, ?_⟩
 rcases hown.2 with ⟨rfl, hnil⟩ | ⟨g, cap, cur, rfl, hg, hh, hl, hm, hs, hc⟩
 ·have hy : ys = [] := by simpa using hnil
  subst hy
  obtain ⟨v2, w2, hr2, h22, _⟩ := run_app (P := P) w t ty e w.heap.size i ht hi hz hsize hby (.slice none 0 0) [] (World.ownsRow_nil _ _ _ _) n₀ sx zs hI hbd (Nat.le_refl _)
  obtain ⟨rfl, rfl⟩ : v' = v2 ∧ w' = w2 := by rw [hr] at hr2; simpa using hr2
  intro b hb
  exact .inr (h22.lt b hb).1
 ·rcases hI with ⟨ao, cp, rfl, rfl, hm2, hn⟩ | ⟨b, off, cp, rfl, hne, hl2, hm2, hb2, hc2⟩
  ·have hv : v' = .slice (some ⟨g, 0, none⟩) ys.length cap := by
    cases ao with
    | none =>
     obtain rfl := hn rfl
     have := run_append_owned_none w base t ty e i 1 ht hi _ _ _ hown
     rw [hr] at this
     simp at this
     exact this.1
    | some ad =>
     have := run_append_room_cells (P := P) w t ty e i ht hi g 0 ys.length cap ad 0 cp [] (by simp) (fun j u hj => by simp at hj) (fun u hu => by simp at hu) (by omega) (fun j hj => by simp at hj) (fun j hj => by simp at hj)
     rw [hr] at this
     simp at this
     exact this.1
   subst hv
   intro b hb
   exact .inl hb
  ·have hnews : ∀ j u, (zs.map (Value.int .u8))[j]? = some u → w.cell? ((⟨b, off, none⟩ : Addr).add j) = some u := fun j u hj => by
    have hj' : j < zs.length := by have := (List.getElem?_eq_some_iff.1 hj).1; simpa using this
    rw [show (⟨b, off, none⟩ : Addr).add j = ⟨b, off + j, none⟩ from by unfold Addr.add; split <;> simp_all, hc2 j hj', ← hj]
    simp [hj']
   by_cases hroom : ys.length + zs.length ≤ cap
   ·have := run_append_room_cells (P := P) w t ty e i ht hi g 0 ys.length cap ⟨b, off, none⟩ zs.length cp (zs.map (Value.int .u8)) (by rw [hsize]; simp) hnews (fun u hu => by obtain ⟨z, _, rfl⟩ := List.mem_map.1 hu; rfl) hroom
     (fun j hj => by rw [block_cell hh, hsize]; simp at hj; simp; omega) (fun j hj => by rw [block_frozen hh])
    rw [hr] at this
    simp at this
    obtain ⟨rfl, _⟩ := this
    intro b' hb'
    exact .inl hb'
   ·obtain ⟨v2, w2, hr2, h22, _⟩ := run_append_arg_grows (P := P) w t ty e i (.int .u8 0) 1 1 ht hi hz hsize hby rfl (by decide) ⟨g, 0, none⟩ ys.length cap (ys.map (Value.int .u8)) (by simp)
     (fun j u hj => by
      have hj' : j < ys.length := by have := (List.getElem?_eq_some_iff.1 hj).1; simpa using this
      rw [show (⟨g, 0, none⟩ : Addr).add j = ⟨g, j, none⟩ from by unfold Addr.add; split <;> simp_all, block_cell hh]
      have h5 := congrArg (·[j]?) hc
      simp only [Nat.mul_one] at h5
      rw [List.getElem?_take_of_lt (by omega)] at h5
      rw [← hj, ← h5]
      simp)
     ⟨b, off, none⟩ zs.length cp (zs.map (Value.int .u8)) (by simp) hnews (by omega) (by unfold maxLen; omega) (by omega)
    obtain ⟨rfl, rfl⟩ : v' = v2 ∧ w' = w2 := by rw [hr] at hr2; simpa using hr2
    intro b' hb'
    exact .inr (h22.lt b' hb').1
theorem wpList_app3 {P : Program} {ops : Array Oper} {rest : List Oper} {o : Oper} {a : Act} {Q : Exit → Act → World → Prop} (w : World) (hgd : o.guard = none) (s x : Operand) (t : TypeId)
  (ho : o.op = .call { callee := .builtin .append, args := #[s, x], argTypes := #[t, t] })
  (base : Nat) (e : TypeId) (i : TypeInfo) (ht : P.underlying t = some (.slice e)) (hi : P.info? e = some i) (hz : i.zero = some (.int .u8 0)) (hsize : i.size = 1) (hby : i.bytes = 1)
  (v : Value) (ys : List Int) (hs : a.eval s = v) (hown : w.ownsRow base e 1 v ys.length (ys.map (Value.int .u8)))
  (n₀ : Nat) (sx : Value) (zs : List Int) (hx : a.eval x = sx) (hI : Rd n₀ w sx zs) (hbd : ys.length + zs.length ≤ 140737488355328) (hbase : base ≤ w.heap.size)
  (h : ∀ v' w', w'.ownsRow base e 1 v' (ys ++ zs).length ((ys ++ zs).map (Value.int .u8)) → w.grownBy w' v.ownBlock → (∀ b, v'.ownBlock = some b → v.ownBlock = some b ∨ w.heap.size ≤ b) → wpList P ops Q rest (a.put o.dst v') w') : wpList P ops Q (o :: rest) a w := by
 obtain ⟨v', w', hr, h2, h3, h4⟩ := run_app3 (P := P) w t o.type e base i ht hi hz hsize hby v ys hown n₀ sx zs hI hbd hbase
 exact wpList_plain hgd fun K hK => wp_app s x t ho v sx hs hx v' w' hr (hK _ _ (h v' w' h2 h3 h4))
theorem put_any (tl : List Value) (t : TypeId) (ub : Nat) (N : Nat → Prop) (ys : List Int) (sx : Value) (zs : List Int) (n₀ : Nat) (w : World) (h : HSt tl t ub N ys w) (hN : ∀ b, N b → b < w.heap.size ∧ b ≠ ub) (hI : Rd n₀ w sx zs) (hl : ys.length + zs.length ≤ 140737488355328) :
  Calls Tryz.prog 38 #[.pointer (some ⟨ub, 0, none⟩), sx] w fun e w' => e = .returned (.tuple #[]) ∧ HSt tl t ub N (ys ++ zs) w' ∧ But (fun b => ub ≤ b ∧ ¬ N b) w w' := by
 obtain ⟨i0, hi, hz0, hz1, hz2⟩ := info_parts info_u8
 obtain ⟨v, hu, hown, hnb⟩ := h
 have C0 := block_cell hu 0
 simp at C0
 have hub : ub < w.heap.size := (bl9 hu)
 obtain ⟨ax, cx, rfl, _, _⟩ := hI.slice
 obtain ⟨av, cv, rfl, _, _⟩ := (Ow.of_row hown).slice
 go_enter Tryz.func38, Tryz.ntmps38
 go_wp2_with (at_builtin; refine wpList_app3 _ rfl (.tmp 8) (.tmp 9) 31 rfl (ub + 1) 5 i0 Tryz.underlying31 hi hz0 hz1 hz2 _ ys rfl hown n₀ _ zs rfl hI hl hub ?_; intro v1 w1 hown1 hg1 hv1; have hu1 := (hg1.block ub hub (fun e => by have := (hown.lt ub e.symm).1; omega)).trans hu; have C1 := block_cell hu1 0; have F1 := block_frozen hu1 0; simp at C1; obtain ⟨a1, c1, rfl, _, _⟩ := (Ow.of_row hown1).slice)
 have hu2 : (w1.setCell ⟨ub, 0, none⟩ (.slice a1 (ys ++ zs).length c1)).heap[ub]? = some (.cells (.slice a1 (ys ++ zs).length c1 :: tl).toArray t (0, 0)) := by
  have := heap_set1 hu1 0 (.slice a1 (ys ++ zs).length c1)
  simpa using this
 have hvN : ∀ b, (Value.slice a1 (ys ++ zs).length c1).ownBlock = some b → ¬ N b := by
  intro b hb hn
  rcases hv1 b hb with h | h
  ·exact hnb b h hn
  ·have := (hN b hn).1; omega
 have hb1 : But (fun b => ub ≤ b ∧ ¬ N b) w (w1.setCell ⟨ub, 0, none⟩ (.slice a1 (ys ++ zs).length c1)) := by
  have h0 : But (fun b => ub ≤ b ∧ ¬ N b) w w1 := ⟨hg1.os, hg1.tape, hg1.output, hg1.size, fun k hk hE => hg1.block k hk (fun e => hE ⟨by have := (hown.lt k e.symm).1; omega, hnb k e.symm⟩)⟩
  exact h0.setCell (p := ⟨ub, 0, none⟩) ⟨Nat.le_refl _, fun hn => (hN ub hn).2 rfl⟩ _
 have hown2 : (w1.setCell ⟨ub, 0, none⟩ (.slice a1 (ys ++ zs).length c1)).ownsRow (ub + 1) 5 1 (.slice a1 (ys ++ zs).length c1) (ys ++ zs).length ((ys ++ zs).map (Value.int .u8)) := by
  obtain ⟨q1, q2⟩ := hown1
  refine ⟨q1, q2.imp id ?_⟩
  rintro ⟨g, cap, cur, e, hg, hh, r⟩
  exact ⟨g, cap, cur, e, hg, (Below.heap_setCell w1 ⟨ub, 0, none⟩ _ g (by simp; omega)).trans hh, r⟩
 go_end0
 rw [← List.length_append]
 exact ⟨rfl, ⟨_, hu2, hown2, hvN⟩, hb1⟩
def b2 (n : Int) : List Int := [n / 256, n % 256]
def b4 (n : Int) : List Int := [n / 65536 / 256, n / 65536 % 256, n % 65536 / 256, n % 65536 % 256]
theorem flat_take {α : Type} (f : Int → List α) (ns : List Int) (k : Nat) (h : k < ns.length) : (ns.take (k + 1)).flatMap f = (ns.take k).flatMap f ++ f (ns[k]?.getD 0) := by
 rw [List.take_succ_eq_append_getElem h, List.flatMap_append]
 simp [h]
theorem b2_len (ns : List Int) : (ns.flatMap b2).length = 2 * ns.length := by
 induction ns with
 | nil => rfl
 | cons a r ih => simp [List.flatMap_cons, b2] at ih ⊢; omega
theorem hput16_any (tl : List Value) (t tn : TypeId) (ub nb cap : Nat) (N : Nat → Prop) (ys ns : List Int) (w : World) (h : HSt tl t ub N ys w) (hN : ∀ b, N b → b < w.heap.size ∧ b ≠ ub) (hn : N nb)
  (hnb : w.heap[nb]? = some (.cells (ns.map (Value.int .u16)).toArray tn (0, 0))) (hbd : ∀ n ∈ ns, 0 ≤ n ∧ n ≤ 65535) (hl : ys.length + 2 * ns.length ≤ 140737488355328) (hcap : ns.length ≤ cap) :
  Calls Tryz.prog 37 #[.pointer (some ⟨ub, 0, none⟩), .slice (some ⟨nb, 0, none⟩) ns.length cap] w fun e w' => e = .returned (.tuple #[]) ∧ HSt tl t ub N (ys ++ ns.flatMap b2) w' ∧ But (fun b => ub ≤ b ∧ ¬ N b) w w' := by
 have hnl := (bl9 hnb)
 go_enter Tryz.func37, Tryz.ntmps37
 go_wp2
 go_loopw [8] (fun i wr => ∃ k : Nat, k ≤ ns.length ∧ i = .int .i64 (k : Int) ∧ HSt tl t ub N (ys ++ (ns.take k).flatMap b2) wr ∧ But (fun b => ub ≤ b ∧ ¬ N b) w wr)
  (fun i _ => ns.length - (intOf i).toNat)
 case atStart => exact ⟨0, by omega, rfl, by simpa using h, But.refl _ _⟩
 case round =>
  obtain ⟨k, hk, rfl, hH, hB⟩ := hrel
  by_cases hlt : k < ns.length
  ·have hc : wr.cell? ⟨nb, k, none⟩ = some (.int .u16 (ns[k]?.getD 0)) := by
    rw [block_cell ((hB.block nb hnl (fun e => e.2 hn)).trans hnb)]
    simp [hlt]
   have hz : 0 ≤ ns[k]?.getD 0 ∧ ns[k]?.getD 0 ≤ 65535 := by
    have := hbd ns[k] (List.getElem_mem hlt)
    simpa [hlt] using this
   have HF := hide (flat_take b2 ns k hlt)
   have hlen : ((ys ++ (ns.take k).flatMap b2)).length + 2 ≤ 140737488355328 := by rw [List.length_append, b2_len, List.length_take]; omega
   generalize ns[k]?.getD 0 = z at *
   have hlt' : (k : Int) < ns.length := by omega
   have hA : Later wr (wr.alloc (.cells #[.int .u8 (z / 256), .int .u8 (z % 256)] 5)) := (Below.refl _ _).alloc (Nat.le_refl _) _
   have hHA := (hH.alloc (.cells #[.int .u8 (z / 256), .int .u8 (z % 256)] 5)).weaken (N' := N) (fun b hb => .inl hb)
   have hR := Rd.new2 (z / 256) (z % 256) 5 wr
   go_wp2_with fail
   generalize wr.alloc (.cells #[.int .u8 (z / 256), .int .u8 (z % 256)] 5) = w1 at *
   refine (put_any tl t ub N _ _ [z / 256, z % 256] _ w1 hHA (fun b hb => ⟨Nat.lt_of_lt_of_le (hN b hb).1 (Nat.le_trans hB.size hA.size), (hN b hb).2⟩) hR hlen).mono ?_
   rintro e w2 ⟨rfl, hH2, hB2⟩
   go_wp2_with fail
   go_roundw
   case rel => exact ⟨k + 1, by omega, by go_num, by rw [HF.out, ← List.append_assoc]; exact hH2, (hB.trans (But.of hA)).trans hB2⟩
   case measure => simp [intOf]; omega
  ·obtain rfl : k = ns.length := by omega
   rw [List.take_length] at hH
   go_wp2
   go_end0
   exact ⟨rfl, hH, hB⟩
end Go.Proofs.YtofknbfbmaefoaaGreatDoor
