/- Layer 15: how many bytes differ; what a message says with another call. -/
import Derived.Test.YtochdlmggbhmfaaJG
namespace Go.Proofs.Ytochdlmggbhmfaa
open Go.RowKit Go.Shelf
set_option maxRecDepth 100000
set_option linter.unusedVariables false
set_option linter.unusedSimpArgs false

/-- How many of the first k bytes differ. -/
def dif (xs ys : List Int) : Nat → Nat
  | 0 => 0
  | k + 1 => dif xs ys k + bif xs[k]?.getD 0 == ys[k]?.getD 0 then 0 else 1
theorem dif_le (xs ys : List Int) : ∀ k, dif xs ys k ≤ k
  | 0 => Nat.le_refl _
  | k + 1 => by have := dif_le xs ys k; unfold dif; cases (xs[k]?.getD 0 == ys[k]?.getD 0) <;> simp <;> omega
theorem dif_two (xs ys : List Int) (p : Nat) (h : ∀ j, j ≠ p → j ≠ p + 1 → xs[j]? = ys[j]?) : ∀ k, dif xs ys k ≤ (if p < k then 1 else 0) + (if p + 1 < k then 1 else 0)
  | 0 => by simp [dif]
  | k + 1 => by
    have ih := dif_two xs ys p h k
    unfold dif
    by_cases h1 : k = p
    · have : (bif xs[k]?.getD 0 == ys[k]?.getD 0 then 0 else 1) ≤ 1 := by cases (xs[k]?.getD 0 == ys[k]?.getD 0) <;> simp
      subst h1
      rw [if_neg (by omega), if_neg (by omega)] at ih
      rw [if_pos (by omega), if_neg (by omega)]
      omega
    by_cases h2 : k = p + 1
    · have : (bif xs[k]?.getD 0 == ys[k]?.getD 0 then 0 else 1) ≤ 1 := by cases (xs[k]?.getD 0 == ys[k]?.getD 0) <;> simp
      subst h2
      rw [if_pos (by omega), if_neg (by omega)] at ih
      rw [if_pos (by omega), if_pos (by omega)]
      omega
    have e : (xs[k]?.getD 0 == ys[k]?.getD 0) = true := by rw [h k h1 h2]; simp
    rw [e]
    simp only [cond_true, Nat.add_zero]
    refine Nat.le_trans ih ?_
    split <;> split <;> split <;> split <;> omega
theorem dif_put (zs : List Int) (p v : Int) (k : Nat) : dif (putAt2 zs p v) zs k ≤ 2 := by
  unfold putAt2
  split
  · refine Nat.le_trans (dif_two _ _ p.toNat (fun j h1 h2 => Mt.put2_other _ _ _ _ h1 h2) k) ?_
    split <;> split <;> omega
  · refine Nat.le_trans (dif_two _ _ 0 (fun j h1 h2 => rfl) k) ?_
    split <;> split <;> omega

set_option maxHeartbeats 4000000 in
theorem differ_any {n₀ : Nat} (sa sb : Value) (xs ys : List Int) (hl : xs.length = ys.length) (hb : ys.length ≤ 65535) (w : World) (hn : n₀ ≤ w.heap.size) (hx : Rd n₀ w sa xs) (hy : Rd n₀ w sb ys) :
    Calls Try.prog 18 #[sa, sb] w fun e w' => e = .returned (.int .i64 (dif xs ys ys.length : Int)) ∧ Later w w' := by
  obtain ⟨a, ca, rfl, _, _⟩ := hx.slice
  obtain ⟨b, cb, rfl, _, _⟩ := hy.slice
  rw [hl] at hx ⊢
  go_enter Try.func18, Try.ntmps18
  go_wp2_with fail
  go_loopw [5, 6] (fun nv iv wr => ∃ k : Nat, k ≤ ys.length ∧ nv = .int .i64 (dif xs ys k : Int) ∧ iv = .int .i64 (k : Int) ∧ Later w wr) (fun _ iv _ => ys.length - (intOf iv).toNat)
  case atStart => exact ⟨0, by omega, rfl, rfl, Later.refl _⟩
  case round =>
    obtain ⟨k, hk, rfl, rfl, lr⟩ := hrel
    by_cases hkl : k < ys.length
    · have hkl' : (k : Int) < ys.length := by omega
      obtain ⟨bx, ox, cpx, ex, _, _, _, hcx⟩ := hx.cells (by omega)
      obtain ⟨by', oy, cpy, ey, _, _, _, hcy⟩ := hy.cells (by omega)
      rw [hl] at ex
      simp at ex ey
      obtain ⟨rfl, rfl⟩ := ex
      obtain ⟨rfl, rfl⟩ := ey
      have HD : Hid (dif xs ys (k + 1) = dif xs ys k + bif xs[k]?.getD 0 == ys[k]?.getD 0 then 0 else 1) := rfl
      have hdl := dif_le xs ys k
      have dx := hcx k (by omega)
      have dy := hcy k hkl
      generalize xs[k]?.getD 0 = x at *
      generalize ys[k]?.getD 0 = y at *
      obtain ⟨dk, HDK⟩ : ∃ d, Hid (dif xs ys k = d) := ⟨_, rfl⟩
      rw [HDK.out] at hdl HD ⊢
      have hdl' : (dk : Int) ≤ 65535 := by omega
      have hd0 : (0 : Int) ≤ dk := by omega
      clear hcx hcy
      go_upto_region 5 with fail
      refine anyR_begin (R := Later) Later.pre Later.drew 9 rfl (by kernel_rfl) (fun V0 hV0 => ?_)
      have cx : ∀ v, Later V0 v → v.cell? ⟨bx, ox + k, none⟩ = some (.int .u8 x) := fun v hv => (lr.trans (hV0.trans hv)).cell dx
      have cy : ∀ v, Later V0 v → v.cell? ⟨by', oy + k, none⟩ = some (.int .u8 y) := fun v hv => (lr.trans (hV0.trans hv)).cell dy
      refine anyR_val Later.pre 0 rfl (by kernel_rfl) (by kernel_rfl) (by kernel_rfl) (fun _ _ _ _ h => h) rfl ?_; apply Exists.intro; refine ⟨fun v1 hv1 => ?_, ?_⟩; (· (go_simp; rfl)); simp only [Act.put, List.setIfInBounds_toArray, List.set_cons_zero, List.set_cons_succ]
      refine anyR_val Later.pre 1 rfl (by kernel_rfl) (by kernel_rfl) (by kernel_rfl) (fun _ _ _ _ h => h) rfl ?_; apply Exists.intro; refine ⟨fun v1 hv1 => ?_, ?_⟩; (· (go_simp; rfl)); simp only [Act.put, List.setIfInBounds_toArray, List.set_cons_zero, List.set_cons_succ]
      refine anyR_val Later.pre 2 rfl (by kernel_rfl) (by kernel_rfl) (by kernel_rfl) (fun _ _ _ _ h => h) rfl ?_; apply Exists.intro; refine ⟨fun v1 hv1 => ?_, ?_⟩; (· (go_simp; rfl)); simp only [Act.put, List.setIfInBounds_toArray, List.set_cons_zero, List.set_cons_succ]
      refine anyR_val Later.pre 3 rfl (by kernel_rfl) (by kernel_rfl) (by kernel_rfl) (fun _ _ _ _ h => h) rfl ?_; apply Exists.intro; refine ⟨fun v1 hv1 => ?_, ?_⟩; (· (go_simp; rfl)); simp only [Act.put, List.setIfInBounds_toArray, List.set_cons_zero, List.set_cons_succ]
      refine anyR_val Later.pre 4 rfl (by kernel_rfl) (by kernel_rfl) (by kernel_rfl) (fun _ _ _ _ h => h) rfl ?_; apply Exists.intro; refine ⟨fun v1 hv1 => ?_, ?_⟩; (· (go_simp; rfl)); simp only [Act.put, List.setIfInBounds_toArray, List.set_cons_zero, List.set_cons_succ]
      refine anyR_val Later.pre 5 rfl (by kernel_rfl) (by kernel_rfl) (by kernel_rfl) (fun _ _ _ _ h => h) rfl ?_; apply Exists.intro; refine ⟨fun v1 hv1 => ?_, ?_⟩; (· (go_simp; rfl)); simp only [Act.put, List.setIfInBounds_toArray, List.set_cons_zero, List.set_cons_succ]
      refine anyR_val Later.pre 6 rfl (by kernel_rfl) (by kernel_rfl) (by kernel_rfl) (fun _ _ _ _ h => h) rfl ?_; apply Exists.intro; refine ⟨fun v1 hv1 => ?_, ?_⟩; (· (go_simp; rfl)); simp only [Act.put, List.setIfInBounds_toArray, List.set_cons_zero, List.set_cons_succ]
      refine anyR_val Later.pre 7 rfl (by kernel_rfl) (by kernel_rfl) (by kernel_rfl) (fun _ _ _ _ h => h) rfl ?_; apply Exists.intro; refine ⟨fun v1 hv1 => ?_, ?_⟩; (· (go_simp; rfl)); simp only [Act.put, List.setIfInBounds_toArray, List.set_cons_zero, List.set_cons_succ]
      refine anyR_val Later.pre 8 rfl (by kernel_rfl) (by kernel_rfl) (by kernel_rfl) (fun _ _ _ _ h => h) rfl ?_; apply Exists.intro; refine ⟨fun v1 hv1 => ?_, ?_⟩; (· (go_simp; rfl)); simp only [Act.put, List.setIfInBounds_toArray, List.set_cons_zero, List.set_cons_succ]
      refine anyR_done (by kernel_rfl) (fun VD hVD => ?_)
      have lD : Later w VD := lr.trans (hV0.trans hVD)
      clear cx cy dx dy hV0 hVD
      cases hxy : (x == y) with
      | true =>
        have hxy2 : (x != y) = false := by simp [bne, hxy]
        rw [hxy] at HD
        clear hxy
        go_wp2_with fail
        go_roundw
        case rel => exact ⟨k + 1, by omega, by rw [HD.out]; simp, by go_num, lD⟩
        case measure => simp [intOf]; omega
      | false =>
        have hxy2 : (x != y) = true := by simp [bne, hxy]
        rw [hxy] at HD
        clear hxy
        go_wp2_with fail
        go_roundw
        case rel => exact ⟨k + 1, by omega, by rw [HD.out]; simp, by go_num, lD⟩
        case measure => simp [intOf]; omega
    · have hke : k = ys.length := by omega
      subst hke
      go_wp2_with fail
      go_ret
      exact ⟨rfl, lr⟩

/-- Bytes of the same head are told the same. -/
theorem lye_head {xs zs : List Int} (hl : xs.length = zs.length) (h : ∀ j, j < 12 → xs[j]? = zs[j]?) : lye xs = lye zs ∧ getAt2 xs 8 = getAt2 zs 8 := by
  have e8 : getAt2 xs 8 = getAt2 zs 8 := by
    unfold getAt2
    rw [hl]
    split
    · show wat xs 8 = wat zs 8
      unfold wat
      rw [h 8 (by omega), h 9 (by omega)]
    · rfl
  refine ⟨?_, e8⟩
  have ek : hdk xs = hdk zs := by
    unfold hdk
    rw [h 0 (by omega), h 1 (by omega), h 2 (by omega), h 3 (by omega), h 4 (by omega), h 5 (by omega), h 6 (by omega), h 7 (by omega), h 8 (by omega), h 9 (by omega), h 10 (by omega), h 11 (by omega), hl, e8]
  unfold lye
  rw [hl, ek, e8]
theorem put_head (zs : List Int) (p v : Int) (hp : p = -1 ∨ 12 ≤ p) : ∀ j, j < 12 → (putAt2 zs p v)[j]? = zs[j]? := by
  intro j hj
  unfold putAt2
  split
  · exact Mt.put2_other _ _ _ _ (by omega) (by omega)
  · rfl
theorem lca_at {t : Int} (h : lkn t = true) : (t = 15 ∧ lca t = -1 ∧ lpe t = 12) ∨ (t = 8 ∧ lca t = 12 ∧ lpe t = 14) ∨ (t ≠ 15 ∧ t ≠ 8 ∧ lca t = 12 ∧ lpe t = -1) := by
  unfold lkn at h
  simp only [Bool.or_eq_true, beq_iff_eq] at h
  rcases h with ((((rfl | rfl) | rfl) | rfl) | rfl) <;> decide
theorem getAt2_put (zs : List Int) (p v : Int) (h : 0 ≤ p ∧ p + 2 ≤ zs.length) (hv : 0 ≤ v) : getAt2 (putAt2 zs p v) p = v := by
  unfold getAt2
  rw [putAt2_length, if_pos h]
  unfold putAt2
  rw [if_pos h]
  exact wat_put2 _ _ _ (by omega) hv
theorem getAt2_put_other (zs : List Int) (p q v : Int) (h : q + 2 ≤ p ∨ p + 2 ≤ q) : getAt2 (putAt2 zs p v) q = getAt2 zs q := by
  unfold getAt2
  rw [putAt2_length]
  split
  · rename_i hq
    unfold putAt2
    split
    · rename_i hp
      exact wat_put2_other _ _ _ _ (by omega)
    · rfl
  · rfl
theorem put16_keep (zs : List Int) (p v : Int) (hp : p = -1 ∨ p = 12 ∨ p = 14) : (putAt2 zs p v)[16]? = zs[16]? := by
  unfold putAt2
  split
  · exact Mt.put2_other _ _ _ _ (by omega) (by omega)
  · rfl

theorem lyC_yes {zs : List Int} (h : lye zs = 0) : lyC zs = lca (getAt2 zs 8) := by unfold lyC; rw [if_pos h]
theorem lyP_yes {zs : List Int} (h : lye zs = 0) : lyP zs = lpe (getAt2 zs 8) := by unfold lyP; rw [if_pos h]
theorem pmT_yes {zs : List Int} (h : lye zs = 0) : pmT zs = getAt2 zs 8 := by unfold pmT; rw [if_pos h]

/-- What a message says with another call, with another call of the peer's. -/
theorem keep_call {zs : List Int} (h : lye zs = 0) (v : Int) (hv : 0 ≤ v) :
    lye (putAt2 zs (lyC zs) v) = 0 ∧ msg (pmT (putAt2 zs (lyC zs) v)) (getAt2 (putAt2 zs (lyC zs) v) (lyC (putAt2 zs (lyC zs) v))) (getAt2 (putAt2 zs (lyC zs) v) (lyP (putAt2 zs (lyC zs) v))) (pmR (putAt2 zs (lyC zs) v)) = msg (pmT zs) (if pmT zs = 15 then getAt2 zs (lyC zs) else v) (getAt2 zs (lyP zs)) (pmR zs) := by
  obtain ⟨h1, h2, h3, h4, h5⟩ := lye_yes h
  have hsz := lsz_known h4
  have eC : lyC zs = lca (getAt2 zs 8) := by unfold lyC; rw [if_pos h]
  have eP : lyP zs = lpe (getAt2 zs 8) := by unfold lyP; rw [if_pos h]
  have eT : pmT zs = getAt2 zs 8 := by unfold pmT; rw [if_pos h]
  have hla := lca_at h4
  have hpp : lyC zs = -1 ∨ lyC zs = 12 := by rw [eC]; omega
  obtain ⟨g1, g2⟩ := lye_head (putAt2_length zs (lyC zs) v) (put_head zs (lyC zs) v (by omega))
  have g1' : lye (putAt2 zs (lyC zs) v) = 0 := by rw [g1, h]
  have e16 := put16_keep zs (lyC zs) v (by omega)
  have fC : lyC (putAt2 zs (lyC zs) v) = lyC zs := by rw [lyC_yes g1', g2, ← eC]
  have fP : lyP (putAt2 zs (lyC zs) v) = lyP zs := by rw [lyP_yes g1', g2, ← eP]
  have fT : pmT (putAt2 zs (lyC zs) v) = pmT zs := by rw [eT, pmT_yes g1', g2]
  have fR : pmR (putAt2 zs (lyC zs) v) = pmR zs := by unfold pmR; rw [g1', h, g2, e16]
  refine ⟨g1', ?_⟩
  rw [fC, fP, fT, fR]
  have m1 : getAt2 (putAt2 zs (lyC zs) v) (lyC zs) = if pmT zs = 15 then getAt2 zs (lyC zs) else v := by
    rw [eT]
    by_cases c : getAt2 zs 8 = 15
    · rw [if_pos c, show lyC zs = -1 from by rw [eC]; omega, putAt2_neg]
    · rw [if_neg c, show lyC zs = 12 from by rw [eC]; omega]
      exact getAt2_put zs 12 v (by omega) hv
  have m2 : getAt2 (putAt2 zs (lyC zs) v) (lyP zs) = getAt2 zs (lyP zs) := by
    rcases hla with ⟨c, k1, k2⟩ | ⟨c, k1, k2⟩ | ⟨c, c2, k1, k2⟩
    · rw [show lyC zs = -1 from by rw [eC, k1], putAt2_neg]
    · rw [show lyC zs = 12 from by rw [eC, k1], show lyP zs = 14 from by rw [eP, k2]]
      exact getAt2_put_other _ _ _ _ (by omega)
    · rw [show lyC zs = 12 from by rw [eC, k1], show lyP zs = -1 from by rw [eP, k2], getAt2_neg, getAt2_neg]
  rw [m1, m2]
theorem keep_peer {zs : List Int} (h : lye zs = 0) (v : Int) (hv : 0 ≤ v) :
    lye (putAt2 zs (lyP zs) v) = 0 ∧ msg (pmT (putAt2 zs (lyP zs) v)) (getAt2 (putAt2 zs (lyP zs) v) (lyC (putAt2 zs (lyP zs) v))) (getAt2 (putAt2 zs (lyP zs) v) (lyP (putAt2 zs (lyP zs) v))) (pmR (putAt2 zs (lyP zs) v)) = msg (pmT zs) (getAt2 zs (lyC zs)) (if pmT zs = 15 ∨ pmT zs = 8 then v else getAt2 zs (lyP zs)) (pmR zs) := by
  obtain ⟨h1, h2, h3, h4, h5⟩ := lye_yes h
  have hsz := lsz_known h4
  have eC : lyC zs = lca (getAt2 zs 8) := by unfold lyC; rw [if_pos h]
  have eP : lyP zs = lpe (getAt2 zs 8) := by unfold lyP; rw [if_pos h]
  have eT : pmT zs = getAt2 zs 8 := by unfold pmT; rw [if_pos h]
  have hla := lca_at h4
  have hpp : lyP zs = -1 ∨ lyP zs = 12 ∨ lyP zs = 14 := by rw [eP]; omega
  obtain ⟨g1, g2⟩ := lye_head (putAt2_length zs (lyP zs) v) (put_head zs (lyP zs) v (by omega))
  have g1' : lye (putAt2 zs (lyP zs) v) = 0 := by rw [g1, h]
  have e16 := put16_keep zs (lyP zs) v (by omega)
  have fC : lyC (putAt2 zs (lyP zs) v) = lyC zs := by rw [lyC_yes g1', g2, ← eC]
  have fP : lyP (putAt2 zs (lyP zs) v) = lyP zs := by rw [lyP_yes g1', g2, ← eP]
  have fT : pmT (putAt2 zs (lyP zs) v) = pmT zs := by rw [eT, pmT_yes g1', g2]
  have fR : pmR (putAt2 zs (lyP zs) v) = pmR zs := by unfold pmR; rw [g1', h, g2, e16]
  refine ⟨g1', ?_⟩
  rw [fC, fP, fT, fR]
  have m1 : getAt2 (putAt2 zs (lyP zs) v) (lyP zs) = if pmT zs = 15 ∨ pmT zs = 8 then v else getAt2 zs (lyP zs) := by
    rw [eT]
    rcases hla with ⟨c, k1, k2⟩ | ⟨c, k1, k2⟩ | ⟨c, c2, k1, k2⟩
    · have : (zs.length : Int) = 24 := by rw [h5, c]; rfl
      rw [if_pos (.inl c), show lyP zs = 12 from by rw [eP, k2]]
      exact getAt2_put zs 12 v (by omega) hv
    · have : (zs.length : Int) = 32 := by rw [h5, c]; rfl
      rw [if_pos (.inr c), show lyP zs = 14 from by rw [eP, k2]]
      exact getAt2_put zs 14 v (by omega) hv
    · rw [if_neg (by omega), show lyP zs = -1 from by rw [eP, k2], putAt2_neg]
  have m2 : getAt2 (putAt2 zs (lyP zs) v) (lyC zs) = getAt2 zs (lyC zs) := by
    rcases hla with ⟨c, k1, k2⟩ | ⟨c, k1, k2⟩ | ⟨c, c2, k1, k2⟩
    · rw [show lyC zs = -1 from by rw [eC, k1], getAt2_neg, getAt2_neg]
    · rw [show lyC zs = 12 from by rw [eC, k1], show lyP zs = 14 from by rw [eP, k2]]
      exact getAt2_put_other _ _ _ _ (by omega)
    · rw [show lyP zs = -1 from by rw [eP, k2], putAt2_neg]
  rw [m1, m2]
end Go.Proofs.Ytochdlmggbhmfaa
