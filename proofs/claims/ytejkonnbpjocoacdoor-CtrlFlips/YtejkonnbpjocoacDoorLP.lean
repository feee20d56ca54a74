/- The walk of the law CtrlFlips. -/
import Derived.Test.YtejkonnbpjocoacDoorRt
import Derived.Test.YtejkonnbpjocoacDoorMf
import Derived.Test.YtejkonnbpjocoacDoorCM
namespace Go.Proofs.YtejkonnbpjocoacDoor
open Go.RowKit Go.Shelf
set_option maxRecDepth 100000
set_option linter.unusedVariables false
set_option linter.unusedSimpArgs false

set_option maxHeartbeats 8000000 in
theorem walk_CtrlFlips (w : World) (hT : Tb w) (tos id ttl proto src dst : Int) (keep : Bool) (so sd : Value) (zo zd : List Int) (hBo : Mt.By zo) (hBd : Mt.By zd) (hIo : Rd w.heap.size w so zo) (hId : Rd w.heap.size w sd zd) (hlo : zo.length ≤ 140737488355328) (hld : zd.length ≤ 140737488355328)
    (ht : 0 ≤ tos ∧ tos ≤ 255) (hid : 0 ≤ id ∧ id ≤ 65535) (htt : 0 ≤ ttl ∧ ttl ≤ 255) (hpr : 0 ≤ proto ∧ proto ≤ 255) (hsr : 0 ≤ src ∧ src ≤ 4294967295) (hds : 0 ≤ dst ∧ dst ≤ 4294967295)
    (ty cde rest : Int) (sm : Value) (zm : List Int) (hBm : Mt.By zm) (hIm : Rd w.heap.size w sm zm) (hlm : zm.length ≤ 140737488351232) (hty : 0 ≤ ty ∧ ty ≤ 255) (hcd : 0 ≤ cde ∧ cde ≤ 255) (hre : 0 ≤ rest ∧ rest ≤ 4294967295) (x : Int) (hx : 0 ≤ x ∧ x ≤ 65535) :
    Calls Tryd.prog 6 #[.agg #[.int .u8 tos, .int .u16 id, .bool keep, .int .u8 ttl, .int .u8 proto, .int .u32 src, .int .u32 dst, so, sd], .agg #[.int .u8 ty, .int .u8 cde, .int .u32 rest, sm], .int .u16 x] w fun e w' => e = .returned (.bool true) ∧ Below w.heap.size w w' := by
  obtain ⟨ao, co, rfl, _, _⟩ := hIo.slice
  obtain ⟨ad, cd, rfl, _, _⟩ := hId.slice
  obtain ⟨am, cm, rfl, _, _⟩ := hIm.slice
  have hb0 : Below w.heap.size w ((w.alloc (.cells #[.int .u8 tos, .int .u16 id, .bool keep, .int .u8 ttl, .int .u8 proto, .int .u32 src, .int .u32 dst, .slice ao zo.length co, .slice ad zd.length cd] 26)).alloc (.cells #[.int .u8 ty, .int .u8 cde, .int .u32 rest, .slice am zm.length cm] 28)) := ((Below.refl _ _).alloc (Nat.le_refl _) _).alloc (by simp) _
  go_enter Tryd.func6, Tryd.ntmps6
  go_wp2_with fail
  generalize (w.alloc (.cells #[.int .u8 tos, .int .u16 id, .bool keep, .int .u8 ttl, .int .u8 proto, .int .u32 src, .int .u32 dst, .slice ao zo.length co, .slice ad zd.length cd] 26)).alloc (.cells #[.int .u8 ty, .int .u8 cde, .int .u32 rest, .slice am zm.length cm] 28) = w0 at *
  refine (buildIcmp_u tos id ttl proto src dst keep _ _ zo ty cde rest _ zm w0 hBo ((hIo.below hb0).mono hb0.size) hBm ((hIm.below hb0).mono hb0.size) hlo (by omega) ht hid htt hsr hds hty hcd hre).mono ?_
  rintro e w1 ⟨hb1, x0a, x1a, x2a, x3a, x4a, x5a, x6a, a7a, l7a, c7a, a8a, l8a, c8a, eca, rfl, hC1⟩
  have HC1 := hide hC1
  clear hC1
  have a2 := heap_alloc_new w1 (.cells #[.int .u8 x0a, .int .u16 x1a, .bool x2a, .int .u8 x3a, .int .u8 x4a, .int .u32 x5a, .int .u32 x6a, .slice a7a l7a c7a, .slice a8a l8a c8a] 26)
  have l2 : Later w1 (w1.alloc (.cells #[.int .u8 x0a, .int .u16 x1a, .bool x2a, .int .u8 x3a, .int .u8 x4a, .int .u32 x5a, .int .u32 x6a, .slice a7a l7a c7a, .slice a8a l8a c8a] 26)) := (Below.refl _ _).alloc (Nat.le_refl _) _
  have l02 := Later.trans hb1 l2
  have hw2 := hb0.trans (l02.mono hb0.size)
  by_cases h0 : eca = 0
  · obtain ⟨hf, ⟨rfl, rfl, rfl, rfl, rfl, rfl, rfl, rfl, rfl⟩, hO, hD⟩ := HC1.out h0
    have hb : (eca != 0) = false := by simp [h0]
    have hv := flt_fit hf
    have hBi := By_icm ty cde rest zm hty hcd hre hBm
    have hgd := icm_good ty cde rest zm hty hcd hre hBm
    have hln := icm_length ty cde rest zm
    clear h0 hf HC1
    obtain ⟨n, HN⟩ : ∃ n, Hid (8 + zm.length = n) := ⟨_, rfl⟩
    have hn8 : 8 ≤ n := by have := HN.out; omega
    have hnb : n ≤ 65515 := by have := HN.out; omega
    rw [HN.out] at hD hln a2 l2 l02 hw2 ⊢
    have HLn := hide hln
    clear hln
    generalize icm ty cde rest zm = bb at *
    -- the bit
    obtain ⟨k, hk⟩ : ∃ k : Nat, x % ((n : Int) * 8) = (k : Int) := ⟨(x % ((n : Int) * 8)).toNat, by have := Int.emod_nonneg x (show (n : Int) * 8 ≠ 0 by omega); omega⟩
    have hkb : (k : Int) < n * 8 := by rw [← hk]; exact Int.emod_lt_of_pos x (by omega)
    obtain ⟨j, hj⟩ : ∃ j : Nat, (k : Int) / 8 = (j : Int) := ⟨k / 8, by omega⟩
    obtain ⟨r, hr⟩ : ∃ r : Nat, (k : Int) % 8 = (r : Int) := ⟨k % 8, by omega⟩
    have hjn : j < n := by omega
    have hr8 : r < 8 := by omega
    have t8 : ¬ (n : Int) < 8 := by omega
    have t9 : ¬ (n : Int) * 8 = 0 := by omega
    have t10 : 0 ≤ (n : Int) * 8 := by omega
    have A2 := block_cell a2
    go_upto_region 7 with fail
    rw [hk]
    obtain ⟨g, rfl, hn', hgb, hcf, hset⟩ := (hD.later l2).at (by have := HLn.out; omega)
    have hgw : g < w1.heap.size := by
      obtain ⟨g', e', _, _, hcf', _⟩ := hD.at (by have := HLn.out; omega)
      simp at e'
      subst e'
      exact World.block_lt_of_cell? w1 _ (hcf' 0 (by have := HLn.out; omega)).1
    have hjl : j < bb.length := by have := HLn.out; omega
    obtain ⟨hcz, hfz⟩ := hcf j hjl
    have hsj := fun y => hset j y hjl
    have bz := hBi.at j
    obtain ⟨z, HZ⟩ : ∃ z, Hid (bb[j]?.getD 0 = z) := ⟨_, rfl⟩
    rw [HZ.out] at bz hcz
    obtain ⟨p, HP⟩ : ∃ p : Int, Hid (p = ((2 ^ r : Nat) : Int)) := ⟨_, rfl⟩
    have hxx := u8_flip z bz r hr8 p HP.out
    obtain ⟨y, HY⟩ : ∃ y, Hid (bits .xor .u8 z p = y) := ⟨_, rfl⟩
    rw [HY.out] at hxx
    generalize w1.alloc (.cells #[.int .u8 x0a, .int .u16 x1a, .bool x2a, .int .u8 x3a, .int .u8 1, .int .u32 x5a, .int .u32 x6a, .slice a7a zo.length c7a, .slice (some ⟨g, 0, none⟩) n c8a] 26) = w2 at *
    clear hn' hk hcf hset
    refine anyT_begin (R := But (fun b => b = g)) 12 rfl (by kernel_rfl) ?_
    have hd : Later w2 w2.drew := Later.drew w2
    have hne : w1.heap.size ≠ g := by omega
    have ha : ∀ v1, But (fun b => b = g) w2.drew v1 → ∀ i, v1.cell? ⟨w1.heap.size, i, none⟩ = #[Value.int .u8 x0a, .int .u16 x1a, .bool x2a, .int .u8 x3a, .int .u8 1, .int .u32 x5a, .int .u32 x6a, .slice a7a zo.length c7a, .slice (some ⟨g, 0, none⟩) n c8a][i]? := fun v1 h => block_cell ((((But.of hd).trans h).block w1.heap.size (Array.getElem?_eq_some_iff.1 a2).1 hne).trans a2)
    have hjn' : (j : Int) < n := by omega
    refine anyT_val (But.pre _) 0 rfl (by kernel_rfl) (by kernel_rfl) (by kernel_rfl) (fun _ _ _ _ h => h) rfl ?_; apply Exists.intro; refine ⟨fun v1 hv1 => ?_, ?_⟩; (· (go_simp; rfl)); simp only [Act.put, List.setIfInBounds_toArray, List.set_cons_zero, List.set_cons_succ]
    refine anyT_val (But.pre _) 1 rfl (by kernel_rfl) (by kernel_rfl) (by kernel_rfl) (fun _ _ _ _ h => h) rfl ?_; apply Exists.intro; refine ⟨fun v1 hv1 => ?_, ?_⟩; (· (go_simp; rfl)); simp only [Act.put, List.setIfInBounds_toArray, List.set_cons_zero, List.set_cons_succ]
    refine anyT_val (But.pre _) 2 rfl (by kernel_rfl) (by kernel_rfl) (by kernel_rfl) (fun _ _ _ _ h => h) rfl ?_; apply Exists.intro; refine ⟨fun v1 hv1 => ?_, ?_⟩; (· (go_simp; rfl)); simp only [Act.put, List.setIfInBounds_toArray, List.set_cons_zero, List.set_cons_succ]
    have HWJ : Hid (IntKind.i64.wrap (j : Int) = j) := by show _ = _; simp [IntKind.wrap, IntKind.bits, IntKind.signed]; omega
    have HRM : Hid ((k : Int).tmod 8 = r) := by show _ = _; rw [Int.tmod_eq_emod_of_nonneg (by omega)]; exact hr
    have HSH : Hid (IntKind.u8.wrap (2 ^ r) = p) := by
      show _ = _
      rw [HP.out]
      have hrr : r = 0 ∨ r = 1 ∨ r = 2 ∨ r = 3 ∨ r = 4 ∨ r = 5 ∨ r = 6 ∨ r = 7 := by omega
      rcases hrr with rfl | rfl | rfl | rfl | rfl | rfl | rfl | rfl <;> decide
    refine anyT_val (But.pre _) 3 rfl (by kernel_rfl) (by kernel_rfl) (by kernel_rfl) (fun _ _ _ _ h => h) rfl ⟨.int .i64 j, fun v1 hv1 => by go_simp; rw [HWJ.out], ?_⟩
    simp only [Act.put, List.setIfInBounds_toArray, List.set_cons_zero, List.set_cons_succ]
    have hc5 : ∀ v1, v1 = w2.drew → v1.cell? ⟨g, j, none⟩ = some (.int .u8 z) := fun v1 e => by subst e; exact hcz
    have j0 : (0 : Int) ≤ j := by omega
    refine anyT_val (But.pre _) 4 rfl (by kernel_rfl) (by kernel_rfl) (by kernel_rfl) (fun _ _ _ _ h => h) rfl ?_; apply Exists.intro; refine ⟨fun v1 hv1 => ?_, ?_⟩; (· (go_simp; rfl)); simp only [Act.put, List.setIfInBounds_toArray, List.set_cons_zero, List.set_cons_succ]
    refine anyT_val (But.pre _) 6 rfl (by kernel_rfl) (by kernel_rfl) (by kernel_rfl) (fun _ _ _ _ h => h) rfl ?_; apply Exists.intro; refine ⟨fun v1 hv1 => ?_, ?_⟩; (· (go_simp; rfl)); simp only [Act.put, List.setIfInBounds_toArray, List.set_cons_zero, List.set_cons_succ]
    refine anyT_val (But.pre _) 7 rfl (by kernel_rfl) (by kernel_rfl) (by kernel_rfl) (fun _ _ _ _ h => h) rfl ⟨.int .i64 r, fun v1 hv1 => by go_simp; rw [HRM.out], ?_⟩
    simp only [Act.put, List.setIfInBounds_toArray, List.set_cons_zero, List.set_cons_succ]
    refine anyT_val (But.pre _) 8 rfl (by kernel_rfl) (by kernel_rfl) (by kernel_rfl) (fun _ _ _ _ h => h) rfl ⟨.int .u8 p, fun v1 hv1 => by go_simp; rw [HSH.out], ?_⟩
    simp only [Act.put, List.setIfInBounds_toArray, List.set_cons_zero, List.set_cons_succ]
    refine anyT_one 5 rfl (by kernel_rfl) rfl ?_
    have cz := hc5 _ rfl
    have fz : (w2.drew).frozen? ⟨g, j, none⟩ = false := hfz
    unfold Oper.wp
    go_simp
    refine ⟨But.refl _ _, ?_⟩
    refine anyT_val (But.pre _) 9 rfl (by kernel_rfl) (by kernel_rfl) (by kernel_rfl) (fun _ _ _ _ h => h) rfl ⟨.int .u8 y, fun v1 hv1 => by go_simp; rw [HY.out], ?_⟩
    simp only [Act.put, List.setIfInBounds_toArray, List.set_cons_zero, List.set_cons_succ]
    refine anyT_val (But.pre _) 10 rfl (by kernel_rfl) (by kernel_rfl) (by kernel_rfl) (fun _ _ _ _ h => h) rfl ?_; apply Exists.intro; refine ⟨fun v1 hv1 => ?_, ?_⟩; (· (go_simp; rfl)); simp only [Act.put, List.setIfInBounds_toArray, List.set_cons_zero, List.set_cons_succ]
    refine anyT_one 11 rfl (by kernel_rfl) rfl ?_
    unfold Oper.wp
    go_simp
    refine ⟨(But.refl (fun b => b = g) _).setCell (p := ⟨g, j, none⟩) rfl _, ?_⟩
    refine anyT_done (by kernel_rfl) ?_
    have lD : Later (w2.setCell ⟨g, j, none⟩ (.int .u8 y)) (w2.setCell ⟨g, j, none⟩ (.int .u8 y)).drew := Later.drew _
    have hO3 := (hsj y).later lD
    have a3 := (Below.heap_setCell w2 ⟨g, j, none⟩ (.int .u8 y) w1.heap.size (by simpa using hne)).trans a2
    have a3 := (lD.block w1.heap.size (Array.getElem?_eq_some_iff.1 a3).1).trans a3
    have hw3 := hw2.setCell (p := ⟨g, j, none⟩) (Nat.le_trans hb0.size hgb) (.int .u8 y)
    have hw3 := hw3.trans (lD.mono hw3.size)
    clear lD
    have A3 := block_cell a3
    clear ha cz fz hc5 hcz hfz hsj
    go_wp2_with fail
    generalize (w2.setCell ⟨g, j, none⟩ (.int .u8 y)).drew = w3 at *
    have hBy : Mt.By (bb.set j y) := hBi.set j hxx.2
    have hly : (bb.set j y).length = n := by rw [List.length_set, HLn.out]
    have hpi : pie 1 (bb.set j y) = 5 := by
      have hc := cks_flip bb hgd j hjl r hr8 y (by rw [HZ.out, ← HP.out]; exact hxx.1)
      unfold pie
      rw [if_neg (by simp), hly, if_neg (by omega), if_pos hc]
    refine (parseIcmp_any x0a x1a x3a 1 x5a x6a x2a _ _ (bb.set j y) w3 hBy hO3.rd (by rw [hly]; omega)).mono ?_
    rw [hpi]
    rintro e w4 ⟨hb4, ⟨_, rfl⟩ | ⟨h5, _⟩⟩
    · have m5 := heap_alloc_new w4 (.cells #[.int .u8 0, .int .u8 0, .int .u32 0, .slice none 0 0] 28)
      have l5 : Later w4 (w4.alloc (.cells #[.int .u8 0, .int .u8 0, .int .u32 0, .slice none 0 0] 28)) := (Below.refl _ _).alloc (Nat.le_refl _) _
      have hw5 := hw3.trans ((Later.trans hb4 l5).mono hw3.size)
      clear A3 hpi
      go_wp2_with fail
      generalize w4.alloc (.cells #[.int .u8 0, .int .u8 0, .int .u32 0, .slice none 0 0] 28) = w5 at *
      refine (live4_any w5 (hT.below hw5 hT.pos)).mono ?_
      rintro e w6 ⟨rfl, hb6⟩
      have M6 := block_cell ((hb6.block w4.heap.size (Array.getElem?_eq_some_iff.1 m5).1).trans m5)
      go_wp2_with fail
      refine (rsameIcmp_any 0 0 0 0 0 0 _ _ [] [] w6 Mt.By.nil Mt.By.nil (rd_zero w6) (rd_zero w6)).mono ?_
      rw [show smI 0 0 0 0 0 0 [] [] = true from rfl]
      rintro e w7 ⟨rfl, hb7⟩
      go_wp2
      go_ret
      exact ⟨rfl, hw5.trans ((Later.trans hb6 hb7).mono hw5.size)⟩
    · exact absurd h5 (by omega)
  · have hb : (eca != 0) = true := by simp [h0]
    clear h0 HC1
    go_wp2_with fail
    generalize w1.alloc (.cells #[.int .u8 x0a, .int .u16 x1a, .bool x2a, .int .u8 x3a, .int .u8 x4a, .int .u32 x5a, .int .u32 x6a, .slice a7a l7a c7a, .slice a8a l8a c8a] 26) = w2 at *
    refine (live4_any w2 (hT.below hw2 hT.pos)).mono ?_
    rintro e w9 ⟨rfl, hb9⟩
    go_wp2
    go_ret
    exact ⟨rfl, hw2.trans (hb9.mono hw2.size)⟩
end Go.Proofs.YtejkonnbpjocoacDoor
