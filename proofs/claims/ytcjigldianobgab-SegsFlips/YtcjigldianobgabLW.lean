/- One bit of a segment turned: it is refused. -/
import Derived.Test.YtcjigldianobgabMp
import Derived.Test.YtcjigldianobgabSS
namespace Go.Proofs.Ytcjigldianobgab
open Go.RowKit Go.Shelf
set_option maxRecDepth 100000
set_option linter.unusedVariables false
set_option linter.unusedSimpArgs false

theorem pte_flip {src dst : Int} {bb : List Int} {n : Nat} (hn : bb.length = n) (hg : Mt.cks (psd src dst 6 n ++ bb) = 0) (j : Nat) (hj : j < n) (r : Nat) (hr : r < 8) (y : Int) (hy : y = bb[j]?.getD 0 + ((2 ^ r : Nat) : Int) ∨ y = bb[j]?.getD 0 - ((2 ^ r : Nat) : Int)) : pte 6 src dst (bb.set j y) ≠ 0 := by
  have hc : Mt.cks (psd src dst 6 n ++ bb.set j y) ≠ 0 := by
    have h1 := cks_flip (psd src dst 6 n ++ bb) hg (12 + j) (by rw [List.length_append, psd_length]; omega) r hr y (by rw [List.getElem?_append_right (by rw [psd_length]; omega), psd_length, show 12 + j - 12 = j from by omega]; exact hy)
    rw [List.set_append_right _ _ (by rw [psd_length]; omega), psd_length, show 12 + j - 12 = j from by omega] at h1
    exact h1
  have hp : ptc 6 src dst (bb.set j y) ≠ 0 := fun h => by
    have := (ptc_zero h).2.2.2.2.2
    rw [List.length_set, hn] at this
    exact hc this
  unfold pte
  rw [if_pos hp]
  exact hp

set_option maxHeartbeats 8000000 in
theorem walk_SegsFlips (w : World) (tos id ttl proto src dst : Int) (keep : Bool) (so sd : Value) (zo zd : List Int) (hBo : Mt.By zo) (hBd : Mt.By zd) (hIo : Rd w.heap.size w so zo) (hId : Rd w.heap.size w sd zd) (h1 : zo.length ≤ 140737488351232) (h2 : zd.length ≤ 140737488351232) (ht : 0 ≤ tos ∧ tos ≤ 255) (hid : 0 ≤ id ∧ id ≤ 65535) (htt : 0 ≤ ttl ∧ ttl ≤ 255) (hpr : 0 ≤ proto ∧ proto ≤ 255) (hsr : 0 ≤ src ∧ src ≤ 4294967295) (hds : 0 ≤ dst ∧ dst ≤ 4294967295)
    (sp dp sq ak fl wn ur : Int) (sO sm : Value) (os : List Opt) (zm : List Int) (hBO : ByO os) (hBm : Mt.By zm) (hIO : RdO w.heap.size w sO os) (hIm : Rd w.heap.size w sm zm) (hlO : ∀ o ∈ os, o.2.length ≤ 140737488351232) (hlm : zm.length ≤ 140737488351232) (hsp : 0 ≤ sp ∧ sp ≤ 65535) (hdp : 0 ≤ dp ∧ dp ≤ 65535) (hsq : 0 ≤ sq ∧ sq ≤ 4294967295) (hak : 0 ≤ ak ∧ ak ≤ 4294967295) (hfl : 0 ≤ fl ∧ fl ≤ 255) (hwn : 0 ≤ wn ∧ wn ≤ 65535) (hur : 0 ≤ ur ∧ ur ≤ 65535) (x : Int) (hx : 0 ≤ x ∧ x ≤ 65535) :
    Calls Try.prog 4 #[.agg #[.int .u8 tos, .int .u16 id, .bool keep, .int .u8 ttl, .int .u8 proto, .int .u32 src, .int .u32 dst, so, sd], .agg #[.int .u16 sp, .int .u16 dp, .int .u32 sq, .int .u32 ak, .int .u8 fl, .int .u16 wn, .int .u16 ur, sO, sm], .int .u16 x] w fun e w' => e = .returned (.bool true) ∧ Below w.heap.size w w' := by
  obtain ⟨ao, co, rfl, _, _⟩ := hIo.slice
  obtain ⟨ad, cd, rfl, _, _⟩ := hId.slice
  obtain ⟨aO, cO, rfl, _, _⟩ := hIO.slice
  obtain ⟨am, cm, rfl, _, _⟩ := hIm.slice
  have hb0 : Below w.heap.size w ((w.alloc (.cells #[.int .u8 tos, .int .u16 id, .bool keep, .int .u8 ttl, .int .u8 proto, .int .u32 src, .int .u32 dst, .slice ao zo.length co, .slice ad zd.length cd] 36)).alloc (.cells #[.int .u16 sp, .int .u16 dp, .int .u32 sq, .int .u32 ak, .int .u8 fl, .int .u16 wn, .int .u16 ur, .slice aO os.length cO, .slice am zm.length cm] 27)) := ((Below.refl _ _).alloc (Nat.le_refl _) _).alloc (by simp) _
  go_enter Try.func4, Try.ntmps4
  go_wp2_with fail
  generalize (w.alloc (.cells #[.int .u8 tos, .int .u16 id, .bool keep, .int .u8 ttl, .int .u8 proto, .int .u32 src, .int .u32 dst, .slice ao zo.length co, .slice ad zd.length cd] 36)).alloc (.cells #[.int .u16 sp, .int .u16 dp, .int .u32 sq, .int .u32 ak, .int .u8 fl, .int .u16 wn, .int .u16 ur, .slice aO os.length cO, .slice am zm.length cm] 27) = W0 at *
  refine (buildTcp_any tos id ttl proto src dst sp dp sq ak fl wn ur keep _ _ _ _ zo zm os W0 hBo ((hIo.below hb0).mono hb0.size) hBm ((hIm.below hb0).mono hb0.size) hBO ((hIO.below hb0).mono hb0.size) (fun o ho => by have := hlO o ho; omega) (by omega) (by omega) ht hid htt hsr hds hsp hdp hsq hak hfl hwn hur).mono ?_
  rintro e w1 ⟨hb1, ⟨hf, rfl⟩ | ⟨hf, a7, c7, a8, c8, rfl, hO, hD⟩⟩
  · have hw1 := hb0.trans (hb1.mono hb0.size)
    have t1 : (bte os zo.length zm.length != 0) = true := by simp [hf]
    have HF := hide hf
    clear hf
    go_upto_region 3 with fail
    generalize hV : w1.alloc _ = W1
    have hw2 := hw1.trans ((show Later w1 W1 by rw [← hV]; exact (Below.refl _ w1).alloc (Nat.le_refl _) _).mono hw1.size)
    clear hV
    go_wp2_with fail
    refine (live3_any _).mono ?_
    rintro e w2 ⟨rfl, hb2⟩
    have hw3 := hw2.trans (hb2.mono hw2.size)
    go_wp2_with fail
    go_ret
    exact ⟨rfl, hw3⟩
  · have hw1 := hb0.trans (hb1.mono hb0.size)
    obtain ⟨hok, hlo, hlm4, hall⟩ := bte_fit hf
    have hB0 := By_tcp0 sp dp sq ak fl wn ur (pad (obs os)) zm hsp hdp hsq hak hfl hwn hur (pad_le _ hok.2) (By_pad _ (By_obs os hBO hok.2)) hBm
    have hBi := By_tcp sp dp sq ak fl wn ur (pad (obs os)) src dst zm hB0
    have hgd := tcp_good sp dp sq ak fl wn ur (pad (obs os)) src dst zm hsr hds hB0
    have hln := tcp_length sp dp sq ak fl wn ur (pad (obs os)) src dst zm
    clear hf
    obtain ⟨n, HN⟩ : ∃ n, Hid ((20 + (pad (obs os)).length + zm.length) = n) := ⟨_, rfl⟩
    have hn8 : 20 ≤ n := by have := HN.out; omega
    have hnb : n ≤ 65515 := by have := HN.out; omega
    rw [HN.out] at hD hln hgd ⊢
    have HLn := hide hln
    clear hln
    generalize tcp sp dp sq ak fl wn ur (pad (obs os)) src dst zm = bb at *
    obtain ⟨k, hk⟩ : ∃ k : Nat, x % ((n : Int) * 8) = (k : Int) := ⟨(x % ((n : Int) * 8)).toNat, by have := Int.emod_nonneg x (show (n : Int) * 8 ≠ 0 by omega); omega⟩
    have hkb : (k : Int) < n * 8 := by rw [← hk]; exact Int.emod_lt_of_pos x (by omega)
    obtain ⟨j, hj⟩ : ∃ j : Nat, (k : Int) / 8 = (j : Int) := ⟨k / 8, by omega⟩
    obtain ⟨r, hr⟩ : ∃ r : Nat, (k : Int) % 8 = (r : Int) := ⟨k % 8, by omega⟩
    have hjn : j < n := by omega
    have hr8 : r < 8 := by omega
    have t8 : ¬ (n : Int) < 20 := by omega
    have t9 : ¬ (n : Int) * 8 = 0 := by omega
    have t10 : 0 ≤ (n : Int) * 8 := by omega
    go_upto_region 7 with fail
    rw [hk]
    generalize hV : w1.alloc _ = w2
    have l2 : Later w1 w2 := by rw [← hV]; exact (Below.refl _ w1).alloc (Nat.le_refl _) _
    have a2 : w2.heap[w1.heap.size]? = some (.cells #[.int .u8 tos, .int .u16 id, .bool keep, .int .u8 ttl, .int .u8 6, .int .u32 src, .int .u32 dst, .slice a7 zo.length c7, .slice a8 n c8] 36 (0, 0)) := by rw [← hV]; exact heap_alloc_new w1 _
    clear hV
    have hw2 := hw1.trans (l2.mono hw1.size)
    obtain ⟨g, rfl, hn', hgb, hcf, hset⟩ := (hD.later l2).at (by have := HLn.out; omega)
    have hgw : g < w1.heap.size := by
      obtain ⟨g', e', _, _, hcf', _⟩ := hD.at (by have := HLn.out; omega)
      simp at e'
      subst e'
      exact World.block_lt_of_cell? w1 _ (hcf' 0 (by have := HLn.out; omega)).1
    have hjl : j < bb.length := by have := HLn.out; omega
    obtain ⟨hcz, hfz⟩ := hcf j hjl
    have hsj := fun y => hset j y hjl
    have bz := hBi.at j
    obtain ⟨z, HZ⟩ : ∃ z, Hid (bb[j]?.getD 0 = z) := ⟨_, rfl⟩
    rw [HZ.out] at bz hcz
    obtain ⟨p, HP⟩ : ∃ p : Int, Hid (p = ((2 ^ r : Nat) : Int)) := ⟨_, rfl⟩
    have hxx := u8_flip z bz r hr8 p HP.out
    obtain ⟨y, HY⟩ : ∃ y, Hid (bits .xor .u8 z p = y) := ⟨_, rfl⟩
    rw [HY.out] at hxx
    clear hn' hk hcf hset
    refine anyT_begin (R := But (fun b => b = g)) 12 rfl (by kernel_rfl) ?_
    have hd : Later w2 w2.drew := Later.drew w2
    have hne : w1.heap.size ≠ g := by omega
    have ha : ∀ v1, But (fun b => b = g) w2.drew v1 → ∀ i, v1.cell? ⟨w1.heap.size, i, none⟩ = #[.int .u8 tos, .int .u16 id, .bool keep, .int .u8 ttl, .int .u8 6, .int .u32 src, .int .u32 dst, .slice a7 zo.length c7, .slice (some ⟨g, 0, none⟩) n c8][i]? := fun v1 h => block_cell ((((But.of hd).trans h).block w1.heap.size (Array.getElem?_eq_some_iff.1 a2).1 hne).trans a2)
    have hjn' : (j : Int) < n := by omega
    refine anyT_val (But.pre _) 0 rfl (by kernel_rfl) (by kernel_rfl) (by kernel_rfl) (fun _ _ _ _ h => h) rfl ?_; apply Exists.intro; refine ⟨fun v1 hv1 => ?_, ?_⟩; (· (go_simp; rfl)); simp only [Act.put, List.setIfInBounds_toArray, List.set_cons_zero, List.set_cons_succ]
    refine anyT_val (But.pre _) 1 rfl (by kernel_rfl) (by kernel_rfl) (by kernel_rfl) (fun _ _ _ _ h => h) rfl ?_; apply Exists.intro; refine ⟨fun v1 hv1 => ?_, ?_⟩; (· (go_simp; rfl)); simp only [Act.put, List.setIfInBounds_toArray, List.set_cons_zero, List.set_cons_succ]
    refine anyT_val (But.pre _) 2 rfl (by kernel_rfl) (by kernel_rfl) (by kernel_rfl) (fun _ _ _ _ h => h) rfl ?_; apply Exists.intro; refine ⟨fun v1 hv1 => ?_, ?_⟩; (· (go_simp; rfl)); simp only [Act.put, List.setIfInBounds_toArray, List.set_cons_zero, List.set_cons_succ]
    have HWJ : Hid (IntKind.i64.wrap (j : Int) = j) := by show _ = _; simp [IntKind.wrap, IntKind.bits, IntKind.signed]; omega
    have HRM : Hid ((k : Int).tmod 8 = r) := by show _ = _; rw [Int.tmod_eq_emod_of_nonneg (by omega)]; exact hr
    have HSH : Hid (IntKind.u8.wrap (2 ^ r) = p) := by
      show _ = _
      rw [HP.out]
      have hrr : r = 0 ∨ r = 1 ∨ r = 2 ∨ r = 3 ∨ r = 4 ∨ r = 5 ∨ r = 6 ∨ r = 7 := by omega
      rcases hrr with rfl | rfl | rfl | rfl | rfl | rfl | rfl | rfl <;> decide
    refine anyT_val (But.pre _) 3 rfl (by kernel_rfl) (by kernel_rfl) (by kernel_rfl) (fun _ _ _ _ h => h) rfl ⟨.int .i64 j, fun v1 hv1 => by go_simp; rw [HWJ.out], ?_⟩
    simp only [Act.put, List.setIfInBounds_toArray, List.set_cons_zero, List.set_cons_succ]
    have hc5 : ∀ v1, v1 = w2.drew → v1.cell? ⟨g, j, none⟩ = some (.int .u8 z) := fun v1 e => by subst e; exact hcz
    have j0 : (0 : Int) ≤ j := by omega
    refine anyT_val (But.pre _) 4 rfl (by kernel_rfl) (by kernel_rfl) (by kernel_rfl) (fun _ _ _ _ h => h) rfl ?_; apply Exists.intro; refine ⟨fun v1 hv1 => ?_, ?_⟩; (· (go_simp; rfl)); simp only [Act.put, List.setIfInBounds_toArray, List.set_cons_zero, List.set_cons_succ]
    refine anyT_val (But.pre _) 6 rfl (by kernel_rfl) (by kernel_rfl) (by kernel_rfl) (fun _ _ _ _ h => h) rfl ?_; apply Exists.intro; refine ⟨fun v1 hv1 => ?_, ?_⟩; (· (go_simp; rfl)); simp only [Act.put, List.setIfInBounds_toArray, List.set_cons_zero, List.set_cons_succ]
    refine anyT_val (But.pre _) 7 rfl (by kernel_rfl) (by kernel_rfl) (by kernel_rfl) (fun _ _ _ _ h => h) rfl ⟨.int .i64 r, fun v1 hv1 => by go_simp; rw [HRM.out], ?_⟩
    simp only [Act.put, List.setIfInBounds_toArray, List.set_cons_zero, List.set_cons_succ]
    refine anyT_val (But.pre _) 8 rfl (by kernel_rfl) (by kernel_rfl) (by kernel_rfl) (fun _ _ _ _ h => h) rfl ⟨.int .u8 p, fun v1 hv1 => by go_simp; rw [HSH.out], ?_⟩
    simp only [Act.put, List.setIfInBounds_toArray, List.set_cons_zero, List.set_cons_succ]
    refine anyT_one 5 rfl (by kernel_rfl) rfl ?_
    have cz := hc5 _ rfl
    have fz : (w2.drew).frozen? ⟨g, j, none⟩ = false := hfz
    unfold Oper.wp
    go_simp
    refine ⟨But.refl _ _, ?_⟩
    refine anyT_val (But.pre _) 9 rfl (by kernel_rfl) (by kernel_rfl) (by kernel_rfl) (fun _ _ _ _ h => h) rfl ⟨.int .u8 y, fun v1 hv1 => by go_simp; rw [HY.out], ?_⟩
    simp only [Act.put, List.setIfInBounds_toArray, List.set_cons_zero, List.set_cons_succ]
    refine anyT_val (But.pre _) 10 rfl (by kernel_rfl) (by kernel_rfl) (by kernel_rfl) (fun _ _ _ _ h => h) rfl ?_; apply Exists.intro; refine ⟨fun v1 hv1 => ?_, ?_⟩; (· (go_simp; rfl)); simp only [Act.put, List.setIfInBounds_toArray, List.set_cons_zero, List.set_cons_succ]
    refine anyT_one 11 rfl (by kernel_rfl) rfl ?_
    unfold Oper.wp
    go_simp
    refine ⟨(But.refl (fun b => b = g) _).setCell (p := ⟨g, j, none⟩) rfl _, ?_⟩
    refine anyT_done (by kernel_rfl) ?_
    have lD : Later (w2.setCell ⟨g, j, none⟩ (.int .u8 y)) (w2.setCell ⟨g, j, none⟩ (.int .u8 y)).drew := Later.drew _
    have hO3 := (hsj y).later lD
    have a3 := (Below.heap_setCell w2 ⟨g, j, none⟩ (.int .u8 y) w1.heap.size (by simpa using hne)).trans a2
    have a3 := (lD.block w1.heap.size (Array.getElem?_eq_some_iff.1 a3).1).trans a3
    have hw3 := hw2.setCell (p := ⟨g, j, none⟩) (Nat.le_trans hb0.size hgb) (.int .u8 y)
    have hw3 := hw3.trans (lD.mono hw3.size)
    clear lD
    have A3 := block_cell a3
    clear ha cz fz hc5 hcz hfz hsj
    go_wp2_with fail
    generalize (w2.setCell ⟨g, j, none⟩ (.int .u8 y)).drew = w3 at *
    have hBy : Mt.By (bb.set j y) := hBi.set j hxx.2
    have hly : (bb.set j y).length = n := by rw [List.length_set, HLn.out]
    have hpi := pte_flip HLn.out hgd j hjn r hr8 y (by rw [HZ.out, ← HP.out]; exact hxx.1)
    refine (parseTcp_any tos id ttl 6 src dst keep _ _ (bb.set j y) w3 hBy hO3.rd (by rw [hly]; omega) hsr hds).mono ?_
    obtain ⟨pc, HPC⟩ : ∃ pc, Hid (pte 6 src dst (bb.set j y) = pc) := ⟨_, rfl⟩
    rw [HPC.out] at hpi ⊢
    rintro e w4 ⟨hb4, ⟨_, rfl⟩ | ⟨h5, _⟩⟩
    · have l5 : Later w4 (w4.alloc (.cells zsg.toArray 27)) := (Below.refl _ _).alloc (Nat.le_refl _) _
      have hw5 := hw3.trans ((Later.trans hb4 l5).mono hw3.size)
      have t5 : (pc != 0) = true := by simp [hpi]
      clear A3 hpi
      go_wp2_with fail
      refine (live3_any _).mono ?_
      rintro e w6 ⟨rfl, hb6⟩
      have hw6 := hw5.trans (hb6.mono hw5.size)
      go_wp2_with fail
      go_ret
      exact ⟨rfl, hw6⟩
    · exact absurd h5 hpi
end Go.Proofs.Ytcjigldianobgab
