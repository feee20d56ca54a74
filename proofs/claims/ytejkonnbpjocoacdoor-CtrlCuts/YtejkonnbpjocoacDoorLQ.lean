/- The walk of the law CtrlCuts. -/
import Derived.Test.YtejkonnbpjocoacDoorRt
import Derived.Test.YtejkonnbpjocoacDoorCM
namespace Go.Proofs.YtejkonnbpjocoacDoor
open Go.RowKit Go.Shelf
set_option maxRecDepth 100000
set_option linter.unusedVariables false
set_option linter.unusedSimpArgs false

set_option maxHeartbeats 8000000 in
theorem walk_CtrlCuts (w : World) (hT : Tb w) (tos id ttl proto src dst : Int) (keep : Bool) (so sd : Value) (zo zd : List Int) (hBo : Mt.By zo) (hBd : Mt.By zd) (hIo : Rd w.heap.size w so zo) (hId : Rd w.heap.size w sd zd) (hlo : zo.length ≤ 140737488355328) (hld : zd.length ≤ 140737488355328)
    (ht : 0 ≤ tos ∧ tos ≤ 255) (hid : 0 ≤ id ∧ id ≤ 65535) (htt : 0 ≤ ttl ∧ ttl ≤ 255) (hpr : 0 ≤ proto ∧ proto ≤ 255) (hsr : 0 ≤ src ∧ src ≤ 4294967295) (hds : 0 ≤ dst ∧ dst ≤ 4294967295)
    (cl sq ak : Int) (hs ha : Bool) (sm : Value) (zm : List Int) (hBm : Mt.By zm) (hIm : Rd w.heap.size w sm zm) (hlm : zm.length ≤ 140737488351232) (hcl : 0 ≤ cl ∧ cl ≤ 65535) (hsq : 0 ≤ sq ∧ sq ≤ 4294967295) (hak : 0 ≤ ak ∧ ak ≤ 4294967295) (x : Int) (hx : 0 ≤ x ∧ x ≤ 65535) :
    Calls Tryd.prog 7 #[.agg #[.int .u8 tos, .int .u16 id, .bool keep, .int .u8 ttl, .int .u8 proto, .int .u32 src, .int .u32 dst, so, sd], .agg #[.int .u16 cl, .bool hs, .bool ha, .int .u32 sq, .int .u32 ak, sm], .int .u16 x] w fun e w' => e = .returned (.bool true) ∧ Below w.heap.size w w' := by
  obtain ⟨ao, co, rfl, _, _⟩ := hIo.slice
  obtain ⟨ad, cd, rfl, _, _⟩ := hId.slice
  obtain ⟨am, cm, rfl, _, _⟩ := hIm.slice
  have hb0 : Below w.heap.size w ((w.alloc (.cells #[.int .u8 tos, .int .u16 id, .bool keep, .int .u8 ttl, .int .u8 proto, .int .u32 src, .int .u32 dst, .slice ao zo.length co, .slice ad zd.length cd] 26)).alloc (.cells #[.int .u16 cl, .bool hs, .bool ha, .int .u32 sq, .int .u32 ak, .slice am zm.length cm] 30)) := ((Below.refl _ _).alloc (Nat.le_refl _) _).alloc (by simp) _
  go_enter Tryd.func7, Tryd.ntmps7
  go_wp2_with fail
  generalize (w.alloc (.cells #[.int .u8 tos, .int .u16 id, .bool keep, .int .u8 ttl, .int .u8 proto, .int .u32 src, .int .u32 dst, .slice ao zo.length co, .slice ad zd.length cd] 26)).alloc (.cells #[.int .u16 cl, .bool hs, .bool ha, .int .u32 sq, .int .u32 ak, .slice am zm.length cm] 30) = w0 at *
  refine (buildGre_u tos id ttl proto src dst keep _ _ zo cl sq ak hs ha _ zm w0 (hT.below hb0 hT.pos) hBo ((hIo.below hb0).mono hb0.size) hBm ((hIm.below hb0).mono hb0.size) hlo (by omega) ht hid htt hsr hds hcl hsq hak).mono ?_
  rintro e w1 ⟨hb1, x0a, x1a, x2a, x3a, x4a, x5a, x6a, a7a, l7a, c7a, a8a, l8a, c8a, eca, rfl, hC1⟩
  have HC1 := hide hC1
  clear hC1
  have a2 := heap_alloc_new w1 (.cells #[.int .u8 x0a, .int .u16 x1a, .bool x2a, .int .u8 x3a, .int .u8 x4a, .int .u32 x5a, .int .u32 x6a, .slice a7a l7a c7a, .slice a8a l8a c8a] 26)
  have l2 : Later w1 (w1.alloc (.cells #[.int .u8 x0a, .int .u16 x1a, .bool x2a, .int .u8 x3a, .int .u8 x4a, .int .u32 x5a, .int .u32 x6a, .slice a7a l7a c7a, .slice a8a l8a c8a] 26)) := (Below.refl _ _).alloc (Nat.le_refl _) _
  have l02 := Later.trans hb1 l2
  have hw2 := hb0.trans (l02.mono hb0.size)
  by_cases h0 : eca = 0
  · obtain ⟨hf, hg, ⟨rfl, rfl, rfl, rfl, rfl, rfl, rfl, rfl, rfl⟩, hO, hD⟩ := HC1.out h0
    have hb : (eca != 0) = false := by simp [h0]
    have hv := flt_fit hf
    have hgn : grn hs ha zm.length = 8 + ((if hs then 4 else 0) + (if ha then 4 else 0)) + zm.length := rfl
    have hBi := By_grb cl hs ha sq ak zm hcl hsq hak hBm
    have hcutm := grb_cut cl hs ha sq ak zm
    have hmore := grb_more cl hs ha sq ak zm (by omega)
    have hcutm := fun m h => hcutm m (by omega) h
    have hln := grb_length cl hs ha sq ak zm
    clear h0 hf HC1 hg
    obtain ⟨n, HN⟩ : ∃ n, Hid (grn hs ha zm.length = n) := ⟨_, rfl⟩
    have hn8 : 8 ≤ n := by have := HN.out; omega
    clear hgn
    rw [HN.out] at hv hD hln a2 l2 l02 hw2 hcutm ⊢
    have hnb : n ≤ 65515 := by omega
    have HLn := hide hln
    have HCM := hide hcutm
    have HMO := hide hmore
    clear hln hcutm hmore
    generalize grb cl hs ha sq ak zm = bb at *
    obtain ⟨k, hk⟩ : ∃ k : Nat, x % (n : Int) = (k : Int) := ⟨(x % (n : Int)).toNat, by have := Int.emod_nonneg x (show (n : Int) ≠ 0 by omega); omega⟩
    have hkb : (k : Int) < n := by rw [← hk]; exact Int.emod_lt_of_pos x (by omega)
    have HK := hide hk
    clear hk
    have t8 : ¬ (n : Int) < 8 := by omega
    have A2 := block_cell a2
    go_upto_region 6 with fail
    obtain ⟨g, rfl, hn', hgb, hcf, hset⟩ := (hD.later l2).at (by have := HLn.out; omega)
    clear hn' hcf hset
    have hs2 : w1.heap.size < (w1.alloc (.cells #[.int .u8 x0a, .int .u16 x1a, .bool x2a, .int .u8 x3a, .int .u8 47, .int .u32 x5a, .int .u32 x6a, .slice a7a zo.length c7a, .slice (some ⟨g, 0, none⟩) n c8a] 26)).heap.size := by simp
    generalize w1.alloc (.cells #[.int .u8 x0a, .int .u16 x1a, .bool x2a, .int .u8 x3a, .int .u8 47, .int .u32 x5a, .int .u32 x6a, .slice a7a zo.length c7a, .slice (some ⟨g, 0, none⟩) n c8a] 26) = w2 at *
    go_cut [9, 10] (fun y z wx => ∃ cb mb, y = .pointer (some ⟨cb, 0, none⟩) ∧ z = .pointer (some ⟨mb, 0, none⟩) ∧ cb ≠ mb ∧ w2.heap.size ≤ cb ∧ w2.heap.size ≤ mb ∧ Later w2 wx ∧ wx.heap[cb]? = some (.cells #[.int .u8 x0a, .int .u16 x1a, .bool x2a, .int .u8 x3a, .int .u8 47, .int .u32 x5a, .int .u32 x6a, .slice a7a zo.length c7a, .slice (some ⟨g, 0, none⟩) n c8a] 26 (0, 0)) ∧ wx.heap[mb]? = some (.cells #[.int .u8 x0a, .int .u16 x1a, .bool x2a, .int .u8 x3a, .int .u8 47, .int .u32 x5a, .int .u32 x6a, .slice a7a zo.length c7a, .slice (some ⟨g, 0, none⟩) n c8a] 26 (0, 0)))
    case first =>
      refine anyT_begin (R := But (fun b => w2.heap.size ≤ b)) 6 rfl (by kernel_rfl) ?_
      have hd : Later w2 w2.drew := Later.drew w2
      have ha : ∀ v1, But (fun b => w2.heap.size ≤ b) w2.drew v1 → ∀ i, v1.cell? ⟨w1.heap.size, i, none⟩ = #[Value.int .u8 x0a, .int .u16 x1a, .bool x2a, .int .u8 x3a, .int .u8 47, .int .u32 x5a, .int .u32 x6a, .slice a7a zo.length c7a, .slice (some ⟨g, 0, none⟩) n c8a][i]? := fun v1 h => block_cell ((((But.of hd).trans h).block w1.heap.size (Array.getElem?_eq_some_iff.1 a2).1 (by omega)).trans a2)
      refine anyT_val (But.pre _) 0 rfl (by kernel_rfl) (by kernel_rfl) (by kernel_rfl) (fun _ _ _ _ h => h) rfl ?_; apply Exists.intro; refine ⟨fun v1 hv1 => ?_, ?_⟩; (· (go_simp; rfl)); simp only [Act.put, List.setIfInBounds_toArray, List.set_cons_zero, List.set_cons_succ]
      refine anyT_val (But.pre _) 1 rfl (by kernel_rfl) (by kernel_rfl) (by kernel_rfl) (fun _ _ _ _ h => h) rfl ?_; apply Exists.intro; refine ⟨fun v1 hv1 => ?_, ?_⟩; (· (go_simp; rfl)); simp only [Act.put, List.setIfInBounds_toArray, List.set_cons_zero, List.set_cons_succ]
      refine anyT_two 2 3 rfl rfl (by kernel_rfl) rfl rfl ?_ ?_
      · unfold Oper.wp
        go_simp
        have z3 : ((w2.alloc (.cells #[.int .u8 0, .int .u16 0, .bool false, .int .u8 0, .int .u8 0, .int .u32 0, .int .u32 0, .slice none 0 0, .slice none 0 0] 26)).drew).heap[w2.heap.size]? = some (.cells #[.int .u8 0, .int .u16 0, .bool false, .int .u8 0, .int .u8 0, .int .u32 0, .int .u32 0, .slice none 0 0, .slice none 0 0] 26) := heap_alloc_new w2 _
        have s3 : ((w2.alloc (.cells #[.int .u8 0, .int .u16 0, .bool false, .int .u8 0, .int .u8 0, .int .u32 0, .int .u32 0, .slice none 0 0, .slice none 0 0] 26)).drew).heap.size = w2.heap.size + 1 := by simp
        have l3 : Later w2 ((w2.alloc (.cells #[.int .u8 0, .int .u16 0, .bool false, .int .u8 0, .int .u8 0, .int .u32 0, .int .u32 0, .slice none 0 0, .slice none 0 0] 26)).drew) := ((Below.refl _ _).alloc (Nat.le_refl _) _).trans ((Later.drew _).mono (by simp))
        have m3 : Later w2.drew ((w2.alloc (.cells #[.int .u8 0, .int .u16 0, .bool false, .int .u8 0, .int .u8 0, .int .u32 0, .int .u32 0, .slice none 0 0, .slice none 0 0] 26)).drew) := ⟨l3.os, l3.tape, l3.output, l3.size, l3.block⟩
        refine ⟨But.of m3, ?_⟩
        generalize (w2.alloc (.cells #[.int .u8 0, .int .u16 0, .bool false, .int .u8 0, .int .u8 0, .int .u32 0, .int .u32 0, .slice none 0 0, .slice none 0 0] 26)).drew = W3 at *
        have S3 := hide s3
        clear s3
        refine anyT_one 3 rfl (by kernel_rfl) rfl ?_
        unfold Oper.wp
        go_simp
        have l4 : Later W3 (W3.alloc (.cells #[.int .u8 0, .int .u16 0, .bool false, .int .u8 0, .int .u8 0, .int .u32 0, .int .u32 0, .slice none 0 0, .slice none 0 0] 26)) := (Below.refl _ _).alloc (Nat.le_refl _) _
        have z4 := heap_alloc_new W3 (.cells #[.int .u8 0, .int .u16 0, .bool false, .int .u8 0, .int .u8 0, .int .u32 0, .int .u32 0, .slice none 0 0, .slice none 0 0] 26)
        have z5 := (l4.block w2.heap.size (Array.getElem?_eq_some_iff.1 z3).1).trans z3
        refine ⟨But.of l4, ?_⟩
        generalize W3.alloc (.cells #[.int .u8 0, .int .u16 0, .bool false, .int .u8 0, .int .u8 0, .int .u32 0, .int .u32 0, .slice none 0 0, .slice none 0 0] 26) = W4 at *
        have hcm : w2.heap.size ≠ W3.heap.size := by have := S3.out; omega
        have hcl : w2.heap.size ≤ w2.heap.size := by have := S3.out; omega
        have hml : w2.heap.size ≤ W3.heap.size := by have := S3.out; omega
        have zc : W4.heap[w2.heap.size]? = some (.cells #[.int .u8 0, .int .u16 0, .bool false, .int .u8 0, .int .u8 0, .int .u32 0, .int .u32 0, .slice none 0 0, .slice none 0 0] 26) := by first | exact z4 | exact z5
        have zm : W4.heap[W3.heap.size]? = some (.cells #[.int .u8 0, .int .u16 0, .bool false, .int .u8 0, .int .u8 0, .int .u32 0, .int .u32 0, .slice none 0 0, .slice none 0 0] 26) := by first | exact z4 | exact z5
        generalize hcb : w2.heap.size = cb at *
        generalize hmb : W3.heap.size = mb at *
        refine anyT_one 4 rfl (by kernel_rfl) rfl ?_
        have k4 : ∀ j, W4.cell? ⟨cb, j, none⟩ = _ := block_cell zc
        have f4 : ∀ j, W4.frozen? ⟨cb, j, none⟩ = false := block_frozen zc
        unfold Oper.wp
        go_simp
        generalize hV7 : ((((((((W4.setCell ⟨cb, 0, none⟩ _).setCell ⟨cb, 1, none⟩ _).setCell ⟨cb, 2, none⟩ _).setCell ⟨cb, 3, none⟩ _).setCell ⟨cb, 4, none⟩ _).setCell ⟨cb, 5, none⟩ _).setCell ⟨cb, 6, none⟩ _).setCell ⟨cb, 7, none⟩ _).setCell ⟨cb, 8, none⟩ _ = V7
        have hV8 : V7 = putRow W4 cb 0 [.int .u8 x0a, .int .u16 x1a, .bool x2a, .int .u8 x3a, .int .u8 47, .int .u32 x5a, .int .u32 x6a, .slice a7a zo.length c7a, .slice (some ⟨g, 0, none⟩) n c8a] := hV7.symm
        have hb7 : But (fun b => b = cb) W4 V7 := by rw [hV8]; exact putRow_rb _ _
        have p7 := putRow_all [Value.int .u8 x0a, .int .u16 x1a, .bool x2a, .int .u8 x3a, .int .u8 47, .int .u32 x5a, .int .u32 x6a, .slice a7a zo.length c7a, .slice (some ⟨g, 0, none⟩) n c8a] zc rfl
        rw [← hV8] at p7
        have q7 := (hb7.block mb (Array.getElem?_eq_some_iff.1 zm).1 (Ne.symm hcm)).trans zm
        clear hV7 hV8 k4 f4
        refine ⟨⟨hb7.os, hb7.tape, hb7.output, hb7.size, fun i hi he => hb7.block i hi (fun e => he (by omega))⟩, ?_⟩
        refine anyT_one 5 rfl (by kernel_rfl) rfl ?_
        have k4 : ∀ j, V7.cell? ⟨mb, j, none⟩ = _ := block_cell q7
        have f4 : ∀ j, V7.frozen? ⟨mb, j, none⟩ = false := block_frozen q7
        unfold Oper.wp
        go_simp
        generalize hV9 : ((((((((V7.setCell ⟨mb, 0, none⟩ _).setCell ⟨mb, 1, none⟩ _).setCell ⟨mb, 2, none⟩ _).setCell ⟨mb, 3, none⟩ _).setCell ⟨mb, 4, none⟩ _).setCell ⟨mb, 5, none⟩ _).setCell ⟨mb, 6, none⟩ _).setCell ⟨mb, 7, none⟩ _).setCell ⟨mb, 8, none⟩ _ = V9
        have hV8 : V9 = putRow V7 mb 0 [.int .u8 x0a, .int .u16 x1a, .bool x2a, .int .u8 x3a, .int .u8 47, .int .u32 x5a, .int .u32 x6a, .slice a7a zo.length c7a, .slice (some ⟨g, 0, none⟩) n c8a] := hV9.symm
        have hb9 : But (fun b => b = mb) V7 V9 := by rw [hV8]; exact putRow_rb _ _
        have q9 := putRow_all [Value.int .u8 x0a, .int .u16 x1a, .bool x2a, .int .u8 x3a, .int .u8 47, .int .u32 x5a, .int .u32 x6a, .slice a7a zo.length c7a, .slice (some ⟨g, 0, none⟩) n c8a] q7 rfl
        rw [← hV8] at q9
        have p9 := (hb9.block cb (Array.getElem?_eq_some_iff.1 p7).1 hcm).trans p7
        clear hV9 hV8 k4 f4
        refine ⟨⟨hb9.os, hb9.tape, hb9.output, hb9.size, fun i hi he => hb9.block i hi (fun e => he (by omega))⟩, ?_⟩
        refine anyT_done (by kernel_rfl) ?_
        have lz : Later w2 V9 := Below.trans (B := w2.heap.size) (Later.trans l3 l4) ((hb7.below (n := w2.heap.size) (Later.trans l3 l4).size (fun k hk e => by omega)).trans (hb9.below (Nat.le_trans (Later.trans l3 l4).size hb7.size) (fun k hk e => by omega)))
        go_wp2_with fail
        go_meet
        case rel => exact ⟨cb, mb, rfl, rfl, hcm, hcl, hml, lz, p9, q9⟩
      · unfold Oper.wp
        go_simp
        have z3 : ((w2.alloc (.cells #[.int .u8 0, .int .u16 0, .bool false, .int .u8 0, .int .u8 0, .int .u32 0, .int .u32 0, .slice none 0 0, .slice none 0 0] 26)).drew).heap[w2.heap.size]? = some (.cells #[.int .u8 0, .int .u16 0, .bool false, .int .u8 0, .int .u8 0, .int .u32 0, .int .u32 0, .slice none 0 0, .slice none 0 0] 26) := heap_alloc_new w2 _
        have s3 : ((w2.alloc (.cells #[.int .u8 0, .int .u16 0, .bool false, .int .u8 0, .int .u8 0, .int .u32 0, .int .u32 0, .slice none 0 0, .slice none 0 0] 26)).drew).heap.size = w2.heap.size + 1 := by simp
        have l3 : Later w2 ((w2.alloc (.cells #[.int .u8 0, .int .u16 0, .bool false, .int .u8 0, .int .u8 0, .int .u32 0, .int .u32 0, .slice none 0 0, .slice none 0 0] 26)).drew) := ((Below.refl _ _).alloc (Nat.le_refl _) _).trans ((Later.drew _).mono (by simp))
        have m3 : Later w2.drew ((w2.alloc (.cells #[.int .u8 0, .int .u16 0, .bool false, .int .u8 0, .int .u8 0, .int .u32 0, .int .u32 0, .slice none 0 0, .slice none 0 0] 26)).drew) := ⟨l3.os, l3.tape, l3.output, l3.size, l3.block⟩
        refine ⟨But.of m3, ?_⟩
        generalize (w2.alloc (.cells #[.int .u8 0, .int .u16 0, .bool false, .int .u8 0, .int .u8 0, .int .u32 0, .int .u32 0, .slice none 0 0, .slice none 0 0] 26)).drew = W3 at *
        have S3 := hide s3
        clear s3
        refine anyT_one 2 rfl (by kernel_rfl) rfl ?_
        unfold Oper.wp
        go_simp
        have l4 : Later W3 (W3.alloc (.cells #[.int .u8 0, .int .u16 0, .bool false, .int .u8 0, .int .u8 0, .int .u32 0, .int .u32 0, .slice none 0 0, .slice none 0 0] 26)) := (Below.refl _ _).alloc (Nat.le_refl _) _
        have z4 := heap_alloc_new W3 (.cells #[.int .u8 0, .int .u16 0, .bool false, .int .u8 0, .int .u8 0, .int .u32 0, .int .u32 0, .slice none 0 0, .slice none 0 0] 26)
        have z5 := (l4.block w2.heap.size (Array.getElem?_eq_some_iff.1 z3).1).trans z3
        refine ⟨But.of l4, ?_⟩
        generalize W3.alloc (.cells #[.int .u8 0, .int .u16 0, .bool false, .int .u8 0, .int .u8 0, .int .u32 0, .int .u32 0, .slice none 0 0, .slice none 0 0] 26) = W4 at *
        have hcm : W3.heap.size ≠ w2.heap.size := by have := S3.out; omega
        have hcl : w2.heap.size ≤ W3.heap.size := by have := S3.out; omega
        have hml : w2.heap.size ≤ w2.heap.size := by have := S3.out; omega
        have zc : W4.heap[W3.heap.size]? = some (.cells #[.int .u8 0, .int .u16 0, .bool false, .int .u8 0, .int .u8 0, .int .u32 0, .int .u32 0, .slice none 0 0, .slice none 0 0] 26) := by first | exact z4 | exact z5
        have zm : W4.heap[w2.heap.size]? = some (.cells #[.int .u8 0, .int .u16 0, .bool false, .int .u8 0, .int .u8 0, .int .u32 0, .int .u32 0, .slice none 0 0, .slice none 0 0] 26) := by first | exact z4 | exact z5
        generalize hcb : W3.heap.size = cb at *
        generalize hmb : w2.heap.size = mb at *
        refine anyT_one 4 rfl (by kernel_rfl) rfl ?_
        have k4 : ∀ j, W4.cell? ⟨cb, j, none⟩ = _ := block_cell zc
        have f4 : ∀ j, W4.frozen? ⟨cb, j, none⟩ = false := block_frozen zc
        unfold Oper.wp
        go_simp
        generalize hV7 : ((((((((W4.setCell ⟨cb, 0, none⟩ _).setCell ⟨cb, 1, none⟩ _).setCell ⟨cb, 2, none⟩ _).setCell ⟨cb, 3, none⟩ _).setCell ⟨cb, 4, none⟩ _).setCell ⟨cb, 5, none⟩ _).setCell ⟨cb, 6, none⟩ _).setCell ⟨cb, 7, none⟩ _).setCell ⟨cb, 8, none⟩ _ = V7
        have hV8 : V7 = putRow W4 cb 0 [.int .u8 x0a, .int .u16 x1a, .bool x2a, .int .u8 x3a, .int .u8 47, .int .u32 x5a, .int .u32 x6a, .slice a7a zo.length c7a, .slice (some ⟨g, 0, none⟩) n c8a] := hV7.symm
        have hb7 : But (fun b => b = cb) W4 V7 := by rw [hV8]; exact putRow_rb _ _
        have p7 := putRow_all [Value.int .u8 x0a, .int .u16 x1a, .bool x2a, .int .u8 x3a, .int .u8 47, .int .u32 x5a, .int .u32 x6a, .slice a7a zo.length c7a, .slice (some ⟨g, 0, none⟩) n c8a] zc rfl
        rw [← hV8] at p7
        have q7 := (hb7.block mb (Array.getElem?_eq_some_iff.1 zm).1 (Ne.symm hcm)).trans zm
        clear hV7 hV8 k4 f4
        refine ⟨⟨hb7.os, hb7.tape, hb7.output, hb7.size, fun i hi he => hb7.block i hi (fun e => he (by omega))⟩, ?_⟩
        refine anyT_one 5 rfl (by kernel_rfl) rfl ?_
        have k4 : ∀ j, V7.cell? ⟨mb, j, none⟩ = _ := block_cell q7
        have f4 : ∀ j, V7.frozen? ⟨mb, j, none⟩ = false := block_frozen q7
        unfold Oper.wp
        go_simp
        generalize hV9 : ((((((((V7.setCell ⟨mb, 0, none⟩ _).setCell ⟨mb, 1, none⟩ _).setCell ⟨mb, 2, none⟩ _).setCell ⟨mb, 3, none⟩ _).setCell ⟨mb, 4, none⟩ _).setCell ⟨mb, 5, none⟩ _).setCell ⟨mb, 6, none⟩ _).setCell ⟨mb, 7, none⟩ _).setCell ⟨mb, 8, none⟩ _ = V9
        have hV8 : V9 = putRow V7 mb 0 [.int .u8 x0a, .int .u16 x1a, .bool x2a, .int .u8 x3a, .int .u8 47, .int .u32 x5a, .int .u32 x6a, .slice a7a zo.length c7a, .slice (some ⟨g, 0, none⟩) n c8a] := hV9.symm
        have hb9 : But (fun b => b = mb) V7 V9 := by rw [hV8]; exact putRow_rb _ _
        have q9 := putRow_all [Value.int .u8 x0a, .int .u16 x1a, .bool x2a, .int .u8 x3a, .int .u8 47, .int .u32 x5a, .int .u32 x6a, .slice a7a zo.length c7a, .slice (some ⟨g, 0, none⟩) n c8a] q7 rfl
        rw [← hV8] at q9
        have p9 := (hb9.block cb (Array.getElem?_eq_some_iff.1 p7).1 hcm).trans p7
        clear hV9 hV8 k4 f4
        refine ⟨⟨hb9.os, hb9.tape, hb9.output, hb9.size, fun i hi he => hb9.block i hi (fun e => he (by omega))⟩, ?_⟩
        refine anyT_done (by kernel_rfl) ?_
        have lz : Later w2 V9 := Below.trans (B := w2.heap.size) (Later.trans l3 l4) ((hb7.below (n := w2.heap.size) (Later.trans l3 l4).size (fun k hk e => by omega)).trans (hb9.below (Nat.le_trans (Later.trans l3 l4).size hb7.size) (fun k hk e => by omega)))
        go_wp2_with fail
        go_meet
        case rel => exact ⟨cb, mb, rfl, rfl, hcm, hcl, hml, lz, p9, q9⟩
    case rest =>
      obtain ⟨cb, mb, rfl, rfl, hcm, hcl0, hml0, lc, pc, qc⟩ := hcut
      have a3 := (lc.block w1.heap.size hs2).trans a2
      have hw3 := hw2.trans (lc.mono hw2.size)
      have hD3 := (hD.later (Later.trans l2 lc))
      have lgc : g < wc.heap.size ∧ g ≠ cb ∧ g ≠ mb := by
        obtain ⟨g', e', _, _, hcf', _⟩ := hD.at (by have := HLn.out; omega)
        simp at e'
        subst e'
        have : g < w1.heap.size := World.block_lt_of_cell? w1 _ (hcf' 0 (by have := HLn.out; omega)).1
        have := lc.size
        omega
      clear A2 a2
      go_upto_region 7 with fail
      refine anyT_begin (R := But (fun b => b = cb)) 11 rfl (by kernel_rfl) ?_
      have hd : Later wc wc.drew := Later.drew wc
      have hne : w1.heap.size ≠ cb := by omega
      have ha : ∀ v1, But (fun b => b = cb) wc.drew v1 → ∀ i, v1.cell? ⟨w1.heap.size, i, none⟩ = #[Value.int .u8 x0a, .int .u16 x1a, .bool x2a, .int .u8 x3a, .int .u8 47, .int .u32 x5a, .int .u32 x6a, .slice a7a zo.length c7a, .slice (some ⟨g, 0, none⟩) n c8a][i]? := fun v1 h => block_cell ((((But.of hd).trans h).block w1.heap.size (Array.getElem?_eq_some_iff.1 a3).1 hne).trans a3)
      refine anyT_val (But.pre _) 0 rfl (by kernel_rfl) (by kernel_rfl) (by kernel_rfl) (fun _ _ _ _ h => h) rfl ?_; apply Exists.intro; refine ⟨fun v1 hv1 => ?_, ?_⟩; (· (go_simp; rfl)); simp only [Act.put, List.setIfInBounds_toArray, List.set_cons_zero, List.set_cons_succ]
      refine anyT_val (But.pre _) 1 rfl (by kernel_rfl) (by kernel_rfl) (by kernel_rfl) (fun _ _ _ _ h => h) rfl ?_; apply Exists.intro; refine ⟨fun v1 hv1 => ?_, ?_⟩; (· (go_simp; rfl)); simp only [Act.put, List.setIfInBounds_toArray, List.set_cons_zero, List.set_cons_succ]
      refine anyT_val (But.pre _) 2 rfl (by kernel_rfl) (by kernel_rfl) (by kernel_rfl) (fun _ _ _ _ h => h) rfl ?_; apply Exists.intro; refine ⟨fun v1 hv1 => ?_, ?_⟩; (· (go_simp; rfl)); simp only [Act.put, List.setIfInBounds_toArray, List.set_cons_zero, List.set_cons_succ]
      have HWX : Hid (IntKind.i64.wrap x = x) := by show _ = _; simp [IntKind.wrap, IntKind.bits, IntKind.signed]; omega
      refine anyT_val (But.pre _) 3 rfl (by kernel_rfl) (by kernel_rfl) (by kernel_rfl) (fun _ _ _ _ h => h) rfl ⟨.int .i64 x, fun v1 hv1 => by go_simp; rw [HWX.out], ?_⟩
      simp only [Act.put, List.setIfInBounds_toArray, List.set_cons_zero, List.set_cons_succ]
      refine anyT_val (But.pre _) 4 rfl (by kernel_rfl) (by kernel_rfl) (by kernel_rfl) (fun _ _ _ _ h => h) rfl ?_; apply Exists.intro; refine ⟨fun v1 hv1 => ?_, ?_⟩; (· (go_simp; rfl)); simp only [Act.put, List.setIfInBounds_toArray, List.set_cons_zero, List.set_cons_succ]
      refine anyT_val (But.pre _) 5 rfl (by kernel_rfl) (by kernel_rfl) (by kernel_rfl) (fun _ _ _ _ h => h) rfl ?_; apply Exists.intro; refine ⟨fun v1 hv1 => ?_, ?_⟩; (· (go_simp; rfl)); simp only [Act.put, List.setIfInBounds_toArray, List.set_cons_zero, List.set_cons_succ]
      refine anyT_val (But.pre _) 6 rfl (by kernel_rfl) (by kernel_rfl) (by kernel_rfl) (fun _ _ _ _ h => h) rfl ?_; apply Exists.intro; refine ⟨fun v1 hv1 => ?_, ?_⟩; (· (go_simp; rfl)); simp only [Act.put, List.setIfInBounds_toArray, List.set_cons_zero, List.set_cons_succ]
      have HRM : Hid (x.tmod n = k) := by show _ = _; rw [Int.tmod_eq_emod_of_nonneg (by omega)]; exact HK.out
      have t9 : ¬ n = 0 := by omega
      refine anyT_val (But.pre _) 7 rfl (by kernel_rfl) (by kernel_rfl) (by kernel_rfl) (fun _ _ _ _ h => h) rfl ⟨.int .i64 k, fun v1 hv1 => by go_simp; rw [HRM.out], ?_⟩
      simp only [Act.put, List.setIfInBounds_toArray, List.set_cons_zero, List.set_cons_succ]
      have k0 : (0 : Int) ≤ k := by omega
      have kc : k ≤ c8a := by
        obtain ⟨_, c', e', h', _⟩ := hD.slice
        simp at e'
        have := HLn.out
        omega
      have kc1 : ¬ c8a < k := by omega
      have kc2 : ¬ (c8a : Int) < k := by omega
      have kc3 : (k : Int) ≤ c8a := by omega
      refine anyT_val (But.pre _) 8 rfl (by kernel_rfl) (by kernel_rfl) (by kernel_rfl) (fun _ _ _ _ h => h) rfl ⟨.slice (some ⟨g, 0, none⟩) k c8a, fun v1 hv1 => by go_simp, ?_⟩
      simp only [Act.put, List.setIfInBounds_toArray, List.set_cons_zero, List.set_cons_succ]
      refine anyT_val (But.pre _) 9 rfl (by kernel_rfl) (by kernel_rfl) (by kernel_rfl) (fun _ _ _ _ h => h) rfl ?_; apply Exists.intro; refine ⟨fun v1 hv1 => ?_, ?_⟩; (· (go_simp; rfl)); simp only [Act.put, List.setIfInBounds_toArray, List.set_cons_zero, List.set_cons_succ]
      refine anyT_one 10 rfl (by kernel_rfl) rfl ?_
      have k4 := block_cell pc
      have f4 : ∀ j, wc.frozen? ⟨cb, j, none⟩ = false := block_frozen pc
      unfold Oper.wp
      go_simp
      refine ⟨(But.refl (fun b => b = cb) _).setCell (p := ⟨cb, 8, none⟩) rfl _, ?_⟩
      refine anyT_done (by kernel_rfl) ?_
      have b5 : But (fun b => b = cb) wc ((wc.setCell ⟨cb, 8, none⟩ (.slice (some ⟨g, 0, none⟩) k c8a)).drew) := ((But.refl (fun b => b = cb) wc).setCell (p := ⟨cb, 8, none⟩) rfl _).trans (But.drew _ _)
      have c5 : ((wc.setCell ⟨cb, 8, none⟩ (.slice (some ⟨g, 0, none⟩) k c8a)).drew).heap[cb]? = some (.cells #[.int .u8 x0a, .int .u16 x1a, .bool x2a, .int .u8 x3a, .int .u8 47, .int .u32 x5a, .int .u32 x6a, .slice a7a zo.length c7a, .slice (some ⟨g, 0, none⟩) k c8a] 26 (0, 0)) := heap_set1 pc 8 _
      have m5 := (b5.block mb (Array.getElem?_eq_some_iff.1 qc).1 (Ne.symm hcm)).trans qc
      have a5 := (b5.block w1.heap.size (Array.getElem?_eq_some_iff.1 a3).1 hne).trans a3
      have hD5 : Rd w1.heap.size ((wc.setCell ⟨cb, 8, none⟩ (.slice (some ⟨g, 0, none⟩) k c8a)).drew) (.slice (some ⟨g, 0, none⟩) n c8a) bb := (hD.rd.below (Later.trans l2 lc)).below (b5.below (by have := lc.size; omega) (fun k hk e => by omega))
      have hw5 : Below w.heap.size w _ := hw3.trans (b5.below hw3.size (fun k hk e => by have := hw2.size; omega))
      generalize (wc.setCell ⟨cb, 8, none⟩ (.slice (some ⟨g, 0, none⟩) k c8a)).drew = w5 at *
      clear ha k4 f4 hd
      have hsz5 : w1.heap.size ≤ w5.heap.size := by have := (Array.getElem?_eq_some_iff.1 a5).1; omega
      have hl6 : Below w5.heap.size w5 (w5.alloc (.cells #[] 5)) := (Below.refl _ _).alloc (Nat.le_refl _) _
      have a6 := block_cell ((hl6.block w1.heap.size (Array.getElem?_eq_some_iff.1 a5).1).trans a5)
      obtain ⟨i0, hi, hz0, hz1, hz2⟩ : ∃ i, Tryd.prog.info? 5 = some i ∧ i.zero = some (.int .u8 0) ∧ i.size = 1 ∧ i.bytes = 1 := by exact ⟨_, rfl, rfl, rfl, rfl⟩
      have hR6 : Rd w5.heap.size (w5.alloc (.cells #[] 5)) (.slice (some ⟨g, 0, none⟩) n c8a) bb := (hD5.mono hsz5).below hl6
      go_wp2_with first
        | (at_builtin; refine wpList_app _ rfl (.tmp 40) (.tmp 42) 24 rfl w5.heap.size 5 i0 Tryd.underlying24 hi hz0 hz1 hz2 _ [] rfl (own_empty w5 _) w5.heap.size _ bb rfl hR6 (by simp; have := HLn.out; omega) (by simp) ?_; intro v7 w7 hown7 hg7; have hb7 := below_app hl6 (own_empty w5 _) hg7 (Nat.le_refl _) hl6.size; clear hg7; simp only [List.nil_append] at hown7; have hl8 : Below w7.heap.size w7 (w7.alloc (.cells #[.int .u8 0] 5)) := (Below.refl _ _).alloc (Nat.le_refl _) _; have hown8 := row_below hown7 hl8 (Nat.le_refl _); have hb8 := hb7.trans (hl8.mono hb7.size); have hR8 := Rd.new [0] 5 w7 (by simp) (by simp); clear hown7)
        | (at_builtin; (refine wpList_app _ rfl (.tmp 43) (.tmp 44) 24 rfl w5.heap.size 5 i0 Tryd.underlying24 hi hz0 hz1 hz2 _ bb rfl hown8 _ _ [0] rfl hR8 (by simp; have := HLn.out; omega) hb8.size ?_; intro v9 w9 hown9 hg9; have hb9 := below_app hb8 hown8 hg9 (Nat.le_refl _) hb8.size; clear hg9 hown8; have hO9 := Ow.of_row hown9; clear hown9; obtain ⟨a9, c9, rfl, hp9, hm9⟩ := hO9.slice; have m9 := (hb9.block mb (Array.getElem?_eq_some_iff.1 m5).1).trans m5; have M9 := block_cell m9; have F9 := block_frozen m9; have b10 : But (fun b => b = mb) w9 (w9.setCell ⟨mb, 8, none⟩ (.slice a9 (bb ++ [0]).length c9)) := (But.refl (fun b => b = mb) _).setCell (p := ⟨mb, 8, none⟩) rfl _; have c10 := (b10.block cb (Nat.lt_of_lt_of_le (Array.getElem?_eq_some_iff.1 c5).1 hb9.size) hcm).trans ((hb9.block cb (Array.getElem?_eq_some_iff.1 c5).1).trans c5); simp only [List.length_append, List.length_cons, List.length_nil, Nat.zero_add] at c10; have C10 := block_cell c10))
      have m10 : (w9.setCell ⟨mb, 8, none⟩ (.slice a9 (bb ++ [0]).length c9)).heap[mb]? = some (.cells #[.int .u8 x0a, .int .u16 x1a, .bool x2a, .int .u8 x3a, .int .u8 47, .int .u32 x5a, .int .u32 x6a, .slice a7a zo.length c7a, .slice a9 (bb ++ [0]).length c9] 26 (0, 0)) := heap_set1 m9 8 _
      have hD10 : Rd w1.heap.size _ _ _ := ((hD5.below (hb9.mono hsz5))).below (b10.below (Nat.le_trans hsz5 hb9.size) (fun k hk e => by omega))
      have hw9 := hw5.trans (hb9.mono hw5.size)
      have hw10 : Below w.heap.size w _ := hw9.trans (b10.below hw9.size (fun k hk e => by have := hw2.size; omega))
      have hO10 := hO9.but b10 (fun b hb e => by have := (Array.getElem?_eq_some_iff.1 m5).1; omega)
      have hla : (bb ++ [0]).length = bb.length + 1 := by simp
      rw [hla] at b10 m10 hD10 hw10 hO10
      clear M9 F9 C10
      generalize w9.setCell ⟨mb, 8, none⟩ (.slice a9 (bb.length + 1) c9) = w10 at *
      have hBc : Mt.By (bb.take k) := hBi.take k
      have hBm' : Mt.By (bb ++ [0]) := hBi.append (by intro z hz; simp at hz; omega)
      have hp3 := HCM.out k (by omega)
      have hp4 := HMO.out
      have hlk : (bb.take k).length = k := by rw [List.length_take, HLn.out]; omega
      refine (parseGre_any x0a x1a x3a 47 x5a x6a x2a _ _ (bb.take k) w10 (hT.below hw10 hT.pos) hBc ((hD10.take k (by omega)).mono (Nat.le_trans hsz5 (Nat.le_trans hb9.size b10.size))) (by rw [hlk]; omega)).mono ?_
      rw [hp3]
      rintro e w11 ⟨hb11, ⟨_, rfl⟩ | ⟨h5, _⟩⟩
      case inr => exact absurd h5 (by decide)
      have l12 : Later w11 (w11.alloc (.cells zf.toArray 30)) := (Below.refl _ _).alloc (Nat.le_refl _) _
      have l10 := Later.trans hb11 l12
      have m12 := (l10.block mb (Array.getElem?_eq_some_iff.1 m10).1).trans m10
      have M12 := block_cell m12
      have hw12 := hw10.trans (l10.mono hw10.size)
      have hO12 := hO10.later l10
      clear hp3 hlk
      go_wp2_with fail
      clear M12
      have l12' : Later w10 (w11.alloc (.cells #[.int .u16 0, .bool false, .bool false, .int .u32 0, .int .u32 0, .slice none 0 0] 30)) := l10
      have hw12' : Below w.heap.size w (w11.alloc (.cells #[.int .u16 0, .bool false, .bool false, .int .u32 0, .int .u32 0, .slice none 0 0] 30)) := hw12
      have hO12' : Ow w5.heap.size (w11.alloc (.cells #[.int .u16 0, .bool false, .bool false, .int .u32 0, .int .u32 0, .slice none 0 0] 30)) (.slice a9 (bb.length + 1) c9) (bb ++ [0]) := hO12
      clear l12 hw12 hO12 m12 l10
      generalize w11.alloc (.cells #[.int .u16 0, .bool false, .bool false, .int .u32 0, .int .u32 0, .slice none 0 0] 30) = w12 at *
      refine (parseGre_any x0a x1a x3a 47 x5a x6a x2a _ _ (bb ++ [0]) w12 (hT.below hw12' hT.pos) hBm' hO12'.rd (by simp; have := HLn.out; omega)).mono ?_
      rw [hp4]
      rintro e w13 ⟨hb13, ⟨_, rfl⟩ | ⟨h5, _⟩⟩
      case inr => exact absurd h5 (by decide)
      have l14 : Later w13 (w13.alloc (.cells #[.int .u16 0, .bool false, .bool false, .int .u32 0, .int .u32 0, .slice none 0 0] 30)) := (Below.refl _ _).alloc (Nat.le_refl _) _
      have hw14 := hw12'.trans ((Later.trans hb13 l14).mono hw12'.size)
      clear hp4
      go_wp2_with fail
      generalize w13.alloc (.cells #[.int .u16 0, .bool false, .bool false, .int .u32 0, .int .u32 0, .slice none 0 0] 30) = w14 at *
      refine (live4_any w14 (hT.below hw14 hT.pos)).mono ?_
      rintro e w15 ⟨rfl, hb15⟩
      go_wp2
      go_ret
      exact ⟨rfl, hw14.trans (hb15.mono hw14.size)⟩
  · have hb : (eca != 0) = true := by simp [h0]
    clear h0 HC1
    go_wp2_with fail
    generalize w1.alloc (.cells #[.int .u8 x0a, .int .u16 x1a, .bool x2a, .int .u8 x3a, .int .u8 x4a, .int .u32 x5a, .int .u32 x6a, .slice a7a l7a c7a, .slice a8a l8a c8a] 26) = w2 at *
    refine (live4_any w2 (hT.below hw2 hT.pos)).mono ?_
    rintro e w9 ⟨rfl, hb9⟩
    go_wp2
    go_ret
    exact ⟨rfl, hw2.trans (hb9.mono hw2.size)⟩
end Go.Proofs.YtejkonnbpjocoacDoor
