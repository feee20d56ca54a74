/- Package segs: one option out of its bytes. -/
import Derived.Test.YtclkfmdlgffbeaaSJ
namespace Go.Proofs.Ytclkfmdlgffbeaa
open Go.RowKit Go.Shelf
set_option maxRecDepth 100000
set_option linter.unusedVariables false
set_option linter.unusedSimpArgs false

abbrev zop : List Value := [.int .u8 0, .slice none 0 0]

set_option maxHeartbeats 2000000 in
theorem optionOf_any (sv : Value) (zs : List Int) (w : World) (hI : Rd w.heap.size w sv zs) (hB : Mt.By zs) (hl : zs.length ≤ 140737488355328) (h1 : 0 < zs.length) (h2 : zs[0]?.getD 0 ≠ 1 → 2 ≤ zs.length) :
    Calls Try.prog 66 #[sv] w fun e w' => Below w.heap.size w w' ∧ ∃ s, e = .returned (.agg #[.int .u8 (zs[0]?.getD 0), s]) ∧ Ow w.heap.size w' s (if zs[0]?.getD 0 = 1 then [] else zs.drop 2) := by
  obtain ⟨b, off, cap, rfl, hc1, hc2, hbb, hcs⟩ := hI.cells h1
  have d0 := hcs 0 h1
  rw [Nat.add_zero] at d0
  clear hcs
  have hb0 : Below w.heap.size w (w.alloc (.cells zop.toArray 57)) := (Below.refl _ _).alloc (Nat.le_refl _) _
  have r0 : (w.alloc (.cells zop.toArray 57)).heap[w.heap.size]? = some (.cells zop.toArray 57 (0, 0)) := heap_alloc_new _ _
  have hs0 : (w.alloc (.cells zop.toArray 57)).heap.size = w.heap.size + 1 := by simp
  have dW := (hb0.cell (p := ⟨b, off, none⟩) hbb).trans d0
  have R0 := hide r0
  have HS := hide hs0
  clear r0 hs0 d0
  have i0 : (0 : Int) < zs.length := by omega
  generalize hx : zs[0]?.getD 0 = x at *
  have HX := hide hx
  clear hx
  by_cases c1 : x = 1
  · have t1 : (x == 1) = true := by simp [c1]
    have C1 := hide c1
    clear c1 h2
    go_enter Try.func66, Try.ntmps66
    go_wp2_with fail
    exact bodyPost_ret (v := .agg #[.int .u8 1, .slice none 0 0]) (by simp [results, Try.results66, go_sem]) rfl ⟨by simpa using (Below.refl w.heap.size w).alloc (Nat.le_refl _) _, .slice none 0 0, rfl, .inl ⟨rfl, rfl⟩⟩
  · have t1 : (x == 1) = false := by simp [c1]
    have C1 := hide c1
    have h22 := h2 c1
    clear c1 h2
    have i2 : (2 : Int) ≤ zs.length := by omega
    have i2c : (zs.length : Int) ≤ cap := by omega
    go_enter Try.func66, Try.ntmps66
    go_upto_region 3 with fail
    generalize w.alloc (.cells zop.toArray 57) = W0 at *
    refine anyT_begin (R := But (fun b => b = w.heap.size)) 8 rfl (by kernel_rfl) ?_
    have hd : Later W0 W0.drew := Later.drew W0
    have hb1 := hb0.trans (hd.mono hb0.size)
    have r1 := later_keep hd R0.out
    have hs1 : w.heap.size + 1 ≤ W0.drew.heap.size := by have := hd.size; have := HS.out; omega
    have dV : ∀ v1, But (fun b => b = w.heap.size) W0.drew v1 → v1.cell? ⟨b, off, none⟩ = some (.int .u8 x) := fun v1 h => h.cell ((hd.cell dW)) (by simp; omega)
    clear dW R0 HS
    generalize W0.drew = W1 at *
    refine anyT_val (But.pre _) 0 rfl (by kernel_rfl) (by kernel_rfl) (by kernel_rfl) (fun _ _ _ _ h => h) rfl ?_; apply Exists.intro; refine ⟨fun v1 hv1 => ?_, ?_⟩; (· (go_simp; rfl)); simp only [Act.put, List.setIfInBounds_toArray, List.set_cons_zero, List.set_cons_succ]
    refine anyT_val (But.pre _) 1 rfl (by kernel_rfl) (by kernel_rfl) (by kernel_rfl) (fun _ _ _ _ h => h) rfl ?_; apply Exists.intro; refine ⟨fun v1 hv1 => ?_, ?_⟩; (· (go_simp; rfl)); simp only [Act.put, List.setIfInBounds_toArray, List.set_cons_zero, List.set_cons_succ]
    refine anyT_val (But.pre _) 2 rfl (by kernel_rfl) (by kernel_rfl) (by kernel_rfl) (fun _ _ _ _ h => h) rfl ?_; apply Exists.intro; refine ⟨fun v1 hv1 => ?_, ?_⟩; (· (go_simp; rfl)); simp only [Act.put, List.setIfInBounds_toArray, List.set_cons_zero, List.set_cons_succ]
    refine anyT_val (But.pre _) 3 rfl (by kernel_rfl) (by kernel_rfl) (by kernel_rfl) (fun _ _ _ _ h => h) rfl ?_; apply Exists.intro; refine ⟨fun v1 hv1 => ?_, ?_⟩; (· (go_simp; rfl)); simp only [Act.put, List.setIfInBounds_toArray, List.set_cons_zero, List.set_cons_succ]
    refine anyT_val (But.pre _) 4 rfl (by kernel_rfl) (by kernel_rfl) (by kernel_rfl) (fun _ _ _ _ h => h) rfl ?_; apply Exists.intro; refine ⟨fun v1 hv1 => ?_, ?_⟩; (· (go_simp; rfl)); simp only [Act.put, List.setIfInBounds_toArray, List.set_cons_zero, List.set_cons_succ]
    have hs8 := (hI.below hb1).cutAt 2 (by omega)
    generalize (if cap = 2 then some (⟨b, off, none⟩ : Addr) else some ⟨b, off + 2, none⟩) = ad2 at *
    clear dV
    refine anyT_one 5 rfl (by kernel_rfl) rfl ?_
    refine wp_enter 24 #[.slice ad2 (zs.length - 2) (cap - 2)] (by go_simp) ?_
    refine (cloneb_any _ (zs.drop 2) W1 (by simp; omega) (hs8.mono hb1.size)).mono ?_
    rw [List.length_drop]
    rintro e W2 ⟨a2, c2, rfl, hO2, hb2⟩
    refine ⟨But.of hb2, ?_⟩
    simp only [Act.put, List.setIfInBounds_toArray, List.set_cons_zero, List.set_cons_succ]
    have r2 := later_keep hb2 r1
    have R2 := block_cell r2
    have F2 := block_frozen r2
    have hw2 := hb1.trans (hb2.mono hb1.size)
    refine anyT_one 6 rfl (by kernel_rfl) rfl ?_
    unfold Oper.wp
    go_simp
    refine ⟨But.refl _ _, ?_⟩
    refine anyT_one 7 rfl (by kernel_rfl) rfl ?_
    unfold Oper.wp
    go_simp
    generalize hV : (W2.setCell ⟨w.heap.size, 0, none⟩ _).setCell ⟨w.heap.size, 1, none⟩ _ = V8
    have hV9 : V8 = putRow W2 (w.heap.size) 0 [.int .u8 x, .slice a2 (zs.length - 2) c2] := hV.symm
    have hb8 : But (fun b => b = w.heap.size) W2 V8 := by rw [hV9]; exact putRow_but (E := fun b => b = w.heap.size) (n := w.heap.size) rfl _ _ _ _ (But.refl _ _)
    have p8 := putRow_all [.int .u8 x, .slice a2 (zs.length - 2) c2] r2 rfl
    rw [← hV9] at p8
    clear hV hV9 R2 F2
    refine ⟨hb8, ?_⟩
    refine anyT_done (by kernel_rfl) ?_
    have P8 := block_cell p8
    have hw8 : Below w.heap.size w V8 := hw2.trans (hb8.below hw2.size (fun k h e => by omega))
    go_wp2_with fail
    exact bodyPost_ret (v := .agg #[.int .u8 x, .slice a2 (zs.length - 2) c2]) (by simp [results, Try.results66, go_sem, P8]) rfl ⟨hw8, .slice a2 (zs.length - 2) c2, rfl, (hO2.but hb8 (fun b h e => by omega)).mono (by omega)⟩
end Go.Proofs.Ytclkfmdlgffbeaa
