/- Several texts in one. -/
import Derived.Test.YtojoaidnkljcpaaDoorX3
import Derived.Test.YtojoaidnkljcpaaDoorW9
import Derived.Test.YtojoaidnkljcpaaDoorVS
import Derived.Test.YtojoaidnkljcpaaDoorHd
import Derived.Laws.Cover3
import Derived.Test.YtojoaidnkljcpaaDoorX2
import Derived.Test.YtojoaidnkljcpaaDoorX4
import Derived.Test.YtojoaidnkljcpaaDoorX1
/- Layer 5: what is read of the first eight bytes of a quoted packet's data. -/
namespace Go.Proofs.YtojoaidnkljcpaaDoor
open Go.RowKit Go.Shelf
set_option maxRecDepth 100000
set_option linter.unusedVariables false
set_option linter.unusedSimpArgs false

theorem rd8 {W : World} {b : Nat} {x0 x1 x2 x3 x4 x5 x6 x7 : Int} (h : W.heap[b]? = some (.cells #[.int .u8 x0, .int .u8 x1, .int .u8 x2, .int .u8 x3, .int .u8 x4, .int .u8 x5, .int .u8 x6, .int .u8 x7] 78 (0, 0))) : Rd W.heap.size W (.slice (some ⟨b, 0, none⟩) 8 8) [x0, x1, x2, x3, x4, x5, x6, x7] := by
  refine .inr ⟨b, 0, 8, rfl, by simp, by simp, by omega, (Array.getElem?_eq_some_iff.1 h).1, fun j hj => ?_⟩
  rw [Nat.zero_add, block_cell h j]
  simp at hj
  match j, hj with
  | 0, _ => rfl
  | 1, _ => rfl
  | 2, _ => rfl
  | 3, _ => rfl
  | 4, _ => rfl
  | 5, _ => rfl
  | 6, _ => rfl
  | 7, _ => rfl

set_option maxHeartbeats 4000000 in
theorem ofTwo_any (x0 x1 x2 x3 x4 x5 x6 x7 : Int) (w : World) (hBx : Mt.By [x0, x1, x2, x3, x4, x5, x6, x7]) :
    Calls Tryd.prog 46 #[.agg #[.int .u8 x0, .int .u8 x1, .int .u8 x2, .int .u8 x3, .int .u8 x4, .int .u8 x5, .int .u8 x6, .int .u8 x7]] w fun e w' => Below w.heap.size w w' ∧ e = .returned (.tuple #[.agg #[.int .u16 (getAt2 [x0, x1, x2, x3, x4, x5, x6, x7] 0), .int .u16 (getAt2 [x0, x1, x2, x3, x4, x5, x6, x7] 2)], .int .i64 0]) := by
  have hb0 : Below w.heap.size w ((w.alloc (.cells #[.int .u8 x0, .int .u8 x1, .int .u8 x2, .int .u8 x3, .int .u8 x4, .int .u8 x5, .int .u8 x6, .int .u8 x7] 78)).alloc (.cells #[.int .u16 0, .int .u16 0] 65)) := ((Below.refl _ _).alloc (Nat.le_refl _) _).alloc (by simp) _
  have p0 : ((w.alloc (.cells #[.int .u8 x0, .int .u8 x1, .int .u8 x2, .int .u8 x3, .int .u8 x4, .int .u8 x5, .int .u8 x6, .int .u8 x7] 78)).alloc (.cells #[.int .u16 0, .int .u16 0] 65)).heap[w.heap.size]? = some (.cells #[.int .u8 x0, .int .u8 x1, .int .u8 x2, .int .u8 x3, .int .u8 x4, .int .u8 x5, .int .u8 x6, .int .u8 x7] 78) := (Below.heap_alloc _ _ _ (by simp)).trans (heap_alloc_new w _)
  have r0 := heap_alloc_new (w.alloc (.cells #[.int .u8 x0, .int .u8 x1, .int .u8 x2, .int .u8 x3, .int .u8 x4, .int .u8 x5, .int .u8 x6, .int .u8 x7] 78)) (.cells #[.int .u16 0, .int .u16 0] 65)
  rw [World.size_alloc] at r0
  have P0 := hide p0
  have R0 := hide r0
  clear r0 p0
  have hB : Mt.By [x0, x1, x2, x3, x4, x5, x6, x7] := hBx
  go_enter Tryd.func46, Tryd.ntmps46
  go_upto_region 1 with fail
  generalize ((w.alloc (.cells #[.int .u8 x0, .int .u8 x1, .int .u8 x2, .int .u8 x3, .int .u8 x4, .int .u8 x5, .int .u8 x6, .int .u8 x7] 78)).alloc (.cells #[.int .u16 0, .int .u16 0] 65)) = w0 at *
  refine anyT_begin (R := But (fun b => b = w.heap.size + 1)) 7 rfl (by kernel_rfl) ?_
  have ld : Later w0 w0.drew := Later.drew w0
  have pWd := later_keep ld P0.out
  have rWd := later_keep ld R0.out
  generalize w0.drew = Wd at *
  refine anyT_val (But.pre _) 0 rfl (by kernel_rfl) (by kernel_rfl) (by kernel_rfl) (fun _ _ _ _ h => h) rfl ?_; apply Exists.intro; refine ⟨fun v1 hv1 => ?_, ?_⟩; (· (go_simp; rfl)); simp only [Act.put, List.setIfInBounds_toArray, List.set_cons_zero, List.set_cons_succ]
  refine anyT_val (But.pre _) 2 rfl (by kernel_rfl) (by kernel_rfl) (by kernel_rfl) (fun _ _ _ _ h => h) rfl ?_; apply Exists.intro; refine ⟨fun v1 hv1 => ?_, ?_⟩; (· (go_simp; rfl)); simp only [Act.put, List.setIfInBounds_toArray, List.set_cons_zero, List.set_cons_succ]
  refine anyT_one 1 rfl (by kernel_rfl) rfl ?_
  refine wp_enter 67 #[.slice (some ⟨w.heap.size, 0, none⟩) 8 8, .int .i64 0] (by go_simp) ?_
  refine (get16_at _ [x0, x1, x2, x3, x4, x5, x6, x7] hB 0 Wd (rd8 pWd)).mono ?_
  rintro e W1 ⟨rfl, nW1, eW1⟩
  have lW1 : Later Wd W1 := by rw [eW1]; exact below_draw (Later.refl Wd) nW1
  clear eW1
  have pW1 := later_keep lW1 pWd
  have rW1 := later_keep lW1 rWd
  refine ⟨But.of lW1, ?_⟩
  simp only [Act.put, List.setIfInBounds_toArray, List.set_cons_zero, List.set_cons_succ]
  refine anyT_one 3 rfl (by kernel_rfl) rfl ?_
  refine wp_enter 67 #[.slice (some ⟨w.heap.size, 0, none⟩) 8 8, .int .i64 2] (by go_simp) ?_
  refine (get16_at _ [x0, x1, x2, x3, x4, x5, x6, x7] hB 2 W1 (rd8 pW1)).mono ?_
  rintro e W2 ⟨rfl, nW2, eW2⟩
  have lW2 : Later W1 W2 := by rw [eW2]; exact below_draw (Later.refl W1) nW2
  clear eW2
  have pW2 := later_keep lW2 pW1
  have rW2 := later_keep lW2 rW1
  refine ⟨But.of lW2, ?_⟩
  simp only [Act.put, List.setIfInBounds_toArray, List.set_cons_zero, List.set_cons_succ]
  generalize hg0 : getAt2 [x0, x1, x2, x3, x4, x5, x6, x7] 0 = g0 at *
  have HG0 := hide hg0
  clear hg0
  generalize hg2 : getAt2 [x0, x1, x2, x3, x4, x5, x6, x7] 2 = g2 at *
  have HG2 := hide hg2
  clear hg2
  refine anyT_val (But.pre _) 4 rfl (by kernel_rfl) (by kernel_rfl) (by kernel_rfl) (fun _ _ _ _ h => h) rfl ?_; apply Exists.intro; refine ⟨fun v1 hv1 => ?_, ?_⟩; (· (go_simp; rfl)); simp only [Act.put, List.setIfInBounds_toArray, List.set_cons_zero, List.set_cons_succ]
  have rX := rW2
  have hwX : Below w.heap.size w W2 := hb0.trans ((ld.trans (lW1.trans lW2)).mono hb0.size)
  have kX := block_cell rX
  have fX := block_frozen rX
  refine anyT_one 5 rfl (by kernel_rfl) rfl ?_
  unfold Oper.wp
  go_simp
  generalize hV : (W2.setCell ⟨w.heap.size + 1, 0, none⟩ _).setCell ⟨w.heap.size + 1, 1, none⟩ _ = V
  have hV8 : V = putRow W2 (w.heap.size + 1) 0 [.int .u16 g0, .int .u16 g2] := hV.symm
  have hbV : But (fun b => b = w.heap.size + 1) W2 V := by rw [hV8]; exact putRow_but (E := fun b => b = w.heap.size + 1) (n := w.heap.size + 1) rfl _ _ _ _ (But.refl _ _)
  have pV := putRow_all ([.int .u16 g0, .int .u16 g2] : List Value) rX rfl
  rw [← hV8] at pV
  clear hV hV8 kX fX
  refine ⟨hbV, ?_⟩
  refine anyT_one 6 rfl (by kernel_rfl) rfl ?_
  unfold Oper.wp
  go_simp
  refine ⟨But.refl _ _, ?_⟩
  refine anyT_done (by kernel_rfl) ?_
  go_wp2_with fail
  have PV := block_cell pV
  have hwV : Below w.heap.size w V := hwX.trans (hbV.below hwX.size (fun k hk e => by omega))
  exact bodyPost_ret (v := .tuple #[.agg #[.int .u16 g0, .int .u16 g2], .int .i64 0]) (by simp [results, Tryd.results46, go_sem, PV]) rfl ⟨hwV, by rw [HG0.out, HG2.out]⟩

set_option maxHeartbeats 4000000 in
theorem ofEcho_any (x0 x1 x2 x3 x4 x5 x6 x7 : Int) (w : World) (hBx : Mt.By [x0, x1, x2, x3, x4, x5, x6, x7]) :
    Calls Tryd.prog 49 #[.agg #[.int .u8 x0, .int .u8 x1, .int .u8 x2, .int .u8 x3, .int .u8 x4, .int .u8 x5, .int .u8 x6, .int .u8 x7]] w fun e w' => Below w.heap.size w w' ∧ ((ecb x0 x1 = true ∧ e = .returned (.tuple #[.agg #[.int .u16 (getAt2 [x0, x1, x2, x3, x4, x5, x6, x7] 4), .int .u16 (getAt2 [x0, x1, x2, x3, x4, x5, x6, x7] 4)], .int .i64 0])) ∨ (ecb x0 x1 = false ∧ e = .returned (.tuple #[.agg #[.int .u16 0, .int .u16 0], .int .i64 12]))) := by
  have hb0 : Below w.heap.size w ((w.alloc (.cells #[.int .u8 x0, .int .u8 x1, .int .u8 x2, .int .u8 x3, .int .u8 x4, .int .u8 x5, .int .u8 x6, .int .u8 x7] 78)).alloc (.cells #[.int .u16 0, .int .u16 0] 65)) := ((Below.refl _ _).alloc (Nat.le_refl _) _).alloc (by simp) _
  have p0 : ((w.alloc (.cells #[.int .u8 x0, .int .u8 x1, .int .u8 x2, .int .u8 x3, .int .u8 x4, .int .u8 x5, .int .u8 x6, .int .u8 x7] 78)).alloc (.cells #[.int .u16 0, .int .u16 0] 65)).heap[w.heap.size]? = some (.cells #[.int .u8 x0, .int .u8 x1, .int .u8 x2, .int .u8 x3, .int .u8 x4, .int .u8 x5, .int .u8 x6, .int .u8 x7] 78) := (Below.heap_alloc _ _ _ (by simp)).trans (heap_alloc_new w _)
  have r0 := heap_alloc_new (w.alloc (.cells #[.int .u8 x0, .int .u8 x1, .int .u8 x2, .int .u8 x3, .int .u8 x4, .int .u8 x5, .int .u8 x6, .int .u8 x7] 78)) (.cells #[.int .u16 0, .int .u16 0] 65)
  rw [World.size_alloc] at r0
  have P0 := hide p0
  have R0 := hide r0
  clear r0 p0
  have hB : Mt.By [x0, x1, x2, x3, x4, x5, x6, x7] := hBx
  go_enter Tryd.func49, Tryd.ntmps49
  go_upto_region 1 with fail
  generalize ((w.alloc (.cells #[.int .u8 x0, .int .u8 x1, .int .u8 x2, .int .u8 x3, .int .u8 x4, .int .u8 x5, .int .u8 x6, .int .u8 x7] 78)).alloc (.cells #[.int .u16 0, .int .u16 0] 65)) = w0 at *
  refine anyT_begin (R := But (fun b => b = w.heap.size + 1)) 12 rfl (by kernel_rfl) ?_
  have ld : Later w0 w0.drew := Later.drew w0
  have pWd := later_keep ld P0.out
  have rWd := later_keep ld R0.out
  generalize w0.drew = Wd at *
  have ha : ∀ v1, But (fun b => b = w.heap.size + 1) Wd v1 → ∀ i, v1.cell? ⟨w.heap.size, i, none⟩ = #[Value.int .u8 x0, .int .u8 x1, .int .u8 x2, .int .u8 x3, .int .u8 x4, .int .u8 x5, .int .u8 x6, .int .u8 x7][i]? := fun v1 h => block_cell ((h.block w.heap.size (Array.getElem?_eq_some_iff.1 pWd).1 (by omega)).trans pWd)
  refine anyT_val (But.pre _) 0 rfl (by kernel_rfl) (by kernel_rfl) (by kernel_rfl) (fun _ _ _ _ h => h) rfl ?_; apply Exists.intro; refine ⟨fun v1 hv1 => ?_, ?_⟩; (· (go_simp; rfl)); simp only [Act.put, List.setIfInBounds_toArray, List.set_cons_zero, List.set_cons_succ]
  refine anyT_val (But.pre _) 1 rfl (by kernel_rfl) (by kernel_rfl) (by kernel_rfl) (fun _ _ _ _ h => h) rfl ?_; apply Exists.intro; refine ⟨fun v1 hv1 => ?_, ?_⟩; (· (go_simp; rfl)); simp only [Act.put, List.setIfInBounds_toArray, List.set_cons_zero, List.set_cons_succ]
  refine anyT_val (But.pre _) 2 rfl (by kernel_rfl) (by kernel_rfl) (by kernel_rfl) (fun _ _ _ _ h => h) rfl ?_; apply Exists.intro; refine ⟨fun v1 hv1 => ?_, ?_⟩; (· (go_simp; rfl)); simp only [Act.put, List.setIfInBounds_toArray, List.set_cons_zero, List.set_cons_succ]
  refine anyT_val (But.pre _) 3 rfl (by kernel_rfl) (by kernel_rfl) (by kernel_rfl) (fun _ _ _ _ h => h) rfl ?_; apply Exists.intro; refine ⟨fun v1 hv1 => ?_, ?_⟩; (· (go_simp; rfl)); simp only [Act.put, List.setIfInBounds_toArray, List.set_cons_zero, List.set_cons_succ]
  clear ha
  refine anyT_val (But.pre _) 4 rfl (by kernel_rfl) (by kernel_rfl) (by kernel_rfl) (fun _ _ _ _ h => h) rfl ?_; apply Exists.intro; refine ⟨fun v1 hv1 => ?_, ?_⟩; (· (go_simp; rfl)); simp only [Act.put, List.setIfInBounds_toArray, List.set_cons_zero, List.set_cons_succ]
  refine anyT_val (But.pre _) 5 rfl (by kernel_rfl) (by kernel_rfl) (by kernel_rfl) (fun _ _ _ _ h => h) rfl ?_; apply Exists.intro; refine ⟨fun v1 hv1 => ?_, ?_⟩; (· (go_simp; rfl)); simp only [Act.put, List.setIfInBounds_toArray, List.set_cons_zero, List.set_cons_succ]
  refine anyT_one 6 rfl (by kernel_rfl) rfl ?_
  refine wp_enter 67 #[.slice (some ⟨w.heap.size, 0, none⟩) 8 8, .int .i64 4] (by go_simp) ?_
  refine (get16_at _ [x0, x1, x2, x3, x4, x5, x6, x7] hB 4 Wd (rd8 pWd)).mono ?_
  rintro e W1 ⟨rfl, nW1, eW1⟩
  have lW1 : Later Wd W1 := by rw [eW1]; exact below_draw (Later.refl Wd) nW1
  clear eW1
  have pW1 := later_keep lW1 pWd
  have rW1 := later_keep lW1 rWd
  refine ⟨But.of lW1, ?_⟩
  simp only [Act.put, List.setIfInBounds_toArray, List.set_cons_zero, List.set_cons_succ]
  generalize hg4 : getAt2 [x0, x1, x2, x3, x4, x5, x6, x7] 4 = g4 at *
  have HG4 := hide hg4
  clear hg4
  refine anyT_one 7 rfl (by kernel_rfl) rfl ?_
  refine wp_enter 69 #[.agg #[.int .u8 x0, .int .u8 x1, .int .u32 0, .slice none 0 0], .int .u16 g4] (by go_simp) ?_
  refine (ofNumber_any x0 x1 0 g4 _ W1).mono ?_
  rintro e W2 ⟨hb2, ⟨he, rfl⟩ | ⟨he, rfl⟩⟩
  · have HE := hide he
    clear he
    have l2 : Later W1 W2 := hb2
    have rX := later_keep l2 rW1
    have hwX : Below w.heap.size w W2 := hb0.trans ((ld.trans (lW1.trans l2)).mono hb0.size)
    refine ⟨But.of l2, ?_⟩
    simp only [Act.put, List.setIfInBounds_toArray, List.set_cons_zero, List.set_cons_succ]
    refine anyT_val (But.pre _) 8 rfl (by kernel_rfl) (by kernel_rfl) (by kernel_rfl) (fun _ _ _ _ h => h) rfl ?_; apply Exists.intro; refine ⟨fun v1 hv1 => ?_, ?_⟩; (· (go_simp; rfl)); simp only [Act.put, List.setIfInBounds_toArray, List.set_cons_zero, List.set_cons_succ]
    refine anyT_val (But.pre _) 9 rfl (by kernel_rfl) (by kernel_rfl) (by kernel_rfl) (fun _ _ _ _ h => h) rfl ?_; apply Exists.intro; refine ⟨fun v1 hv1 => ?_, ?_⟩; (· (go_simp; rfl)); simp only [Act.put, List.setIfInBounds_toArray, List.set_cons_zero, List.set_cons_succ]
    have kX := block_cell rX
    have fX := block_frozen rX
    refine anyT_one 10 rfl (by kernel_rfl) rfl ?_
    unfold Oper.wp
    go_simp
    generalize hV : (W2.setCell ⟨w.heap.size + 1, 0, none⟩ _).setCell ⟨w.heap.size + 1, 1, none⟩ _ = V
    have hV8 : V = putRow W2 (w.heap.size + 1) 0 [.int .u16 g4, .int .u16 g4] := hV.symm
    have hbV : But (fun b => b = w.heap.size + 1) W2 V := by rw [hV8]; exact putRow_but (E := fun b => b = w.heap.size + 1) (n := w.heap.size + 1) rfl _ _ _ _ (But.refl _ _)
    have pV := putRow_all ([.int .u16 g4, .int .u16 g4] : List Value) rX rfl
    rw [← hV8] at pV
    clear hV hV8 kX fX
    refine ⟨hbV, ?_⟩
    refine anyT_one 11 rfl (by kernel_rfl) rfl ?_
    unfold Oper.wp
    go_simp
    refine ⟨But.refl _ _, ?_⟩
    refine anyT_done (by kernel_rfl) ?_
    go_wp2_with fail
    have PV := block_cell pV
    have hwV : Below w.heap.size w V := hwX.trans (hbV.below hwX.size (fun k hk e => by omega))
    exact bodyPost_ret (v := .tuple #[.agg #[.int .u16 g4, .int .u16 g4], .int .i64 0]) (by simp [results, Tryd.results49, go_sem, PV]) rfl ⟨hwV, .inl ⟨HE.out, by rw [HG4.out]⟩⟩
  · have HE := hide he
    clear he
    have l2 : Later W1 W2 := hb2
    have rX := later_keep l2 rW1
    have hwX : Below w.heap.size w W2 := hb0.trans ((ld.trans (lW1.trans l2)).mono hb0.size)
    refine ⟨But.of l2, ?_⟩
    simp only [Act.put, List.setIfInBounds_toArray, List.set_cons_zero, List.set_cons_succ]
    refine anyT_val (But.pre _) 8 rfl (by kernel_rfl) (by kernel_rfl) (by kernel_rfl) (fun _ _ _ _ h => h) rfl ?_; apply Exists.intro; refine ⟨fun v1 hv1 => ?_, ?_⟩; (· (go_simp; rfl)); simp only [Act.put, List.setIfInBounds_toArray, List.set_cons_zero, List.set_cons_succ]
    refine anyT_val (But.pre _) 9 rfl (by kernel_rfl) (by kernel_rfl) (by kernel_rfl) (fun _ _ _ _ h => h) rfl ?_; apply Exists.intro; refine ⟨fun v1 hv1 => ?_, ?_⟩; (· (go_simp; rfl)); simp only [Act.put, List.setIfInBounds_toArray, List.set_cons_zero, List.set_cons_succ]
    have kX := block_cell rX
    have fX := block_frozen rX
    refine anyT_one 10 rfl (by kernel_rfl) rfl ?_
    unfold Oper.wp
    go_simp
    generalize hV : (W2.setCell ⟨w.heap.size + 1, 0, none⟩ _).setCell ⟨w.heap.size + 1, 1, none⟩ _ = V
    have hV8 : V = putRow W2 (w.heap.size + 1) 0 [.int .u16 0, .int .u16 0] := hV.symm
    have hbV : But (fun b => b = w.heap.size + 1) W2 V := by rw [hV8]; exact putRow_but (E := fun b => b = w.heap.size + 1) (n := w.heap.size + 1) rfl _ _ _ _ (But.refl _ _)
    have pV := putRow_all ([.int .u16 0, .int .u16 0] : List Value) rX rfl
    rw [← hV8] at pV
    clear hV hV8 kX fX
    refine ⟨hbV, ?_⟩
    refine anyT_one 11 rfl (by kernel_rfl) rfl ?_
    unfold Oper.wp
    go_simp
    refine ⟨But.refl _ _, ?_⟩
    refine anyT_done (by kernel_rfl) ?_
    go_wp2_with fail
    have PV := block_cell pV
    have hwV : Below w.heap.size w V := hwX.trans (hbV.below hwX.size (fun k hk e => by omega))
    exact bodyPost_ret (v := .tuple #[.agg #[.int .u16 0, .int .u16 0], .int .i64 12]) (by simp [results, Tryd.results49, go_sem, PV]) rfl ⟨hwV, .inr ⟨HE.out, rfl⟩⟩

set_option maxHeartbeats 4000000 in
theorem ofBegin_any (x0 x1 x2 x3 x4 x5 x6 x7 : Int) (w : World) (hT : Tb w) (hBx : Mt.By [x0, x1, x2, x3, x4, x5, x6, x7]) :
    Calls Tryd.prog 51 #[.agg #[.int .u8 x0, .int .u8 x1, .int .u8 x2, .int .u8 x3, .int .u8 x4, .int .u8 x5, .int .u8 x6, .int .u8 x7]] w fun e w' => Below w.heap.size w w' ∧ ((pge 47 [x0, x1, x2, x3, x4, x5, x6, x7] = 4 ∧ e = .returned (.tuple #[.agg #[.int .u16 0, .int .u16 0], .int .i64 4])) ∨ (pge 47 [x0, x1, x2, x3, x4, x5, x6, x7] ≠ 4 ∧ e = .returned (.tuple #[.agg #[.int .u16 0, .int .u16 (getAt2 [x0, x1, x2, x3, x4, x5, x6, x7] 6)], .int .i64 0]))) := by
  have hb0 : Below w.heap.size w ((w.alloc (.cells #[.int .u8 x0, .int .u8 x1, .int .u8 x2, .int .u8 x3, .int .u8 x4, .int .u8 x5, .int .u8 x6, .int .u8 x7] 78)).alloc (.cells #[.int .u16 0, .int .u16 0] 65)) := ((Below.refl _ _).alloc (Nat.le_refl _) _).alloc (by simp) _
  have p0 : ((w.alloc (.cells #[.int .u8 x0, .int .u8 x1, .int .u8 x2, .int .u8 x3, .int .u8 x4, .int .u8 x5, .int .u8 x6, .int .u8 x7] 78)).alloc (.cells #[.int .u16 0, .int .u16 0] 65)).heap[w.heap.size]? = some (.cells #[.int .u8 x0, .int .u8 x1, .int .u8 x2, .int .u8 x3, .int .u8 x4, .int .u8 x5, .int .u8 x6, .int .u8 x7] 78) := (Below.heap_alloc _ _ _ (by simp)).trans (heap_alloc_new w _)
  have r0 := heap_alloc_new (w.alloc (.cells #[.int .u8 x0, .int .u8 x1, .int .u8 x2, .int .u8 x3, .int .u8 x4, .int .u8 x5, .int .u8 x6, .int .u8 x7] 78)) (.cells #[.int .u16 0, .int .u16 0] 65)
  rw [World.size_alloc] at r0
  have P0 := hide p0
  have R0 := hide r0
  clear r0 p0
  have hB : Mt.By [x0, x1, x2, x3, x4, x5, x6, x7] := hBx
  go_enter Tryd.func51, Tryd.ntmps51
  go_wp2_with fail
  generalize ((w.alloc (.cells #[.int .u8 x0, .int .u8 x1, .int .u8 x2, .int .u8 x3, .int .u8 x4, .int .u8 x5, .int .u8 x6, .int .u8 x7] 78)).alloc (.cells #[.int .u16 0, .int .u16 0] 65)) = w0 at *
  refine (parseGre_any 0 0 0 47 0 0 false _ _ [x0, x1, x2, x3, x4, x5, x6, x7] w0 (hT.below hb0 hT.pos) hB (rd8 P0.out) (by simp)).mono ?_
  rintro e w1 ⟨hb1, ⟨hf, rfl⟩ | ⟨hf, a1, c1, rfl, hO⟩⟩
  · rw [show zf.toArray = #[.int .u16 0, .bool false, .bool false, .int .u32 0, .int .u32 0, .slice none 0 0] from rfl]
    generalize hpg : pge 47 [x0, x1, x2, x3, x4, x5, x6, x7] = f at *
    have HPG : Hid (pge 47 [x0, x1, x2, x3, x4, x5, x6, x7] = f) := hpg
    clear hpg hf
    skip
    by_cases h4 : f = 4
    · skip
      have ne : (f == 4) = true := by simp [h4]
      have H4 := hide h4
      clear h4
      have l1 : Later w0 w1 := hb1
      have la : Later w1 (w1.alloc (.cells #[.int .u16 0, .bool false, .bool false, .int .u32 0, .int .u32 0, .slice none 0 0] 52)) := (Below.refl _ _).alloc (Nat.le_refl _) _
      have rX := later_keep (l1.trans la) R0.out
      have hwX := hb0.trans ((l1.trans la).mono hb0.size)
      have kX := block_cell rX
      have fX := block_frozen rX
      go_wp2_with fail
      clear ne
      generalize w1.alloc (.cells #[.int .u16 0, .bool false, .bool false, .int .u32 0, .int .u32 0, .slice none 0 0] 52) = W at *
      generalize hV : (W.setCell ⟨w.heap.size + 1, 0, none⟩ _).setCell ⟨w.heap.size + 1, 1, none⟩ _ = V
      have hV8 : V = putRow W (w.heap.size + 1) 0 [.int .u16 0, .int .u16 0] := hV.symm
      have hbV : But (fun b => b = w.heap.size + 1) W V := by rw [hV8]; exact putRow_but (E := fun b => b = w.heap.size + 1) (n := w.heap.size + 1) rfl _ _ _ _ (But.refl _ _)
      have pV := putRow_all ([.int .u16 0, .int .u16 0] : List Value) rX rfl
      rw [← hV8] at pV
      clear hV hV8 kX fX
      have PV := block_cell pV
      have hwV : Below w.heap.size w V := hwX.trans (hbV.below hwX.size (fun k hk e => by omega))
      exact bodyPost_ret (v := .tuple #[.agg #[.int .u16 0, .int .u16 0], .int .i64 f]) (by simp [results, Tryd.results51, go_sem, PV]) rfl ⟨hwV, .inl ⟨HPG.out.trans H4.out, by rw [H4.out]⟩⟩
    · have HN4 := hide h4
      have ne : (f == 4) = false := by simp [h4]
      clear h4
      have l1 : Later w0 w1 := hb1
      have la : Later w1 (w1.alloc (.cells #[.int .u16 0, .bool false, .bool false, .int .u32 0, .int .u32 0, .slice none 0 0] 52)) := (Below.refl _ _).alloc (Nat.le_refl _) _
      have pW := later_keep (l1.trans la) P0.out
      have rW := later_keep (l1.trans la) R0.out
      have hwW := hb0.trans ((l1.trans la).mono hb0.size)
      go_wp2_with fail
      clear ne
      generalize w1.alloc (.cells #[.int .u16 0, .bool false, .bool false, .int .u32 0, .int .u32 0, .slice none 0 0] 52) = W at *
      refine (get16_at _ [x0, x1, x2, x3, x4, x5, x6, x7] hB 6 W (rd8 pW)).mono ?_
      rintro e W2 ⟨rfl, n2, e2⟩
      have l2 : Later W W2 := by rw [e2]; exact below_draw (Later.refl W) n2
      clear e2
      have rX := later_keep l2 rW
      have hwX := hwW.trans (l2.mono hwW.size)
      generalize hg6 : getAt2 [x0, x1, x2, x3, x4, x5, x6, x7] 6 = g6 at *
      have HG6 := hide hg6
      clear hg6
      have kX := block_cell rX
      have fX := block_frozen rX
      go_wp2_with fail
      generalize hV : (W2.setCell ⟨w.heap.size + 1, 0, none⟩ _).setCell ⟨w.heap.size + 1, 1, none⟩ _ = V
      have hV8 : V = putRow W2 (w.heap.size + 1) 0 [.int .u16 0, .int .u16 g6] := hV.symm
      have hbV : But (fun b => b = w.heap.size + 1) W2 V := by rw [hV8]; exact putRow_but (E := fun b => b = w.heap.size + 1) (n := w.heap.size + 1) rfl _ _ _ _ (But.refl _ _)
      have pV := putRow_all ([.int .u16 0, .int .u16 g6] : List Value) rX rfl
      rw [← hV8] at pV
      clear hV hV8 kX fX
      have PV := block_cell pV
      have hwV : Below w.heap.size w V := hwX.trans (hbV.below hwX.size (fun k hk e => by omega))
      exact bodyPost_ret (v := .tuple #[.agg #[.int .u16 0, .int .u16 g6], .int .i64 0]) (by simp [results, Tryd.results51, go_sem, PV]) rfl ⟨hwV, .inr ⟨by rw [HPG.out]; exact HN4.out, by rw [HG6.out]⟩⟩
  · have HPG := hide hf
    clear hf hO
    have l1 : Later w0 w1 := hb1
    generalize hB1 : ghs (bgz [x0, x1, x2, x3, x4, x5, x6, x7]) = y1 at *
    generalize hB2 : gha (bgz [x0, x1, x2, x3, x4, x5, x6, x7]) = y2 at *
    generalize hB3 : gsq (bgz [x0, x1, x2, x3, x4, x5, x6, x7]) [x0, x1, x2, x3, x4, x5, x6, x7] = y3 at *
    generalize hB4 : gak (bgz [x0, x1, x2, x3, x4, x5, x6, x7]) [x0, x1, x2, x3, x4, x5, x6, x7] = y4 at *
    generalize hB5 : [x0, x1, x2, x3, x4, x5, x6, x7].length - ghd (bgz [x0, x1, x2, x3, x4, x5, x6, x7]) = y5 at *
    clear hB1 hB2 hB3 hB4 hB5
    have la : Later w1 (w1.alloc (.cells #[.int .u16 (getAt2 [x0, x1, x2, x3, x4, x5, x6, x7] 6), .bool y1, .bool y2, .int .u32 y3, .int .u32 y4, .slice a1 y5 c1] 52)) := (Below.refl _ _).alloc (Nat.le_refl _) _
    have pW := later_keep (l1.trans la) P0.out
    have rW := later_keep (l1.trans la) R0.out
    have hwW := hb0.trans ((l1.trans la).mono hb0.size)
    go_wp2_with fail
    generalize w1.alloc (.cells #[.int .u16 (getAt2 [x0, x1, x2, x3, x4, x5, x6, x7] 6), .bool y1, .bool y2, .int .u32 y3, .int .u32 y4, .slice a1 y5 c1] 52) = W at *
    refine (get16_at _ [x0, x1, x2, x3, x4, x5, x6, x7] hB 6 W (rd8 pW)).mono ?_
    rintro e W2 ⟨rfl, n2, e2⟩
    have l2 : Later W W2 := by rw [e2]; exact below_draw (Later.refl W) n2
    clear e2
    have rX := later_keep l2 rW
    have hwX := hwW.trans (l2.mono hwW.size)
    generalize hg6 : getAt2 [x0, x1, x2, x3, x4, x5, x6, x7] 6 = g6 at *
    have HG6 := hide hg6
    clear hg6
    have kX := block_cell rX
    have fX := block_frozen rX
    go_wp2_with fail
    generalize hV : (W2.setCell ⟨w.heap.size + 1, 0, none⟩ _).setCell ⟨w.heap.size + 1, 1, none⟩ _ = V
    have hV8 : V = putRow W2 (w.heap.size + 1) 0 [.int .u16 0, .int .u16 g6] := hV.symm
    have hbV : But (fun b => b = w.heap.size + 1) W2 V := by rw [hV8]; exact putRow_but (E := fun b => b = w.heap.size + 1) (n := w.heap.size + 1) rfl _ _ _ _ (But.refl _ _)
    have pV := putRow_all ([.int .u16 0, .int .u16 g6] : List Value) rX rfl
    rw [← hV8] at pV
    clear hV hV8 kX fX
    have PV := block_cell pV
    have hwV : Below w.heap.size w V := hwX.trans (hbV.below hwX.size (fun k hk e => by omega))
    exact bodyPost_ret (v := .tuple #[.agg #[.int .u16 0, .int .u16 g6], .int .i64 0]) (by simp [results, Tryd.results51, go_sem, PV]) rfl ⟨hwV, .inr ⟨by rw [HPG.out]; decide, by rw [HG6.out]⟩⟩
end Go.Proofs.YtojoaidnkljcpaaDoor

/- Package ipv4's read: what it hands back of bytes; a refusal is caught. -/
namespace Go.Proofs.YtojoaidnkljcpaaDoor
open Go.RowKit Go.Shelf
set_option maxRecDepth 100000
set_option linter.unusedVariables false
set_option linter.unusedSimpArgs false

/-- A packet of nothing. -/
abbrev zc : List Value := [.int .u8 0, .int .u16 0, .bool false, .int .u8 0, .int .u8 0, .int .u32 0, .int .u32 0, .slice none 0 0, .slice none 0 0]

theorem catch_idle (pb eb : Nat) (w : World) :
    CallsD Tryd.prog 73 #[.pointer (some ⟨pb, 0, none⟩), .pointer (some ⟨eb, 0, none⟩)] .returning w fun e u' w' => e = .returned (.tuple #[]) ∧ u' = .returning ∧ w' = w := by
  refine callsD_of_wpS Tryd.func73 rfl fun c₀ cs hu => ?_
  apply wpS_seq
  apply wpS_region
  simp [wpOpsS, go_sem, recoverD, hu, Tryd.ntmps73, Exit.thenS]
  refine wpS_of_wp ?_
  go_wp2
  cases c₀
  simp_all [bodyPostS, results, Tryd.results73]

theorem ta_yes (c : Int) (w : World) : (Instr.typeAssert (rfs c) 20 108 true).run Tryd.prog w = .ok (.tuple #[.agg #[.int .i64 c], .bool true]) w := by kernel_rfl

set_option maxHeartbeats 1000000 in
theorem catch_refused (n pb eb : Nat) (c x : Int) (cur : Array Value) (w : World) (hp : w.heap[pb]? = some (.cells cur 26 (0, 0))) (hs : cur.size = 9) (he : w.heap[eb]? = some (.cells #[.int .i64 x] 29 (0, 0))) (hpe : pb ≠ eb) (hn : n ≤ pb) (hn2 : n ≤ eb) :
    CallsD Tryd.prog 73 #[.pointer (some ⟨pb, 0, none⟩), .pointer (some ⟨eb, 0, none⟩)] (.panicking (rfp c)) w fun e u' w' =>
      e = .returned (.tuple #[]) ∧ u' = .panicking [{ v := rfs c, recovered := true }] ∧ w'.heap[pb]? = some (.cells zc.toArray 26 (0, 0)) ∧ w'.heap[eb]? = some (.cells #[.int .i64 c] 29 (0, 0)) ∧ Below n w w' := by
  have hpl := (Array.getElem?_eq_some_iff.1 hp).1
  have hel := (Array.getElem?_eq_some_iff.1 he).1
  refine callsD_of_wpS Tryd.func73 rfl fun c₀ cs hu => ?_
  apply wpS_seq
  apply wpS_region
  simp [wpOpsS, go_sem, recoverD, hu, Tryd.ntmps73, Exit.thenS]
  simp only [Array.replicate_succ, Array.replicate_zero, List.push_toArray, List.append_toArray, List.nil_append, List.cons_append, List.setIfInBounds_toArray, List.set_cons_zero, List.set_cons_succ]
  have hta := ta_yes c
  refine wpS_of_wp ?_
  go_wp2
  have hb0 : Later w (w.alloc (.cells #[.int .i64 c] 108)) := (Below.refl _ _).alloc (Nat.le_refl _) _
  have q3 : (w.alloc (.cells #[.int .i64 c] 108)).cell? ⟨w.heap.size, 0, none⟩ = some (.int .i64 c) := cell_new w _ _ 0
  have hp0 := (hb0.block pb hpl).trans hp
  have he0 := (hb0.block eb hel).trans he
  have hwp : w.heap.size ≠ pb := by omega
  have hwe : w.heap.size ≠ eb := by omega
  have hpw : ¬ pb = w.heap.size := by omega
  have hew : ¬ eb = w.heap.size := by omega
  generalize w.alloc (.cells #[.int .i64 c] 108) = W0 at *
  have k6 : ∀ j, W0.cell? ⟨pb, j, none⟩ = cur[j]? := block_cell hp0
  have f6 : ∀ j, W0.frozen? ⟨pb, j, none⟩ = false := block_frozen hp0
  have k7 : ∀ j, W0.cell? ⟨eb, j, none⟩ = #[Value.int .i64 x][j]? := block_cell he0
  have f7 : ∀ j, W0.frozen? ⟨eb, j, none⟩ = false := block_frozen he0
  go_region
  all_goals
    generalize hV7 : ((((((((W0.setCell ⟨pb, 0, none⟩ _).setCell ⟨pb, 1, none⟩ _).setCell ⟨pb, 2, none⟩ _).setCell ⟨pb, 3, none⟩ _).setCell ⟨pb, 4, none⟩ _).setCell ⟨pb, 5, none⟩ _).setCell ⟨pb, 6, none⟩ _).setCell ⟨pb, 7, none⟩ _).setCell ⟨pb, 8, none⟩ _ = V7
    have hV8 : V7 = putRow W0 pb 0 zc := hV7.symm
    have hbp : But (fun b => b = pb) W0 V7 := by rw [hV8]; exact putRow_but (E := fun b => b = pb) (n := pb) rfl zc 0 W0 W0 (But.refl _ _)
    have hP := putRow_all zc hp0 hs
    rw [← hV8] at hP
    clear hV7 hV8
    have hE := heap_set1 ((hbp.block eb (Nat.lt_of_lt_of_le hel hb0.size) (fun e => hpe e.symm)).trans he0) 0 (.int .i64 c)
    have hP2 := (Below.heap_setCell V7 ⟨eb, 0, none⟩ (.int .i64 c) pb hpe).trans hP
    have hB2 : Below n w ((V7.setCell ⟨eb, 0, none⟩ (.int .i64 c)).drew) := (((hb0.mono (by omega)).trans (hbp.below (Nat.le_trans (Nat.le_trans hn (Nat.le_of_lt hpl)) hb0.size) (fun k h e => by omega))).setCell (p := ⟨eb, 0, none⟩) hn2 _).drew
    refine ⟨rfl, _, rfl, .tuple #[], by simp [results, Tryd.results73], rfl, rfl, hP2, hE, hB2⟩

abbrev dfr (pb : Nat) : List Deferred := [{ target := .fn (.func 73) #[.pointer (some ⟨pb, 0, none⟩), .pointer (some ⟨pb + 1, 0, none⟩)], args := #[] }]

theorem res_read (tm : Array Value) (pb : Nat) (c : Int) (v0 v1 v2 v3 v4 v5 v6 v7 v8 : Value) (w : World) (h4 : tm[4]? = some (.pointer (some ⟨pb, 0, none⟩))) (h5 : tm[5]? = some (.pointer (some ⟨pb + 1, 0, none⟩)))
    (hp : w.heap[pb]? = some (.cells #[v0, v1, v2, v3, v4, v5, v6, v7, v8] 26 (0, 0))) (he : w.heap[pb + 1]? = some (.cells #[.int .i64 c] 29 (0, 0))) :
    (results Tryd.f60 tm).run Tryd.prog w = .ok (.tuple #[.agg #[v0, v1, v2, v3, v4, v5, v6, v7, v8], .int .i64 c]) w := by
  have kP := block_cell hp
  have kE := block_cell he
  simp [results, Tryd.results60, go_sem, h4, h5, kP, kE]

theorem door_refused {R : Ending → World → Prop} (tm : Array Value) (n pb : Nat) (c x : Int) (cur : Array Value) (w : World) (hp : w.heap[pb]? = some (.cells cur 26 (0, 0))) (hs : cur.size = 9) (he : w.heap[pb + 1]? = some (.cells #[.int .i64 x] 29 (0, 0))) (hn : n ≤ pb)
    (h4 : tm[4]? = some (.pointer (some ⟨pb, 0, none⟩))) (h5 : tm[5]? = some (.pointer (some ⟨pb + 1, 0, none⟩)))
    (hR : ∀ w', Below n w w' → R (.returned (.tuple #[.agg zc.toArray, .int .i64 c])) w') :
    bodyPostD Tryd.prog Tryd.f60 R (.panic (rfp c)) { tmps := tm, defers := dfr pb } w := by
  refine leaves_cons (f := 73) (args := #[.pointer (some ⟨pb, 0, none⟩), .pointer (some ⟨pb + 1, 0, none⟩)]) (by simp) (by simp [go_sem]) ?_
  refine (catch_refused n pb (pb + 1) c x cur w hp hs he (by omega) hn (by omega)).mono ?_
  rintro e u' w'' ⟨rfl, rfl, hP, hE, hb⟩
  exact ⟨_, res_read tm pb c _ _ _ _ _ _ _ _ _ w'' h4 h5 hP hE, hR w'' hb⟩

theorem door_idle {R : Ending → World → Prop} (tm : Array Value) (pb : Nat) (c : Int) (v0 v1 v2 v3 v4 v5 v6 v7 v8 : Value) (w : World)
    (hp : w.heap[pb]? = some (.cells #[v0, v1, v2, v3, v4, v5, v6, v7, v8] 26 (0, 0))) (he : w.heap[pb + 1]? = some (.cells #[.int .i64 c] 29 (0, 0)))
    (h4 : tm[4]? = some (.pointer (some ⟨pb, 0, none⟩))) (h5 : tm[5]? = some (.pointer (some ⟨pb + 1, 0, none⟩)))
    (hR : R (.returned (.tuple #[.agg #[v0, v1, v2, v3, v4, v5, v6, v7, v8], .int .i64 c])) w) :
    bodyPostD Tryd.prog Tryd.f60 R .ret { tmps := tm, defers := dfr pb } w := by
  refine leaves_cons (f := 73) (args := #[.pointer (some ⟨pb, 0, none⟩), .pointer (some ⟨pb + 1, 0, none⟩)]) (by simp) (by simp [go_sem]) ?_
  refine (catch_idle pb (pb + 1) w).mono ?_
  rintro e u' w'' ⟨rfl, rfl, rfl⟩
  exact ⟨_, res_read tm pb c _ _ _ _ _ _ _ _ _ w'' h4 h5 hp he, hR⟩

/-- How many bytes in all; what is wrong. -/
def ral (q : Bool) (zs : List Int) : Int := if q then min (wat zs 2) zs.length else wat zs 2
def rde (q : Bool) (zs : List Int) : Int :=
  if msr zs ≠ 0 then msr zs else if (zs.length : Int) < ral q zs then 3 else if chk zs ≠ 0 then chk zs else if q = true ∧ ral q zs - hl4 zs < 8 then 3 else 0

set_option maxHeartbeats 4000000 in
theorem read_any (q : Bool) (sv : Value) (zs : List Int) (w : World) (hB : Mt.By zs) (hl : zs.length ≤ 225000000000000) (hI : Rd w.heap.size w sv zs) :
    Calls Tryd.prog 60 #[sv, .bool q] w fun e w' => Below w.heap.size w w' ∧
      ((rde q zs ≠ 0 ∧ e = .returned (.tuple #[.agg zc.toArray, .int .i64 (rde q zs)])) ∨
       (rde q zs = 0 ∧ ∃ so sd, e = .returned (.tuple #[pkt zs so sd, .int .i64 0]) ∧ Ow w.heap.size w' so ((zs.take (hl4 zs).toNat).drop 20) ∧ Ow w.heap.size w' sd ((zs.take (ral q zs).toNat).drop (hl4 zs).toNat))) := by
  have hmf : ∀ (fn : Fn) (first cap : Array Value) (w : World), (Instr.makeFunc fn first cap).run Tryd.prog w = .ok (.func fn first cap) w := fun _ _ _ _ => rfl
  obtain ⟨a, cap, rfl, hl1, hm1⟩ := hI.slice
  have HM : Hid (rde q zs = if msr zs ≠ 0 then msr zs else if (zs.length : Int) < ral q zs then 3 else if chk zs ≠ 0 then chk zs else if q = true ∧ ral q zs - hl4 zs < 8 then 3 else 0) := rfl
  generalize rde q zs = m at *
  go_enter_defers Tryd.func60, Tryd.ntmps60
  go_wp2_with fail
  have a1 := heap_alloc_new w (.cells zc.toArray 26)
  have s1 : (w.alloc (.cells zc.toArray 26)).heap.size = w.heap.size + 1 := by simp
  have hb1 : Below w.heap.size w (w.alloc (.cells zc.toArray 26)) := (Below.refl _ _).alloc (Nat.le_refl _) _
  generalize w.alloc (.cells zc.toArray 26) = W1 at *
  have a2 := heap_alloc_new W1 (.cells #[.int .i64 0] 29)
  rw [s1] at a2
  have l2 : Later W1 (W1.alloc (.cells #[.int .i64 0] 29)) := (Below.refl _ _).alloc (Nat.le_refl _) _
  have a3 := (l2.block _ (by omega)).trans a1
  have s2 : (W1.alloc (.cells #[.int .i64 0] 29)).heap.size = w.heap.size + 1 + 1 := by simp [s1]
  generalize W1.alloc (.cells #[.int .i64 0] 29) = W2 at *
  have a4 := heap_alloc_new W2 (.cells #[.int .i64 0, .int .i64 0, .slice a zs.length cap] 112)
  rw [s2] at a4
  have l3 : Later W2 (W2.alloc (.cells #[.int .i64 0, .int .i64 0, .slice a zs.length cap] 112)) := (Below.refl _ _).alloc (Nat.le_refl _) _
  have a5 := (l3.block _ (by omega)).trans a2
  have a6 := (l3.block _ (by omega)).trans a3
  have s3 : (W2.alloc (.cells #[.int .i64 0, .int .i64 0, .slice a zs.length cap] 112)).heap.size = w.heap.size + 1 + 1 + 1 := by simp [s2]
  generalize W2.alloc (.cells #[.int .i64 0, .int .i64 0, .slice a zs.length cap] 112) = W3 at *
  have hb3 := (hb1.trans (l2.mono (by omega))).trans (l3.mono (by omega))
  clear a1 a2 a3 l2 l3 hb1 s1 s2
  refine (measure_any w.heap.size (w.heap.size + 1 + 1) 0 0 _ zs W3 hB hl (hI.below hb3) (by omega) (block_cell a4 0) (block_cell a4 1) (block_cell a4 2) (block_frozen a4 0) (block_frozen a4 1)).mono ?_
  rintro e w4 ⟨hb4, ⟨h1, rfl⟩ | ⟨h1, rfl, k0, k1, k2, f1⟩⟩
  · have := HM.out
    rw [if_pos h1] at this
    subst this
    exact door_refused _ w.heap.size w.heap.size _ 0 _ w4 ((hb4.block _ (by omega)).trans a6) rfl ((hb4.block _ (by omega)).trans a5) (Nat.le_refl _) rfl rfl (fun w' hb' => ⟨(hb3.trans (hb4.mono (by omega))).trans hb', .inl ⟨h1, rfl⟩⟩)
  have hfit : 20 ≤ hl4 zs ∧ hl4 zs ≤ zs.length ∧ hl4 zs ≤ wat zs 2 ∧ 20 ≤ zs.length := by
    unfold msr at h1
    split at h1
    · omega
    · split at h1
      · omega
      · split at h1
        · omega
        · split at h1
          · omega
          · split at h1 <;> omega
  have hn2 := wat_bd hB 2
  cases q
  · go_wp2_with fail
    by_cases h2 : (zs.length : Int) < wat zs 2
    · rw [show decide ((zs.length : Int) < wat zs 2) = true from by simpa using h2]
      refine (refuse_yes 3 _).mono ?_
      rintro e w' ⟨rfl, rfl⟩
      have := HM.out
      rw [if_neg (by simp [h1]), if_pos (by simpa [ral] using h2)] at this
      subst this
      exact door_refused _ w.heap.size w.heap.size _ 0 _ w4 ((hb4.block _ (by omega)).trans a6) rfl ((hb4.block _ (by omega)).trans a5) (Nat.le_refl _) rfl rfl (fun w' hb' => ⟨(hb3.trans (hb4.mono (by omega))).trans hb', .inl ⟨by omega, rfl⟩⟩)
    rw [show decide ((zs.length : Int) < wat zs 2) = false from by simpa using h2]
    refine (refuse_no 3 _).mono ?_
    rintro e w' ⟨rfl, rfl⟩
    have hb5 := hb4
    have K0 := k0
    have K1 := k1
    have K2 := k2
    clear hb4 k0 k1 k2
    have hz5 := hb5.size
    go_wp2_with fail
    refine (check_any (w.heap.size + 1 + 1) _ zs w4 hB hl ((hI.below (hb3.trans (hb5.mono (by omega)))).mono (by omega)) hfit.1 hfit.2.1 K0 K2).mono ?_
    rintro e w6 ⟨l6, ⟨h3, rfl⟩ | ⟨h3, rfl⟩⟩
    · have := HM.out
      rw [if_neg (by simp [h1]), if_neg (by simp [ral]; omega), if_pos h3] at this
      subst this
      exact door_refused _ w.heap.size w.heap.size _ 0 _ w6 ((l6.block _ (by omega)).trans ((hb5.block _ (by omega)).trans a6)) rfl ((l6.block _ (by omega)).trans ((hb5.block _ (by omega)).trans a5)) (Nat.le_refl _) rfl rfl (fun w' hb' => ⟨((hb3.trans (hb5.mono (by omega))).trans (l6.mono (by omega))).trans hb', .inl ⟨h3, rfl⟩⟩)
    obtain ⟨k, hk⟩ := Int.eq_ofNat_of_zero_le (show 0 ≤ hl4 zs by omega)
    obtain ⟨n, hn⟩ := Int.eq_ofNat_of_zero_le (show 0 ≤ wat zs 2 by omega)
    rw [hk] at K0
    rw [hn] at K1
    have c6 := l6.cell K0
    have d6 := l6.cell K1
    have e6 := l6.cell K2
    have p6 := (l6.block _ (by omega)).trans ((hb5.block _ (by omega)).trans a6)
    have q6 := (l6.block _ (by omega)).trans ((hb5.block _ (by omega)).trans a5)
    have hb6 := hb5.trans (l6.mono (by omega))
    have HK := hide hk
    have HN := hide hn
    have hkn : 20 ≤ k ∧ k ≤ n ∧ n ≤ zs.length ∧ n ≤ 65535 := by omega
    clear hk hn
    go_wp2_with fail
    refine (packet_any (w.heap.size + 1 + 1) _ zs k n w6 hB hl ((hI.below (hb3.trans (hb6.mono (by omega)))).mono (Nat.le_trans hb3.size hb6.size)) hkn.1 hkn.2.1 hkn.2.2.1 hkn.2.2.2 c6 d6 e6).mono ?_
    rintro e w7 ⟨so, sd, rfl, hOo, hOd, l7⟩
    have p7 := (l7.block _ (Array.getElem?_eq_some_iff.1 p6).1).trans p6
    have q7 := (l7.block _ (Array.getElem?_eq_some_iff.1 q6).1).trans q6
    have hb7 := hb6.trans (l7.mono (Nat.le_trans (by omega) hb6.size))
    obtain ⟨aso, cso, rfl, _, _⟩ := hOo.slice
    obtain ⟨asd, csd, rfl, _, _⟩ := hOd.slice
    have hlo : ((zs.take k).drop 20).length = min k zs.length - 20 := by simp
    have hld : ((zs.take n).drop k).length = n - k := by simp; omega
    rw [hlo] at hOo ⊢
    rw [hld] at hOd ⊢
    clear hlo hld
    have P7 := block_cell p7
    have F7 := block_frozen p7
    unfold pkt
    go_wp2_with fail
    clear P7 F7
    generalize hV8 : ((((((((w7.setCell ⟨w.heap.size, 0, none⟩ _).setCell ⟨w.heap.size, 1, none⟩ _).setCell ⟨w.heap.size, 2, none⟩ _).setCell ⟨w.heap.size, 3, none⟩ _).setCell ⟨w.heap.size, 4, none⟩ _).setCell ⟨w.heap.size, 5, none⟩ _).setCell ⟨w.heap.size, 6, none⟩ _).setCell ⟨w.heap.size, 7, none⟩ _).setCell ⟨w.heap.size, 8, none⟩ _ = V8
    have hV9 : V8 = putRow w7 w.heap.size 0 [.int .u8 (zs[1]?.getD 0), .int .u16 (wat zs 4), .bool (decide (16384 ≤ wat zs 6 % 32768)), .int .u8 (zs[8]?.getD 0), .int .u8 (zs[9]?.getD 0), .int .u32 (wat4 zs 12), .int .u32 (wat4 zs 16), .slice aso (min k zs.length - 20) cso, .slice asd (n - k) csd] := hV8.symm
    have hb8 : But (fun b => b = w.heap.size) w7 V8 := by rw [hV9]; exact putRow_but (E := fun b => b = w.heap.size) (n := w.heap.size) rfl _ _ _ _ (But.refl _ _)
    have p8 := putRow_all [.int .u8 (zs[1]?.getD 0), .int .u16 (wat zs 4), .bool (decide (16384 ≤ wat zs 6 % 32768)), .int .u8 (zs[8]?.getD 0), .int .u8 (zs[9]?.getD 0), .int .u32 (wat4 zs 12), .int .u32 (wat4 zs 16), .slice aso (min k zs.length - 20) cso, .slice asd (n - k) csd] p7 rfl
    rw [← hV9] at p8
    clear hV8 hV9
    have q8 := (hb8.block _ (Array.getElem?_eq_some_iff.1 q7).1 (by omega)).trans q7
    have P8 := block_cell p8
    have F8 := block_frozen p8
    have E8 := block_cell q8
    have G8 := block_frozen q8
    have hs7 : w.heap.size ≤ w7.heap.size := Nat.le_trans hb3.size hb7.size
    have hbW8 := (hb3.trans (hb7.mono (by omega))).trans (hb8.below hs7 (fun j h e => by omega))
    have hOo8 := hOo.but hb8 (fun b h e => by have := hb6.size; omega)
    have hOd8 := hOd.but hb8 (fun b h e => by have := hb6.size; omega)
    refine (refuse_no 3 _).mono ?_
    rintro e w' ⟨rfl, rfl⟩
    go_wp2_with fail
    generalize hV9 : ((((((((V8.setCell ⟨w.heap.size, 0, none⟩ _).setCell ⟨w.heap.size, 1, none⟩ _).setCell ⟨w.heap.size, 2, none⟩ _).setCell ⟨w.heap.size, 3, none⟩ _).setCell ⟨w.heap.size, 4, none⟩ _).setCell ⟨w.heap.size, 5, none⟩ _).setCell ⟨w.heap.size, 6, none⟩ _).setCell ⟨w.heap.size, 7, none⟩ _).setCell ⟨w.heap.size, 8, none⟩ _ = V9
    have hV10 : V9 = putRow V8 w.heap.size 0 [.int .u8 (zs[1]?.getD 0), .int .u16 (wat zs 4), .bool (decide (16384 ≤ wat zs 6 % 32768)), .int .u8 (zs[8]?.getD 0), .int .u8 (zs[9]?.getD 0), .int .u32 (wat4 zs 12), .int .u32 (wat4 zs 16), .slice aso (min k zs.length - 20) cso, .slice asd (n - k) csd] := hV9.symm
    have hb9 : But (fun b => b = w.heap.size) V8 V9 := by rw [hV10]; exact putRow_but (E := fun b => b = w.heap.size) (n := w.heap.size) rfl _ _ _ _ (But.refl _ _)
    have p9 := putRow_all [.int .u8 (zs[1]?.getD 0), .int .u16 (wat zs 4), .bool (decide (16384 ≤ wat zs 6 % 32768)), .int .u8 (zs[8]?.getD 0), .int .u8 (zs[9]?.getD 0), .int .u32 (wat4 zs 12), .int .u32 (wat4 zs 16), .slice aso (min k zs.length - 20) cso, .slice asd (n - k) csd] p8 rfl
    rw [← hV10] at p9
    clear hV9 hV10
    have q9 := (hb9.block _ (Array.getElem?_eq_some_iff.1 q8).1 (by omega)).trans q8
    have q10 := heap_set1 q9 0 (.int .i64 0)
    have p10 := (Below.heap_setCell V9 ⟨w.heap.size + 1, 0, none⟩ (.int .i64 0) w.heap.size (by simp)).trans p9
    have hs8 : w.heap.size ≤ V8.heap.size := Nat.le_trans hs7 hb8.size
    have hb10 : Below w.heap.size w (V9.setCell ⟨w.heap.size + 1, 0, none⟩ (.int .i64 0)) := (hbW8.trans (hb9.below hs8 (fun j h e => by omega))).setCell (p := ⟨w.heap.size + 1, 0, none⟩) (Nat.le_succ _) _
    have hbb : But (fun b => b = w.heap.size ∨ b = w.heap.size + 1) V8 (V9.setCell ⟨w.heap.size + 1, 0, none⟩ (.int .i64 0)) := But.setCell (⟨hb9.os, hb9.tape, hb9.output, hb9.size, fun j hj he => hb9.block j hj (fun e => he (.inl e))⟩) (.inr rfl) _
    have := HM.out
    rw [if_neg (by simp [h1]), if_neg (by simp [ral]; omega), if_neg (by simp [h3]), if_neg (by simp)] at this
    refine door_idle _ w.heap.size 0 _ _ _ _ _ _ _ _ _ _ p10 q10 rfl rfl ⟨hb10, .inr ⟨this, _, _, rfl, ?_, ?_⟩⟩
    · rw [HK.out]
      exact (hOo8.but hbb (fun b h e => by have := hb6.size; omega)).mono (Nat.le_trans hb3.size hb6.size)
    · rw [HK.out, show ral false zs = (n : Int) from by simp [ral]; exact HN.out]
      exact (hOd8.but hbb (fun b h e => by have := hb6.size; omega)).mono (Nat.le_trans hb3.size hb6.size)
  · by_cases hmn : (zs.length : Int) < wat zs 2
    · go_wp2_with fail
      have hb5 : Below (w.heap.size + 1 + 1) W3 (w4.setCell ⟨w.heap.size + 1 + 1, 1, none⟩ (.int .i64 (zs.length : Int))) := hb4.setCell (p := ⟨w.heap.size + 1 + 1, 1, none⟩) (Nat.le_refl _) _
      have K0 : (w4.setCell ⟨w.heap.size + 1 + 1, 1, none⟩ (.int .i64 (zs.length : Int))).cell? ⟨w.heap.size + 1 + 1, 0, none⟩ = some (.int .i64 (hl4 zs)) := (World.cell?_setCell_other _ _ _ _ (by simp)).trans k0
      have K1 : (w4.setCell ⟨w.heap.size + 1 + 1, 1, none⟩ (.int .i64 (zs.length : Int))).cell? ⟨w.heap.size + 1 + 1, 1, none⟩ = some (.int .i64 (zs.length : Int)) := World.cell?_setCell_same _ _ _ k1
      have K2 : (w4.setCell ⟨w.heap.size + 1 + 1, 1, none⟩ (.int .i64 (zs.length : Int))).cell? ⟨w.heap.size + 1 + 1, 2, none⟩ = some (.slice a zs.length cap) := (World.cell?_setCell_other _ _ _ _ (by simp)).trans k2
      generalize w4.setCell ⟨w.heap.size + 1 + 1, 1, none⟩ (.int .i64 (zs.length : Int)) = W5 at *
      clear hb4 k0 k1 k2
      refine (refuse_no 3 _).mono ?_
      rintro e w' ⟨rfl, rfl⟩
      have hz5 := hb5.size
      go_wp2_with fail
      refine (check_any (w.heap.size + 1 + 1) _ zs W5 hB hl ((hI.below (hb3.trans (hb5.mono (by omega)))).mono (by omega)) hfit.1 hfit.2.1 K0 K2).mono ?_
      rintro e w6 ⟨l6, ⟨h3, rfl⟩ | ⟨h3, rfl⟩⟩
      · have := HM.out
        rw [if_neg (by simp [h1]), if_neg (by simp [ral]; omega), if_pos h3] at this
        subst this
        exact door_refused _ w.heap.size w.heap.size _ 0 _ w6 ((l6.block _ (by omega)).trans ((hb5.block _ (by omega)).trans a6)) rfl ((l6.block _ (by omega)).trans ((hb5.block _ (by omega)).trans a5)) (Nat.le_refl _) rfl rfl (fun w' hb' => ⟨((hb3.trans (hb5.mono (by omega))).trans (l6.mono (by omega))).trans hb', .inl ⟨h3, rfl⟩⟩)
      obtain ⟨k, hk⟩ := Int.eq_ofNat_of_zero_le (show 0 ≤ hl4 zs by omega)
      obtain ⟨n, hn⟩ := Int.eq_ofNat_of_zero_le (show 0 ≤ (zs.length : Int) by omega)
      rw [hk] at K0
      rw [hn] at K1
      have c6 := l6.cell K0
      have d6 := l6.cell K1
      have e6 := l6.cell K2
      have p6 := (l6.block _ (by omega)).trans ((hb5.block _ (by omega)).trans a6)
      have q6 := (l6.block _ (by omega)).trans ((hb5.block _ (by omega)).trans a5)
      have hb6 := hb5.trans (l6.mono (by omega))
      have HK := hide hk
      have HN := hide hn
      have hkn : 20 ≤ k ∧ k ≤ n ∧ n ≤ zs.length ∧ n ≤ 65535 := by omega
      clear hk hn
      go_wp2_with fail
      refine (packet_any (w.heap.size + 1 + 1) _ zs k n w6 hB hl ((hI.below (hb3.trans (hb6.mono (by omega)))).mono (Nat.le_trans hb3.size hb6.size)) hkn.1 hkn.2.1 hkn.2.2.1 hkn.2.2.2 c6 d6 e6).mono ?_
      rintro e w7 ⟨so, sd, rfl, hOo, hOd, l7⟩
      have p7 := (l7.block _ (Array.getElem?_eq_some_iff.1 p6).1).trans p6
      have q7 := (l7.block _ (Array.getElem?_eq_some_iff.1 q6).1).trans q6
      have hb7 := hb6.trans (l7.mono (Nat.le_trans (by omega) hb6.size))
      obtain ⟨aso, cso, rfl, _, _⟩ := hOo.slice
      obtain ⟨asd, csd, rfl, _, _⟩ := hOd.slice
      have hlo : ((zs.take k).drop 20).length = min k zs.length - 20 := by simp
      have hld : ((zs.take n).drop k).length = n - k := by simp; omega
      rw [hlo] at hOo ⊢
      rw [hld] at hOd ⊢
      clear hlo hld
      have P7 := block_cell p7
      have F7 := block_frozen p7
      unfold pkt
      go_wp2_with fail
      clear P7 F7
      generalize hV8 : ((((((((w7.setCell ⟨w.heap.size, 0, none⟩ _).setCell ⟨w.heap.size, 1, none⟩ _).setCell ⟨w.heap.size, 2, none⟩ _).setCell ⟨w.heap.size, 3, none⟩ _).setCell ⟨w.heap.size, 4, none⟩ _).setCell ⟨w.heap.size, 5, none⟩ _).setCell ⟨w.heap.size, 6, none⟩ _).setCell ⟨w.heap.size, 7, none⟩ _).setCell ⟨w.heap.size, 8, none⟩ _ = V8
      have hV9 : V8 = putRow w7 w.heap.size 0 [.int .u8 (zs[1]?.getD 0), .int .u16 (wat zs 4), .bool (decide (16384 ≤ wat zs 6 % 32768)), .int .u8 (zs[8]?.getD 0), .int .u8 (zs[9]?.getD 0), .int .u32 (wat4 zs 12), .int .u32 (wat4 zs 16), .slice aso (min k zs.length - 20) cso, .slice asd (n - k) csd] := hV8.symm
      have hb8 : But (fun b => b = w.heap.size) w7 V8 := by rw [hV9]; exact putRow_but (E := fun b => b = w.heap.size) (n := w.heap.size) rfl _ _ _ _ (But.refl _ _)
      have p8 := putRow_all [.int .u8 (zs[1]?.getD 0), .int .u16 (wat zs 4), .bool (decide (16384 ≤ wat zs 6 % 32768)), .int .u8 (zs[8]?.getD 0), .int .u8 (zs[9]?.getD 0), .int .u32 (wat4 zs 12), .int .u32 (wat4 zs 16), .slice aso (min k zs.length - 20) cso, .slice asd (n - k) csd] p7 rfl
      rw [← hV9] at p8
      clear hV8 hV9
      have q8 := (hb8.block _ (Array.getElem?_eq_some_iff.1 q7).1 (by omega)).trans q7
      have P8 := block_cell p8
      have F8 := block_frozen p8
      have E8 := block_cell q8
      have G8 := block_frozen q8
      have hs7 : w.heap.size ≤ w7.heap.size := Nat.le_trans hb3.size hb7.size
      have hbW8 := (hb3.trans (hb7.mono (by omega))).trans (hb8.below hs7 (fun j h e => by omega))
      have hOo8 := hOo.but hb8 (fun b h e => by have := hb6.size; omega)
      have hOd8 := hOd.but hb8 (fun b h e => by have := hb6.size; omega)
      have hw8 : Later w7 w7 := Later.refl _
      by_cases h4 : n - k < 8
      · rw [show decide (((n - k : Nat) : Int) < 8) = true from by simp; omega]
        refine (refuse_yes 3 _).mono ?_
        rintro e w' ⟨rfl, rfl⟩
        have := HM.out
        rw [if_neg (by simp [h1]), if_neg (by simp [ral]; omega), if_neg (by simp [h3]), if_pos ⟨by simp, by have h5 := HK.out; have h6 := HN.out; simp [ral]; omega⟩] at this
        subst this
        exact door_refused _ w.heap.size w.heap.size _ 0 _ V8 p8 rfl q8 (Nat.le_refl _) rfl rfl (fun w' hb' => ⟨hbW8.trans hb', .inl ⟨by omega, rfl⟩⟩)
      rw [show decide (((n - k : Nat) : Int) < 8) = false from by simp; omega]
      refine (refuse_no 3 _).mono ?_
      rintro e w' ⟨rfl, rfl⟩
      go_wp2_with fail
      generalize hV9 : ((((((((V8.setCell ⟨w.heap.size, 0, none⟩ _).setCell ⟨w.heap.size, 1, none⟩ _).setCell ⟨w.heap.size, 2, none⟩ _).setCell ⟨w.heap.size, 3, none⟩ _).setCell ⟨w.heap.size, 4, none⟩ _).setCell ⟨w.heap.size, 5, none⟩ _).setCell ⟨w.heap.size, 6, none⟩ _).setCell ⟨w.heap.size, 7, none⟩ _).setCell ⟨w.heap.size, 8, none⟩ _ = V9
      have hV10 : V9 = putRow V8 w.heap.size 0 [.int .u8 (zs[1]?.getD 0), .int .u16 (wat zs 4), .bool (decide (16384 ≤ wat zs 6 % 32768)), .int .u8 (zs[8]?.getD 0), .int .u8 (zs[9]?.getD 0), .int .u32 (wat4 zs 12), .int .u32 (wat4 zs 16), .slice aso (min k zs.length - 20) cso, .slice asd (n - k) csd] := hV9.symm
      have hb9 : But (fun b => b = w.heap.size) V8 V9 := by rw [hV10]; exact putRow_but (E := fun b => b = w.heap.size) (n := w.heap.size) rfl _ _ _ _ (But.refl _ _)
      have p9 := putRow_all [.int .u8 (zs[1]?.getD 0), .int .u16 (wat zs 4), .bool (decide (16384 ≤ wat zs 6 % 32768)), .int .u8 (zs[8]?.getD 0), .int .u8 (zs[9]?.getD 0), .int .u32 (wat4 zs 12), .int .u32 (wat4 zs 16), .slice aso (min k zs.length - 20) cso, .slice asd (n - k) csd] p8 rfl
      rw [← hV10] at p9
      clear hV9 hV10
      have q9 := (hb9.block _ (Array.getElem?_eq_some_iff.1 q8).1 (by omega)).trans q8
      have q10 := heap_set1 q9 0 (.int .i64 0)
      have p10 := (Below.heap_setCell V9 ⟨w.heap.size + 1, 0, none⟩ (.int .i64 0) w.heap.size (by simp)).trans p9
      have hs8 : w.heap.size ≤ V8.heap.size := Nat.le_trans hs7 hb8.size
      have hb10 : Below w.heap.size w (V9.setCell ⟨w.heap.size + 1, 0, none⟩ (.int .i64 0)) := (hbW8.trans (hb9.below hs8 (fun j h e => by omega))).setCell (p := ⟨w.heap.size + 1, 0, none⟩) (Nat.le_succ _) _
      have hbb : But (fun b => b = w.heap.size ∨ b = w.heap.size + 1) V8 (V9.setCell ⟨w.heap.size + 1, 0, none⟩ (.int .i64 0)) := But.setCell (⟨hb9.os, hb9.tape, hb9.output, hb9.size, fun j hj he => hb9.block j hj (fun e => he (.inl e))⟩) (.inr rfl) _
      have := HM.out
      rw [if_neg (by simp [h1]), if_neg (by simp [ral]; omega), if_neg (by simp [h3]), if_neg (by have h5 := HK.out; have h6 := HN.out; simp [ral]; omega)] at this
      refine door_idle _ w.heap.size 0 _ _ _ _ _ _ _ _ _ _ p10 q10 rfl rfl ⟨hb10, .inr ⟨this, _, _, rfl, ?_, ?_⟩⟩
      · rw [HK.out]
        exact (hOo8.but hbb (fun b h e => by have := hb6.size; omega)).mono (Nat.le_trans hb3.size hb6.size)
      · rw [HK.out, show ral true zs = (n : Int) from by simp [ral]; have h6 := HN.out; omega]
        exact (hOd8.but hbb (fun b h e => by have := hb6.size; omega)).mono (Nat.le_trans hb3.size hb6.size)
    · go_wp2_with fail
      rw [show decide ((zs.length : Int) < wat zs 2) = false from by simpa using hmn]
      have hb5 : Below (w.heap.size + 1 + 1) W3 (w4.setCell ⟨w.heap.size + 1 + 1, 1, none⟩ (.int .i64 (wat zs 2))) := hb4.setCell (p := ⟨w.heap.size + 1 + 1, 1, none⟩) (Nat.le_refl _) _
      have K0 : (w4.setCell ⟨w.heap.size + 1 + 1, 1, none⟩ (.int .i64 (wat zs 2))).cell? ⟨w.heap.size + 1 + 1, 0, none⟩ = some (.int .i64 (hl4 zs)) := (World.cell?_setCell_other _ _ _ _ (by simp)).trans k0
      have K1 : (w4.setCell ⟨w.heap.size + 1 + 1, 1, none⟩ (.int .i64 (wat zs 2))).cell? ⟨w.heap.size + 1 + 1, 1, none⟩ = some (.int .i64 (wat zs 2)) := World.cell?_setCell_same _ _ _ k1
      have K2 : (w4.setCell ⟨w.heap.size + 1 + 1, 1, none⟩ (.int .i64 (wat zs 2))).cell? ⟨w.heap.size + 1 + 1, 2, none⟩ = some (.slice a zs.length cap) := (World.cell?_setCell_other _ _ _ _ (by simp)).trans k2
      generalize w4.setCell ⟨w.heap.size + 1 + 1, 1, none⟩ (.int .i64 (wat zs 2)) = W5 at *
      clear hb4 k0 k1 k2
      refine (refuse_no 3 _).mono ?_
      rintro e w' ⟨rfl, rfl⟩
      have hz5 := hb5.size
      go_wp2_with fail
      refine (check_any (w.heap.size + 1 + 1) _ zs W5 hB hl ((hI.below (hb3.trans (hb5.mono (by omega)))).mono (by omega)) hfit.1 hfit.2.1 K0 K2).mono ?_
      rintro e w6 ⟨l6, ⟨h3, rfl⟩ | ⟨h3, rfl⟩⟩
      · have := HM.out
        rw [if_neg (by simp [h1]), if_neg (by simp [ral]; omega), if_pos h3] at this
        subst this
        exact door_refused _ w.heap.size w.heap.size _ 0 _ w6 ((l6.block _ (by omega)).trans ((hb5.block _ (by omega)).trans a6)) rfl ((l6.block _ (by omega)).trans ((hb5.block _ (by omega)).trans a5)) (Nat.le_refl _) rfl rfl (fun w' hb' => ⟨((hb3.trans (hb5.mono (by omega))).trans (l6.mono (by omega))).trans hb', .inl ⟨h3, rfl⟩⟩)
      obtain ⟨k, hk⟩ := Int.eq_ofNat_of_zero_le (show 0 ≤ hl4 zs by omega)
      obtain ⟨n, hn⟩ := Int.eq_ofNat_of_zero_le (show 0 ≤ wat zs 2 by omega)
      rw [hk] at K0
      rw [hn] at K1
      have c6 := l6.cell K0
      have d6 := l6.cell K1
      have e6 := l6.cell K2
      have p6 := (l6.block _ (by omega)).trans ((hb5.block _ (by omega)).trans a6)
      have q6 := (l6.block _ (by omega)).trans ((hb5.block _ (by omega)).trans a5)
      have hb6 := hb5.trans (l6.mono (by omega))
      have HK := hide hk
      have HN := hide hn
      have hkn : 20 ≤ k ∧ k ≤ n ∧ n ≤ zs.length ∧ n ≤ 65535 := by omega
      clear hk hn
      go_wp2_with fail
      refine (packet_any (w.heap.size + 1 + 1) _ zs k n w6 hB hl ((hI.below (hb3.trans (hb6.mono (by omega)))).mono (Nat.le_trans hb3.size hb6.size)) hkn.1 hkn.2.1 hkn.2.2.1 hkn.2.2.2 c6 d6 e6).mono ?_
      rintro e w7 ⟨so, sd, rfl, hOo, hOd, l7⟩
      have p7 := (l7.block _ (Array.getElem?_eq_some_iff.1 p6).1).trans p6
      have q7 := (l7.block _ (Array.getElem?_eq_some_iff.1 q6).1).trans q6
      have hb7 := hb6.trans (l7.mono (Nat.le_trans (by omega) hb6.size))
      obtain ⟨aso, cso, rfl, _, _⟩ := hOo.slice
      obtain ⟨asd, csd, rfl, _, _⟩ := hOd.slice
      have hlo : ((zs.take k).drop 20).length = min k zs.length - 20 := by simp
      have hld : ((zs.take n).drop k).length = n - k := by simp; omega
      rw [hlo] at hOo ⊢
      rw [hld] at hOd ⊢
      clear hlo hld
      have P7 := block_cell p7
      have F7 := block_frozen p7
      unfold pkt
      go_wp2_with fail
      clear P7 F7
      generalize hV8 : ((((((((w7.setCell ⟨w.heap.size, 0, none⟩ _).setCell ⟨w.heap.size, 1, none⟩ _).setCell ⟨w.heap.size, 2, none⟩ _).setCell ⟨w.heap.size, 3, none⟩ _).setCell ⟨w.heap.size, 4, none⟩ _).setCell ⟨w.heap.size, 5, none⟩ _).setCell ⟨w.heap.size, 6, none⟩ _).setCell ⟨w.heap.size, 7, none⟩ _).setCell ⟨w.heap.size, 8, none⟩ _ = V8
      have hV9 : V8 = putRow w7 w.heap.size 0 [.int .u8 (zs[1]?.getD 0), .int .u16 (wat zs 4), .bool (decide (16384 ≤ wat zs 6 % 32768)), .int .u8 (zs[8]?.getD 0), .int .u8 (zs[9]?.getD 0), .int .u32 (wat4 zs 12), .int .u32 (wat4 zs 16), .slice aso (min k zs.length - 20) cso, .slice asd (n - k) csd] := hV8.symm
      have hb8 : But (fun b => b = w.heap.size) w7 V8 := by rw [hV9]; exact putRow_but (E := fun b => b = w.heap.size) (n := w.heap.size) rfl _ _ _ _ (But.refl _ _)
      have p8 := putRow_all [.int .u8 (zs[1]?.getD 0), .int .u16 (wat zs 4), .bool (decide (16384 ≤ wat zs 6 % 32768)), .int .u8 (zs[8]?.getD 0), .int .u8 (zs[9]?.getD 0), .int .u32 (wat4 zs 12), .int .u32 (wat4 zs 16), .slice aso (min k zs.length - 20) cso, .slice asd (n - k) csd] p7 rfl
      rw [← hV9] at p8
      clear hV8 hV9
      have q8 := (hb8.block _ (Array.getElem?_eq_some_iff.1 q7).1 (by omega)).trans q7
      have P8 := block_cell p8
      have F8 := block_frozen p8
      have E8 := block_cell q8
      have G8 := block_frozen q8
      have hs7 : w.heap.size ≤ w7.heap.size := Nat.le_trans hb3.size hb7.size
      have hbW8 := (hb3.trans (hb7.mono (by omega))).trans (hb8.below hs7 (fun j h e => by omega))
      have hOo8 := hOo.but hb8 (fun b h e => by have := hb6.size; omega)
      have hOd8 := hOd.but hb8 (fun b h e => by have := hb6.size; omega)
      have hw8 : Later w7 w7 := Later.refl _
      by_cases h4 : n - k < 8
      · rw [show decide (((n - k : Nat) : Int) < 8) = true from by simp; omega]
        refine (refuse_yes 3 _).mono ?_
        rintro e w' ⟨rfl, rfl⟩
        have := HM.out
        rw [if_neg (by simp [h1]), if_neg (by simp [ral]; omega), if_neg (by simp [h3]), if_pos ⟨by simp, by have h5 := HK.out; have h6 := HN.out; simp [ral]; omega⟩] at this
        subst this
        exact door_refused _ w.heap.size w.heap.size _ 0 _ V8 p8 rfl q8 (Nat.le_refl _) rfl rfl (fun w' hb' => ⟨hbW8.trans hb', .inl ⟨by omega, rfl⟩⟩)
      rw [show decide (((n - k : Nat) : Int) < 8) = false from by simp; omega]
      refine (refuse_no 3 _).mono ?_
      rintro e w' ⟨rfl, rfl⟩
      go_wp2_with fail
      generalize hV9 : ((((((((V8.setCell ⟨w.heap.size, 0, none⟩ _).setCell ⟨w.heap.size, 1, none⟩ _).setCell ⟨w.heap.size, 2, none⟩ _).setCell ⟨w.heap.size, 3, none⟩ _).setCell ⟨w.heap.size, 4, none⟩ _).setCell ⟨w.heap.size, 5, none⟩ _).setCell ⟨w.heap.size, 6, none⟩ _).setCell ⟨w.heap.size, 7, none⟩ _).setCell ⟨w.heap.size, 8, none⟩ _ = V9
      have hV10 : V9 = putRow V8 w.heap.size 0 [.int .u8 (zs[1]?.getD 0), .int .u16 (wat zs 4), .bool (decide (16384 ≤ wat zs 6 % 32768)), .int .u8 (zs[8]?.getD 0), .int .u8 (zs[9]?.getD 0), .int .u32 (wat4 zs 12), .int .u32 (wat4 zs 16), .slice aso (min k zs.length - 20) cso, .slice asd (n - k) csd] := hV9.symm
      have hb9 : But (fun b => b = w.heap.size) V8 V9 := by rw [hV10]; exact putRow_but (E := fun b => b = w.heap.size) (n := w.heap.size) rfl _ _ _ _ (But.refl _ _)
      have p9 := putRow_all [.int .u8 (zs[1]?.getD 0), .int .u16 (wat zs 4), .bool (decide (16384 ≤ wat zs 6 % 32768)), .int .u8 (zs[8]?.getD 0), .int .u8 (zs[9]?.getD 0), .int .u32 (wat4 zs 12), .int .u32 (wat4 zs 16), .slice aso (min k zs.length - 20) cso, .slice asd (n - k) csd] p8 rfl
      rw [← hV10] at p9
      clear hV9 hV10
      have q9 := (hb9.block _ (Array.getElem?_eq_some_iff.1 q8).1 (by omega)).trans q8
      have q10 := heap_set1 q9 0 (.int .i64 0)
      have p10 := (Below.heap_setCell V9 ⟨w.heap.size + 1, 0, none⟩ (.int .i64 0) w.heap.size (by simp)).trans p9
      have hs8 : w.heap.size ≤ V8.heap.size := Nat.le_trans hs7 hb8.size
      have hb10 : Below w.heap.size w (V9.setCell ⟨w.heap.size + 1, 0, none⟩ (.int .i64 0)) := (hbW8.trans (hb9.below hs8 (fun j h e => by omega))).setCell (p := ⟨w.heap.size + 1, 0, none⟩) (Nat.le_succ _) _
      have hbb : But (fun b => b = w.heap.size ∨ b = w.heap.size + 1) V8 (V9.setCell ⟨w.heap.size + 1, 0, none⟩ (.int .i64 0)) := But.setCell (⟨hb9.os, hb9.tape, hb9.output, hb9.size, fun j hj he => hb9.block j hj (fun e => he (.inl e))⟩) (.inr rfl) _
      have := HM.out
      rw [if_neg (by simp [h1]), if_neg (by simp [ral]; omega), if_neg (by simp [h3]), if_neg (by have h5 := HK.out; have h6 := HN.out; simp [ral]; omega)] at this
      refine door_idle _ w.heap.size 0 _ _ _ _ _ _ _ _ _ _ p10 q10 rfl rfl ⟨hb10, .inr ⟨this, _, _, rfl, ?_, ?_⟩⟩
      · rw [HK.out]
        exact (hOo8.but hbb (fun b h e => by have := hb6.size; omega)).mono (Nat.le_trans hb3.size hb6.size)
      · rw [HK.out, show ral true zs = (n : Int) from by simp [ral]; have h6 := HN.out; omega]
        exact (hOd8.but hbb (fun b h e => by have := hb6.size; omega)).mono (Nat.le_trans hb3.size hb6.size)
end Go.Proofs.YtojoaidnkljcpaaDoor

/- What read tells of a header that was built: the mathematics. -/
namespace Go.Proofs.YtojoaidnkljcpaaDoor
open Go.RowKit Go.Shelf
set_option maxRecDepth 100000
set_option linter.unusedVariables false
set_option linter.unusedSimpArgs false

set_option maxHeartbeats 1000000 in
theorem quote_any (sv : Value) (zs : List Int) (w : World) (hB : Mt.By zs) (hl : zs.length ≤ 225000000000000) (hI : Rd w.heap.size w sv zs) :
    Calls Tryd.prog 34 #[sv] w fun e w' => Below w.heap.size w w' ∧
      ((rde true zs ≠ 0 ∧ e = .returned (.tuple #[.agg zc.toArray, .int .i64 (rde true zs)])) ∨
       (rde true zs = 0 ∧ ∃ so sd, e = .returned (.tuple #[pkt zs so sd, .int .i64 0]) ∧ Ow w.heap.size w' so ((zs.take (hl4 zs).toNat).drop 20) ∧ Ow w.heap.size w' sd ((zs.take (ral true zs).toNat).drop (hl4 zs).toNat))) := by
  obtain ⟨a, cap, rfl, hl1, hm1⟩ := hI.slice
  have hb1 : Below w.heap.size w (w.alloc (.cells zc.toArray 26)) := (Below.refl _ _).alloc (Nat.le_refl _) _
  have p1 := heap_alloc_new w (.cells zc.toArray 26)
  have H := hide (read_any true _ zs (w.alloc (.cells zc.toArray 26)) hB hl ((hI.below hb1).mono (by simp)))
  go_enter Tryd.func34, Tryd.ntmps34
  go_wp2_with fail
  refine H.out.mono ?_
  rintro e w2 ⟨hb2, ⟨h, rfl⟩ | ⟨h, so, sd, rfl, hO1, hO2⟩⟩
  · have p2 := (hb2.block w.heap.size (by simp)).trans p1
    have P2 := block_cell p2
    have F2 := block_frozen p2
    go_wp2_with fail
    generalize hV : ((((((((w2.setCell ⟨w.heap.size, 0, none⟩ _).setCell ⟨w.heap.size, 1, none⟩ _).setCell ⟨w.heap.size, 2, none⟩ _).setCell ⟨w.heap.size, 3, none⟩ _).setCell ⟨w.heap.size, 4, none⟩ _).setCell ⟨w.heap.size, 5, none⟩ _).setCell ⟨w.heap.size, 6, none⟩ _).setCell ⟨w.heap.size, 7, none⟩ _).setCell ⟨w.heap.size, 8, none⟩ _ = V
    have hV9 : V = putRow w2 w.heap.size 0 zc := hV.symm
    have hb8 : But (fun b => b = w.heap.size) w2 V := by rw [hV9]; exact putRow_but (E := fun b => b = w.heap.size) (n := w.heap.size) rfl _ _ _ _ (But.refl _ _)
    have p8 := putRow_all zc p2 rfl
    rw [← hV9] at p8
    clear hV hV9 P2 F2 H
    have P8 := block_cell p8
    have hbW := (hb1.trans (hb2.mono (by simp))).trans (hb8.below (by have := hb2.size; simp at this; omega) (fun j h e => by omega))
    exact bodyPost_ret (v := .tuple #[.agg zc.toArray, .int .i64 (rde true zs)]) (by simp [results, Tryd.results34, go_sem, P8]) rfl ⟨hbW, .inl ⟨h, rfl⟩⟩
  · have p2 := (hb2.block w.heap.size (by simp)).trans p1
    have P2 := block_cell p2
    have F2 := block_frozen p2
    obtain ⟨aso, cso, rfl, _, _⟩ := hO1.slice
    obtain ⟨asd, csd, rfl, _, _⟩ := hO2.slice
    generalize hL1 : ((zs.take (hl4 zs).toNat).drop 20).length = lo at *
    generalize hL2 : ((zs.take (ral true zs).toNat).drop (hl4 zs).toNat).length = ld at *
    have HL1 := hide hL1
    have HL2 := hide hL2
    clear hL1 hL2
    unfold pkt
    go_wp2_with fail
    generalize hV : ((((((((w2.setCell ⟨w.heap.size, 0, none⟩ _).setCell ⟨w.heap.size, 1, none⟩ _).setCell ⟨w.heap.size, 2, none⟩ _).setCell ⟨w.heap.size, 3, none⟩ _).setCell ⟨w.heap.size, 4, none⟩ _).setCell ⟨w.heap.size, 5, none⟩ _).setCell ⟨w.heap.size, 6, none⟩ _).setCell ⟨w.heap.size, 7, none⟩ _).setCell ⟨w.heap.size, 8, none⟩ _ = V
    have hV9 : V = putRow w2 w.heap.size 0 [.int .u8 (zs[1]?.getD 0), .int .u16 (wat zs 4), .bool (decide (16384 ≤ wat zs 6 % 32768)), .int .u8 (zs[8]?.getD 0), .int .u8 (zs[9]?.getD 0), .int .u32 (wat4 zs 12), .int .u32 (wat4 zs 16), .slice aso lo cso, .slice asd ld csd] := hV.symm
    have hb8 : But (fun b => b = w.heap.size) w2 V := by rw [hV9]; exact putRow_but (E := fun b => b = w.heap.size) (n := w.heap.size) rfl _ _ _ _ (But.refl _ _)
    have p8 := putRow_all [.int .u8 (zs[1]?.getD 0), .int .u16 (wat zs 4), .bool (decide (16384 ≤ wat zs 6 % 32768)), .int .u8 (zs[8]?.getD 0), .int .u8 (zs[9]?.getD 0), .int .u32 (wat4 zs 12), .int .u32 (wat4 zs 16), .slice aso lo cso, .slice asd ld csd] p2 rfl
    rw [← hV9] at p8
    clear hV hV9 P2 F2 H
    have P8 := block_cell p8
    have hbW := (hb1.trans (hb2.mono (by simp))).trans (hb8.below (by have := hb2.size; simp at this; omega) (fun j h e => by omega))
    exact bodyPost_ret (v := .tuple #[pkt zs (.slice aso lo cso) (.slice asd ld csd), .int .i64 0]) (by simp [results, Tryd.results34, go_sem, P8, pkt]) rfl ⟨hbW, .inr ⟨h, _, _, rfl, (hO1.but hb8 (fun b h e => by simp at h; omega)).mono (by simp), (hO2.but hb8 (fun b h e => by simp at h; omega)).mono (by simp)⟩⟩

/-- A word of the first bytes. -/
theorem wat_take (zs : List Int) (m k : Nat) (h : k + 1 < m) : wat (zs.take m) k = wat zs k := by
  unfold wat
  rw [List.getElem?_take_of_lt (by omega), List.getElem?_take_of_lt h]
theorem hl4_take (zs : List Int) (m : Nat) (h : 0 < m) : hl4 (zs.take m) = hl4 zs := by
  unfold hl4
  rw [List.getElem?_take_of_lt h]

section
variable (tos id : Int) (keep : Bool) (ttl proto src dst : Int) (zo zd : List Int) (all : Int)
theorem hdr_0 : (hdr tos id keep ttl proto src dst zo all ++ zd)[0]?.getD 0 = 64 + (20 + (zo.length : Int)) / 4 := by
  rw [hdr_eq]; unfold h20; simp
theorem hdr_1 : (hdr tos id keep ttl proto src dst zo all ++ zd)[1]?.getD 0 = tos := by
  rw [hdr_eq]; unfold h20; simp
theorem hdr_8 : (hdr tos id keep ttl proto src dst zo all ++ zd)[8]?.getD 0 = ttl := by
  rw [hdr_eq]; unfold h20; simp
theorem hdr_9 : (hdr tos id keep ttl proto src dst zo all ++ zd)[9]?.getD 0 = proto := by
  rw [hdr_eq]; unfold h20; simp
theorem hl4_hdr (h1 : zo.length ≤ 40) (h2 : zo.length % 4 = 0) : hl4 (hdr tos id keep ttl proto src dst zo all ++ zd) = ((20 + zo.length : Nat) : Int) := by
  unfold hl4
  rw [hdr_0]
  omega
theorem hdr_take : (hdr tos id keep ttl proto src dst zo all ++ zd).take (20 + zo.length) = hdr tos id keep ttl proto src dst zo all := by
  rw [← hdr_len tos id keep ttl proto src dst zo all, List.take_left]
theorem hdr_opts : (hdr tos id keep ttl proto src dst zo all).drop 20 = zo := by
  rw [hdr_eq, ← h20_length tos id keep ttl proto src dst zo.length all (hsum tos id keep ttl proto src dst zo all), List.drop_left]
theorem hdr_drop : (hdr tos id keep ttl proto src dst zo all ++ zd).drop (20 + zo.length) = zd := by
  rw [← hdr_len tos id keep ttl proto src dst zo all, List.drop_left]
theorem hdr_split (more : List Int) : ((hdr tos id keep ttl proto src dst zo all ++ (zd ++ more)).take (20 + zo.length + zd.length)).drop (20 + zo.length) = zd := by
  rw [List.drop_take, hdr_drop, show 20 + zo.length + zd.length - (20 + zo.length) = zd.length from by omega, List.take_left]
end

/-- What is built, cut, is too short. -/
theorem rde_cut (tos id : Int) (keep : Bool) (ttl proto src dst : Int) (zo zd : List Int) (m : Nat) (h1 : zo.length ≤ 40) (h2 : zo.length % 4 = 0) (hm : m < 20 + zo.length + zd.length) :
    rde false ((hdr tos id keep ttl proto src dst zo (20 + zo.length + zd.length) ++ zd).take m) = 3 := by
  have hlen : (hdr tos id keep ttl proto src dst zo (20 + zo.length + zd.length) ++ zd).length = 20 + zo.length + zd.length := by rw [List.length_append, hdr_len]
  have e0 := hdr_0 tos id keep ttl proto src dst zo zd (20 + zo.length + zd.length)
  have e2 := hdr_wat2 tos id keep ttl proto src dst zo zd (20 + zo.length + zd.length)
  have e3 := hl4_hdr tos id keep ttl proto src dst zo zd (20 + zo.length + zd.length) h1 h2
  generalize hdr tos id keep ttl proto src dst zo (20 + zo.length + zd.length) ++ zd = bb at *
  have hlt : (bb.take m).length = m := by simp; omega
  by_cases c1 : m < 20
  · have hm3 : msr (bb.take m) = 3 := by unfold msr; rw [if_pos (by omega)]
    unfold rde; rw [hm3]; simp
  · have f0 : (bb.take m)[0]?.getD 0 = bb[0]?.getD 0 := by rw [List.getElem?_take_of_lt (by omega)]
    have f2 := wat_take bb m 2 (by omega)
    have f3 := hl4_take bb m (by omega)
    by_cases c2 : m < 20 + zo.length
    · have hm3 : msr (bb.take m) = 3 := by unfold msr; rw [hlt, f0, e0, f3, e3, if_neg c1, if_neg (by omega), if_neg (by omega), if_pos (by omega)]
      unfold rde; rw [hm3]; simp
    · have hm0 : msr (bb.take m) = 0 := by unfold msr; rw [hlt, f0, e0, f3, e3, f2, e2, if_neg c1, if_neg (by omega), if_neg (by omega), if_neg (by omega), if_neg (by omega)]
      have hr : ral false (bb.take m) = 20 + zo.length + zd.length := by simp [ral, f2, e2]
      unfold rde
      rw [hm0, hr, hlt, if_neg (by simp), if_pos (by omega)]

/-- What is built is taken, with what is behind it. -/
theorem rde_built (tos id : Int) (keep : Bool) (ttl proto src dst : Int) (zo zd more : List Int) (h1 : zo.length ≤ 40) (h2 : zo.length % 4 = 0) (hall : 20 + zo.length + zd.length ≤ 65535)
    (hB : Mt.By (h20 tos id keep ttl proto src dst zo.length (20 + zo.length + zd.length) 0 ++ zo)) :
    rde false (hdr tos id keep ttl proto src dst zo (20 + zo.length + zd.length) ++ (zd ++ more)) = 0 := by
  have hlen : (hdr tos id keep ttl proto src dst zo (20 + zo.length + zd.length) ++ (zd ++ more)).length = 20 + zo.length + (zd.length + more.length) := by rw [List.length_append, hdr_len, List.length_append]
  have e0 := hdr_0 tos id keep ttl proto src dst zo (zd ++ more) (20 + zo.length + zd.length)
  have e2 := hdr_wat2 tos id keep ttl proto src dst zo (zd ++ more) (20 + zo.length + zd.length)
  have e3 := hl4_hdr tos id keep ttl proto src dst zo (zd ++ more) (20 + zo.length + zd.length) h1 h2
  have e6 := hdr_wat6 tos id keep ttl proto src dst zo (zd ++ more) (20 + zo.length + zd.length)
  have et := hdr_take tos id keep ttl proto src dst zo (zd ++ more) (20 + zo.length + zd.length)
  have eg := hdr_good tos id keep ttl proto src dst zo (20 + zo.length + zd.length) hB
  rw [← et] at eg
  generalize hdr tos id keep ttl proto src dst zo (20 + zo.length + zd.length) ++ (zd ++ more) = bb at *
  have hm0 : msr bb = 0 := by unfold msr; rw [hlen, e0, e3, e2, if_neg (by omega), if_neg (by omega), if_neg (by omega), if_neg (by omega), if_neg (by omega)]
  have hr : ral false bb = 20 + zo.length + zd.length := by simp [ral, e2]
  have hc : chk bb = 0 := by unfold chk; rw [e3, e6, Int.toNat_natCast, if_neg (by simp [eg]), if_neg (by cases keep <;> simp), if_neg (by cases keep <;> simp)]
  unfold rde
  rw [hm0, hr, hlen, hc, if_neg (by simp), if_neg (by omega), if_neg (by simp), if_neg (by simp)]
end Go.Proofs.YtojoaidnkljcpaaDoor

/- Layer 5: Quoted. -/
namespace Go.Proofs.YtojoaidnkljcpaaDoor
open Go.RowKit Go.Shelf
set_option maxRecDepth 100000
set_option linter.unusedVariables false
set_option linter.unusedSimpArgs false

def erb (ty : Int) : Bool := ty == 3 || (ty == 11 || ty == 12)
/-- What a quoted packet's data are; its protocol. -/
def qdt (mz : List Int) : List Int := (mz.take (ral true mz).toNat).drop (hl4 mz).toNat
def qpr (mz : List Int) : Int := mz[9]?.getD 0
def qie (pr : Int) (d : List Int) : Int := if pr = 6 then 0 else if pr = 17 then 0 else if pr = 1 then (if ecb (d[0]?.getD 0) (d[1]?.getD 0) = true then 0 else 12) else if pr = 47 then (if pge 47 (d.take 8) = 4 then 4 else 0) else 12
def qia (pr : Int) (d : List Int) : Int := if pr = 6 then wat d 0 else if pr = 17 then wat d 0 else if pr = 1 then wat d 4 else 0
def qib (pr : Int) (d : List Int) : Int := if pr = 6 then wat d 2 else if pr = 17 then wat d 2 else if pr = 1 then wat d 4 else wat d 6
def que (proto : Int) (zd : List Int) : Int := if pie proto zd ≠ 0 then pie proto zd else if erb (zd[0]?.getD 0) = false then 12 else if rde true (zd.drop 8) ≠ 0 then rde true (zd.drop 8) else qie (qpr (zd.drop 8)) (qdt (zd.drop 8))

set_option maxHeartbeats 4000000 in
theorem quoted_bad (tos id ttl proto src dst : Int) (keep : Bool) (so sd : Value) (zd : List Int) (w : World) (hT : Tb w) (hB : Mt.By zd) (hI : Rd w.heap.size w sd zd) (hl : zd.length ≤ 140737488355328) (hbad : pie proto zd ≠ 0 ∨ erb (zd[0]?.getD 0) = false ∨ rde true (zd.drop 8) ≠ 0) :
    Calls Tryd.prog 12 #[.agg #[.int .u8 tos, .int .u16 id, .bool keep, .int .u8 ttl, .int .u8 proto, .int .u32 src, .int .u32 dst, so, sd]] w fun e w' => Below w.heap.size w w' ∧ e = .returned (.tuple #[.agg #[.int .u8 0, .int .u32 0, .int .u32 0, .int .u16 0, .int .u16 0], .int .i64 (que proto zd)]) := by
  obtain ⟨ad, cd, rfl, _, _⟩ := hI.slice
  have hb0 : Below w.heap.size w ((w.alloc (.cells #[.int .u8 tos, .int .u16 id, .bool keep, .int .u8 ttl, .int .u8 proto, .int .u32 src, .int .u32 dst, so, .slice ad zd.length cd] 26)).alloc (.cells #[.int .u8 0, .int .u32 0, .int .u32 0, .int .u16 0, .int .u16 0] 28)) := ((Below.refl _ _).alloc (Nat.le_refl _) _).alloc (by simp) _
  have r0 := heap_alloc_new (w.alloc (.cells #[.int .u8 tos, .int .u16 id, .bool keep, .int .u8 ttl, .int .u8 proto, .int .u32 src, .int .u32 dst, so, .slice ad zd.length cd] 26)) (.cells #[.int .u8 0, .int .u32 0, .int .u32 0, .int .u16 0, .int .u16 0] 28)
  rw [World.size_alloc] at r0
  have R0 := hide r0
  clear r0
  go_enter Tryd.func12, Tryd.ntmps12
  go_wp2_with fail
  generalize ((w.alloc (.cells #[.int .u8 tos, .int .u16 id, .bool keep, .int .u8 ttl, .int .u8 proto, .int .u32 src, .int .u32 dst, so, .slice ad zd.length cd] 26)).alloc (.cells #[.int .u8 0, .int .u32 0, .int .u32 0, .int .u16 0, .int .u16 0] 28)) = w0 at *
  refine (parseIcmp_any tos id ttl proto src dst keep _ _ zd w0 hB ((hI.below hb0).mono hb0.size) hl).mono ?_
  rintro e w1 ⟨hb1, ⟨hf, rfl⟩ | ⟨hf, a1, c1, rfl, hO⟩⟩
  · rw [show zm.toArray = #[.int .u8 0, .int .u8 0, .int .u32 0, .slice none 0 0] from rfl]
    have HQ : Hid (que proto zd = pie proto zd) := if_pos hf
    generalize hpu : pie proto zd = f at *
    have hne : (f != 0) = true := by simp [hf]
    clear hpu hf hbad
    have la : Later w1 (w1.alloc (.cells #[.int .u8 0, .int .u8 0, .int .u32 0, .slice none 0 0] 49)) := (Below.refl _ _).alloc (Nat.le_refl _) _
    have l1 := Later.trans hb1 la
    have rX := later_keep l1 R0.out
    have hwX := hb0.trans (l1.mono hb0.size)
    have kX := block_cell rX
    have fX := block_frozen rX
    go_wp2_with fail
    generalize w1.alloc (.cells #[.int .u8 0, .int .u8 0, .int .u32 0, .slice none 0 0] 49) = W at *
    generalize hV : ((((W.setCell ⟨w.heap.size + 1, 0, none⟩ _).setCell ⟨w.heap.size + 1, 1, none⟩ _).setCell ⟨w.heap.size + 1, 2, none⟩ _).setCell ⟨w.heap.size + 1, 3, none⟩ _).setCell ⟨w.heap.size + 1, 4, none⟩ _ = V
    have hV8 : V = putRow W (w.heap.size + 1) 0 [.int .u8 0, .int .u32 0, .int .u32 0, .int .u16 0, .int .u16 0] := hV.symm
    have hbV : But (fun b => b = w.heap.size + 1) W V := by rw [hV8]; exact putRow_but (E := fun b => b = w.heap.size + 1) (n := w.heap.size + 1) rfl _ _ _ _ (But.refl _ _)
    have pV := putRow_all ([.int .u8 0, .int .u32 0, .int .u32 0, .int .u16 0, .int .u16 0] : List Value) rX rfl
    rw [← hV8] at pV
    clear hV hV8 kX fX
    have PV := block_cell pV
    have hwV : Below w.heap.size w V := hwX.trans (hbV.below hwX.size (fun k hk e => by omega))
    exact bodyPost_ret (v := .tuple #[.agg #[.int .u8 0, .int .u32 0, .int .u32 0, .int .u16 0, .int .u16 0], .int .i64 f]) (by simp [results, Tryd.results12, go_sem, PV]) rfl ⟨hwV, by rw [HQ.out]⟩
  · have la : Later w1 (w1.alloc (.cells #[.int .u8 (zd[0]?.getD 0), .int .u8 (zd[1]?.getD 0), .int .u32 (wat4 zd 4), .slice a1 (zd.length - 8) c1] 49)) := (Below.refl _ _).alloc (Nat.le_refl _) _
    have l1 := Later.trans hb1 la
    have mW := heap_alloc_new w1 (.cells #[.int .u8 (zd[0]?.getD 0), .int .u8 (zd[1]?.getD 0), .int .u32 (wat4 zd 4), .slice a1 (zd.length - 8) c1] 49)
    have rW := later_keep l1 R0.out
    have hwW := hb0.trans (l1.mono hb0.size)
    have DW := hO.ck (CK.of la)
    have HPF := hide hf
    clear hf
    go_wp2_with fail
    generalize w1.alloc (.cells #[.int .u8 (zd[0]?.getD 0), .int .u8 (zd[1]?.getD 0), .int .u32 (wat4 zd 4), .slice a1 (zd.length - 8) c1] 49) = W at *
    generalize w1.heap.size = gm at *
    refine (isError_any (zd[0]?.getD 0) (zd[1]?.getD 0) (wat4 zd 4) _ W).mono ?_
    have HER : Hid (erb (zd[0]?.getD 0) = (zd[0]?.getD 0 == 3 || (zd[0]?.getD 0 == 11 || zd[0]?.getD 0 == 12))) := rfl
    generalize (zd[0]?.getD 0 == 3 || (zd[0]?.getD 0 == 11 || zd[0]?.getD 0 == 12)) = bq at *
    rintro e w2 ⟨rfl, hb2⟩
    have l2 : Later W w2 := hb2
    have r2 := later_keep l2 rW
    have hw2 := hwW.trans (hb2.mono hwW.size)
    cases bq with
    | false =>
      have HQ : Hid (que proto zd = 12) := by show _ = _; unfold que; rw [if_neg (fun h => h HPF.out), if_pos HER.out]
      clear hbad
      have rX := r2
      have hwX := hw2
      have kX := block_cell rX
      have fX := block_frozen rX
      go_wp2_with fail
      generalize hV : ((((w2.setCell ⟨w.heap.size + 1, 0, none⟩ _).setCell ⟨w.heap.size + 1, 1, none⟩ _).setCell ⟨w.heap.size + 1, 2, none⟩ _).setCell ⟨w.heap.size + 1, 3, none⟩ _).setCell ⟨w.heap.size + 1, 4, none⟩ _ = V
      have hV8 : V = putRow w2 (w.heap.size + 1) 0 [.int .u8 0, .int .u32 0, .int .u32 0, .int .u16 0, .int .u16 0] := hV.symm
      have hbV : But (fun b => b = w.heap.size + 1) w2 V := by rw [hV8]; exact putRow_but (E := fun b => b = w.heap.size + 1) (n := w.heap.size + 1) rfl _ _ _ _ (But.refl _ _)
      have pV := putRow_all ([.int .u8 0, .int .u32 0, .int .u32 0, .int .u16 0, .int .u16 0] : List Value) rX rfl
      rw [← hV8] at pV
      clear hV hV8 kX fX
      have PV := block_cell pV
      have hwV : Below w.heap.size w V := hwX.trans (hbV.below hwX.size (fun k hk e => by omega))
      exact bodyPost_ret (v := .tuple #[.agg #[.int .u8 0, .int .u32 0, .int .u32 0, .int .u16 0, .int .u16 0], .int .i64 12]) (by simp [results, Tryd.results12, go_sem, PV]) rfl ⟨hwV, by rw [HQ.out]⟩
    | true =>
      have hrd : rde true (zd.drop 8) ≠ 0 := by
        rcases hbad with h | h | h
        · exact absurd HPF.out h
        · rw [HER.out] at h; cases h
        · exact h
      clear hbad
      have HQ : Hid (que proto zd = rde true (zd.drop 8)) := by show _ = _; unfold que; rw [if_neg (fun h => h HPF.out), if_neg (by rw [HER.out]; decide), if_pos hrd]
      have km := block_cell (later_keep l2 mW)
      have D2 := DW.ck (CK.of l2)
      go_wp2_with fail
      clear km
      refine (quote_any _ (zd.drop 8) w2 (hB.drop 8) (by simp; omega) D2.rd).mono ?_
      rintro e w3 ⟨hb3, ⟨hf3, rfl⟩ | ⟨hf3, _⟩⟩
      · rw [show zc.toArray = #[.int .u8 0, .int .u16 0, .bool false, .int .u8 0, .int .u8 0, .int .u32 0, .int .u32 0, .slice none 0 0, .slice none 0 0] from rfl]
        generalize hpu : rde true (zd.drop 8) = f at *
        have hne : (f != 0) = true := by simp [hrd]
        clear hpu hrd hf3
        have la3 : Later w3 (w3.alloc (.cells #[.int .u8 0, .int .u16 0, .bool false, .int .u8 0, .int .u8 0, .int .u32 0, .int .u32 0, .slice none 0 0, .slice none 0 0] 26)) := (Below.refl _ _).alloc (Nat.le_refl _) _
        have l3 := Later.trans hb3 la3
        have rX := later_keep l3 r2
        have hwX := hw2.trans (l3.mono hw2.size)
        have kX := block_cell rX
        have fX := block_frozen rX
        go_wp2_with fail
        generalize w3.alloc (.cells #[.int .u8 0, .int .u16 0, .bool false, .int .u8 0, .int .u8 0, .int .u32 0, .int .u32 0, .slice none 0 0, .slice none 0 0] 26) = W3 at *
        generalize hV : ((((W3.setCell ⟨w.heap.size + 1, 0, none⟩ _).setCell ⟨w.heap.size + 1, 1, none⟩ _).setCell ⟨w.heap.size + 1, 2, none⟩ _).setCell ⟨w.heap.size + 1, 3, none⟩ _).setCell ⟨w.heap.size + 1, 4, none⟩ _ = V
        have hV8 : V = putRow W3 (w.heap.size + 1) 0 [.int .u8 0, .int .u32 0, .int .u32 0, .int .u16 0, .int .u16 0] := hV.symm
        have hbV : But (fun b => b = w.heap.size + 1) W3 V := by rw [hV8]; exact putRow_but (E := fun b => b = w.heap.size + 1) (n := w.heap.size + 1) rfl _ _ _ _ (But.refl _ _)
        have pV := putRow_all ([.int .u8 0, .int .u32 0, .int .u32 0, .int .u16 0, .int .u16 0] : List Value) rX rfl
        rw [← hV8] at pV
        clear hV hV8 kX fX
        have PV := block_cell pV
        have hwV : Below w.heap.size w V := hwX.trans (hbV.below hwX.size (fun k hk e => by omega))
        exact bodyPost_ret (v := .tuple #[.agg #[.int .u8 0, .int .u32 0, .int .u32 0, .int .u16 0, .int .u16 0], .int .i64 f]) (by simp [results, Tryd.results12, go_sem, PV]) rfl ⟨hwV, by rw [HQ.out]⟩
      · exact absurd hf3 hrd

set_option maxHeartbeats 8000000 in
theorem quoted_gen (pr x1 y1 e0 : Int) (fw fb : FuncId) (tos id ttl proto src dst : Int) (keep : Bool) (so sd : Value) (zd : List Int) (w : World) (hT : Tb w) (hB : Mt.By zd) (hI : Rd w.heap.size w sd zd) (hl : zd.length ≤ 140737488355328) (hpi : pie proto zd = 0) (her : erb (zd[0]?.getD 0) = true) (hrd : rde true (zd.drop 8) = 0) (hpr : (zd.drop 8)[9]?.getD 0 = pr) (h8 : 8 ≤ (qdt (zd.drop 8)).length)
    (hlk0 : ∀ (w : World) (b : Nat), w.heap[b]? = some (.map rdE 4) → (Instr.lookup 62 (.map (some b)) (.int .u8 pr) true).run Tryd.prog w = .ok (.tuple #[.agg #[.func (.func fw) #[] #[], .func (.func fb) #[] #[]], .bool true]) w)
    (hcf : ∀ (args : Array Value) (w : World), (callFunc fb args).run Tryd.prog w = .ok (.enter fb args) w)
    (hf : ∀ w', Below w.heap.size w w' → Calls Tryd.prog fb #[.agg #[.int .u8 ((qdt (zd.drop 8))[0]?.getD 0), .int .u8 ((qdt (zd.drop 8))[1]?.getD 0), .int .u8 ((qdt (zd.drop 8))[2]?.getD 0), .int .u8 ((qdt (zd.drop 8))[3]?.getD 0), .int .u8 ((qdt (zd.drop 8))[4]?.getD 0), .int .u8 ((qdt (zd.drop 8))[5]?.getD 0), .int .u8 ((qdt (zd.drop 8))[6]?.getD 0), .int .u8 ((qdt (zd.drop 8))[7]?.getD 0)]] w' fun e w'' => Below w'.heap.size w' w'' ∧ ∃ a b : Int, e = .returned (.tuple #[.agg #[.int .u16 a, .int .u16 b], .int .i64 e0]) ∧ (e0 = 0 → a = x1 ∧ b = y1)) :
    Calls Tryd.prog 12 #[.agg #[.int .u8 tos, .int .u16 id, .bool keep, .int .u8 ttl, .int .u8 proto, .int .u32 src, .int .u32 dst, so, sd]] w fun e w' => Below w.heap.size w w' ∧ e = .returned (.tuple #[otv e0 pr (wat4 (zd.drop 8) 12) (wat4 (zd.drop 8) 16) x1 y1, .int .i64 e0]) := by
  obtain ⟨ad, cd, rfl, _, _⟩ := hI.slice
  have hb0 : Below w.heap.size w ((w.alloc (.cells #[.int .u8 tos, .int .u16 id, .bool keep, .int .u8 ttl, .int .u8 proto, .int .u32 src, .int .u32 dst, so, .slice ad zd.length cd] 26)).alloc (.cells #[.int .u8 0, .int .u32 0, .int .u32 0, .int .u16 0, .int .u16 0] 28)) := ((Below.refl _ _).alloc (Nat.le_refl _) _).alloc (by simp) _
  have r0 := heap_alloc_new (w.alloc (.cells #[.int .u8 tos, .int .u16 id, .bool keep, .int .u8 ttl, .int .u8 proto, .int .u32 src, .int .u32 dst, so, .slice ad zd.length cd] 26)) (.cells #[.int .u8 0, .int .u32 0, .int .u32 0, .int .u16 0, .int .u16 0] 28)
  rw [World.size_alloc] at r0
  have R0 := hide r0
  clear r0
  go_enter Tryd.func12, Tryd.ntmps12
  go_wp2_with fail
  generalize ((w.alloc (.cells #[.int .u8 tos, .int .u16 id, .bool keep, .int .u8 ttl, .int .u8 proto, .int .u32 src, .int .u32 dst, so, .slice ad zd.length cd] 26)).alloc (.cells #[.int .u8 0, .int .u32 0, .int .u32 0, .int .u16 0, .int .u16 0] 28)) = w0 at *
  refine (parseIcmp_any tos id ttl proto src dst keep _ _ zd w0 hB ((hI.below hb0).mono hb0.size) hl).mono ?_
  rintro e w1 ⟨hb1, ⟨hff, rfl⟩ | ⟨hff, a1, c1, rfl, hO⟩⟩
  · exact absurd hpi hff
  · have la : Later w1 (w1.alloc (.cells #[.int .u8 (zd[0]?.getD 0), .int .u8 (zd[1]?.getD 0), .int .u32 (wat4 zd 4), .slice a1 (zd.length - 8) c1] 49)) := (Below.refl _ _).alloc (Nat.le_refl _) _
    have l1 := Later.trans hb1 la
    have mW := heap_alloc_new w1 (.cells #[.int .u8 (zd[0]?.getD 0), .int .u8 (zd[1]?.getD 0), .int .u32 (wat4 zd 4), .slice a1 (zd.length - 8) c1] 49)
    have rW := later_keep l1 R0.out
    have hwW := hb0.trans (l1.mono hb0.size)
    have DW := hO.ck (CK.of la)
    clear hff
    go_wp2_with fail
    generalize w1.alloc (.cells #[.int .u8 (zd[0]?.getD 0), .int .u8 (zd[1]?.getD 0), .int .u32 (wat4 zd 4), .slice a1 (zd.length - 8) c1] 49) = W at *
    generalize w1.heap.size = gm at *
    refine (isError_any (zd[0]?.getD 0) (zd[1]?.getD 0) (wat4 zd 4) _ W).mono ?_
    rw [show (zd[0]?.getD 0 == 3 || (zd[0]?.getD 0 == 11 || zd[0]?.getD 0 == 12)) = true from her]
    rintro e w2 ⟨rfl, hb2⟩
    have l2 : Later W w2 := hb2
    have r2 := later_keep l2 rW
    have hw2 := hwW.trans (hb2.mono hwW.size)
    have km := block_cell (later_keep l2 mW)
    have D2 := DW.ck (CK.of l2)
    go_wp2_with fail
    clear km
    refine (quote_any _ (zd.drop 8) w2 (hB.drop 8) (by simp; omega) D2.rd).mono ?_
    rintro e w3 ⟨hb3, ⟨hf3, _⟩ | ⟨_, qo, qs0, rfl, hO3, hD3⟩⟩
    · exact absurd hrd hf3
    obtain ⟨b7, c7, rfl, _, _⟩ := hO3.slice
    obtain ⟨b8, c8, rfl, hc8, hc9⟩ := hD3.slice
    unfold pkt
    have HPR := hide hpr
    rw [hpr]
    clear hpr hpi her hrd
    generalize (zd.drop 8)[1]?.getD 0 = q1 at *
    generalize wat (zd.drop 8) 4 = q2 at *
    generalize decide (16384 ≤ wat (zd.drop 8) 6 % 32768) = q3 at *
    generalize (zd.drop 8)[8]?.getD 0 = q4 at *
    generalize hqs : wat4 (zd.drop 8) 12 = qs at *
    generalize hqd : wat4 (zd.drop 8) 16 = qd at *
    have HQS := hide hqs
    have HQD := hide hqd
    clear hqs hqd
    generalize (((zd.drop 8).take (hl4 (zd.drop 8)).toNat).drop 20).length = l7 at *
    clear hO3
    rw [show ((zd.drop 8).take (ral true (zd.drop 8)).toNat).drop (hl4 (zd.drop 8)).toNat = qdt (zd.drop 8) from rfl] at hD3 hc8 ⊢
    generalize hdq : qdt (zd.drop 8) = dq at *
    have HDQ := hide hdq
    clear hdq
    obtain ⟨g8, rfl, _, _, hcs, _⟩ := hD3.at (by omega)
    have la3 : Later w3 (w3.alloc (.cells #[.int .u8 q1, .int .u16 q2, .bool q3, .int .u8 q4, .int .u8 pr, .int .u32 qs, .int .u32 qd, .slice b7 l7 c7, .slice (some ⟨g8, 0, none⟩) dq.length c8] 26)) := (Below.refl _ _).alloc (Nat.le_refl _) _
    have l3 := Later.trans hb3 la3
    have qk := heap_alloc_new w3 (.cells #[.int .u8 q1, .int .u16 q2, .bool q3, .int .u8 q4, .int .u8 pr, .int .u32 qs, .int .u32 qd, .slice b7 l7 c7, .slice (some ⟨g8, 0, none⟩) dq.length c8] 26)
    have r3 := later_keep l3 r2
    have hw3 := hw2.trans (l3.mono hw2.size)
    have HCS : Hid (∀ j, j < dq.length → w3.cell? ⟨g8, j, none⟩ = some (.int .u8 (dq[j]?.getD 0))) := fun j h => (hcs j h).1
    have hgq : w.heap.size + 1 < w3.heap.size := Nat.lt_of_lt_of_le (Array.getElem?_eq_some_iff.1 r2).1 hb3.size
    clear D2 hD3 hcs
    go_upto_region 9 with fail
    have HC3 : Hid (∀ j, j < dq.length → (w3.alloc (.cells #[.int .u8 q1, .int .u16 q2, .bool q3, .int .u8 q4, .int .u8 pr, .int .u32 qs, .int .u32 qd, .slice b7 l7 c7, .slice (some ⟨g8, 0, none⟩) dq.length c8] 26)).cell? ⟨g8, j, none⟩ = some (.int .u8 (dq[j]?.getD 0))) := fun j h => la3.cell (HCS.out j h)
    clear HCS
    generalize w3.alloc (.cells #[.int .u8 q1, .int .u16 q2, .bool q3, .int .u8 q4, .int .u8 pr, .int .u32 qs, .int .u32 qd, .slice b7 l7 c7, .slice (some ⟨g8, 0, none⟩) dq.length c8] 26) = w0q at *
    generalize w3.heap.size = gq at *
    have hlt0 : gq < w0q.heap.size := (Array.getElem?_eq_some_iff.1 qk).1
    go_cut [7, 8] (fun q x wx => ∃ g, q = .pointer (some ⟨g, 0, none⟩) ∧ x = .bool true ∧ wx.heap[g]? = some (.cells #[.func (.func fw) #[] #[], .func (.func fb) #[] #[]] 60 (0, 0)) ∧ Below w0q.heap.size w0q wx)
    case first =>
      refine anyT_begin (R := But (fun b => w0q.heap.size ≤ b)) 10 rfl (by kernel_rfl) ?_
      have hd : Later w0q w0q.drew := Later.drew w0q
      have pd := (hd.block gq (Array.getElem?_eq_some_iff.1 qk).1).trans qk
      have bd : Below w0q.heap.size w0q w0q.drew := hd
      generalize w0q.drew = Wd at *
      have ha : ∀ v1, But (fun b => w0q.heap.size ≤ b) Wd v1 → ∀ i, v1.cell? ⟨gq, i, none⟩ = #[Value.int .u8 q1, .int .u16 q2, .bool q3, .int .u8 q4, .int .u8 pr, .int .u32 qs, .int .u32 qd, .slice b7 l7 c7, .slice (some ⟨g8, 0, none⟩) dq.length c8][i]? := fun v1 h => block_cell ((h.block gq (Array.getElem?_eq_some_iff.1 pd).1 (by omega)).trans pd)
      have hz : w0q.heap.size ≤ Wd.heap.size := bd.size
      refine anyT_val (But.pre _) 1 rfl (by kernel_rfl) (by kernel_rfl) (by kernel_rfl) (fun _ _ _ _ h => h) rfl ?_; apply Exists.intro; refine ⟨fun v1 hv1 => ?_, ?_⟩; (· (go_simp; rfl)); simp only [Act.put, List.setIfInBounds_toArray, List.set_cons_zero, List.set_cons_succ]
      refine anyT_val (But.pre _) 2 rfl (by kernel_rfl) (by kernel_rfl) (by kernel_rfl) (fun _ _ _ _ h => h) rfl ?_; apply Exists.intro; refine ⟨fun v1 hv1 => ?_, ?_⟩; (· (go_simp; rfl)); simp only [Act.put, List.setIfInBounds_toArray, List.set_cons_zero, List.set_cons_succ]
      refine anyT_two 0 7 rfl rfl (by kernel_rfl) rfl rfl ?_ ?_
      · skip
        refine wp_enter 25 #[] (by go_simp) ?_
        refine (readers_any Wd).mono ?_
        rintro e W3 ⟨m, rfl, hb3, hM3⟩
        have l3 : Later Wd W3 := hb3
        refine ⟨But.of l3, ?_⟩
        simp only [Act.put, List.setIfInBounds_toArray, List.set_cons_zero, List.set_cons_succ]
        have hlk := hlk0 _ _ hM3
        refine anyT_two 3 7 rfl rfl (by kernel_rfl) rfl rfl ?_ ?_
        · unfold Oper.wp
          go_simp
          refine ⟨But.refl _ _, ?_⟩
          clear hlk
          refine anyT_val (But.pre _) 4 rfl (by kernel_rfl) (by kernel_rfl) (by kernel_rfl) (fun _ _ _ _ h => h) rfl ?_; apply Exists.intro; refine ⟨fun v1 hv1 => ?_, ?_⟩; (· (go_simp; rfl)); simp only [Act.put, List.setIfInBounds_toArray, List.set_cons_zero, List.set_cons_succ]
          refine anyT_val (But.pre _) 5 rfl (by kernel_rfl) (by kernel_rfl) (by kernel_rfl) (fun _ _ _ _ h => h) rfl ?_; apply Exists.intro; refine ⟨fun v1 hv1 => ?_, ?_⟩; (· (go_simp; rfl)); simp only [Act.put, List.setIfInBounds_toArray, List.set_cons_zero, List.set_cons_succ]
          refine anyT_val (But.pre _) 6 rfl (by kernel_rfl) (by kernel_rfl) (by kernel_rfl) (fun _ _ _ _ h => h) rfl ?_; apply Exists.intro; refine ⟨fun v1 hv1 => ?_, ?_⟩; (· (go_simp; rfl)); simp only [Act.put, List.setIfInBounds_toArray, List.set_cons_zero, List.set_cons_succ]
          refine anyT_one 7 rfl (by kernel_rfl) rfl ?_
          unfold Oper.wp
          go_simp
          have l4 : Later W3 (W3.alloc (.cells #[.nilFunc, .nilFunc] 60)) := (Below.refl _ _).alloc (Nat.le_refl _) _
          have g4 := heap_alloc_new W3 (.cells #[.nilFunc, .nilFunc] 60)
          have b4 : Below w0q.heap.size w0q (W3.alloc (.cells #[.nilFunc, .nilFunc] 60)) := (bd.trans (l3.mono hz)).trans (l4.mono (Nat.le_trans hz l3.size))
          have hge : w0q.heap.size ≤ W3.heap.size := Nat.le_trans hz l3.size
          refine ⟨But.of l4, ?_⟩
          generalize W3.alloc (.cells #[.nilFunc, .nilFunc] 60) = W4 at *
          generalize W3.heap.size = g at *
          have kg := block_cell g4
          have fg := block_frozen g4
          have hsf := run_store_fn Tryd.prog
          refine anyT_one 8 rfl (by kernel_rfl) rfl ?_
          unfold Oper.wp
          go_simp
          generalize hV : (W4.setCell ⟨g, 0, none⟩ _).setCell ⟨g, 1, none⟩ _ = V
          have hV8 : V = putRow W4 (g) 0 [.func (.func fw) #[] #[], .func (.func fb) #[] #[]] := hV.symm
          have hbV : But (fun b => w0q.heap.size ≤ b) W4 V := by rw [hV8]; exact putRow_but (E := fun b => w0q.heap.size ≤ b) (n := g) hge _ _ _ _ (But.refl _ _)
          have pV := putRow_all [Value.func (.func fw) #[] #[], .func (.func fb) #[] #[]] g4 rfl
          rw [← hV8] at pV
          clear hV hV8 kg fg hsf
          refine ⟨hbV, ?_⟩
          refine anyT_one 9 rfl (by kernel_rfl) rfl ?_
          unfold Oper.wp
          go_simp
          refine ⟨But.refl _ _, ?_⟩
          refine anyT_done (by kernel_rfl) ?_
          have hbl : Below w0q.heap.size w0q V := b4.trans (hbV.below b4.size (fun k hk e => by omega))
          clear ha
          go_wp2_with fail
          go_meet
          exact ⟨_, rfl, rfl, pV, hbl⟩
        · unfold Oper.wp
          go_simp
          have l4 : Later W3 (W3.alloc (.cells #[.nilFunc, .nilFunc] 60)) := (Below.refl _ _).alloc (Nat.le_refl _) _
          have g4 := heap_alloc_new W3 (.cells #[.nilFunc, .nilFunc] 60)
          have b4 : Below w0q.heap.size w0q (W3.alloc (.cells #[.nilFunc, .nilFunc] 60)) := (bd.trans (l3.mono hz)).trans (l4.mono (Nat.le_trans hz l3.size))
          have hge : w0q.heap.size ≤ W3.heap.size := Nat.le_trans hz l3.size
          have hM4 := (l4.block m (Array.getElem?_eq_some_iff.1 hM3).1).trans hM3
          refine ⟨But.of l4, ?_⟩
          clear hlk
          generalize W3.alloc (.cells #[.nilFunc, .nilFunc] 60) = W4 at *
          generalize W3.heap.size = g at *
          have hlk := hlk0 _ _ hM4
          refine anyT_one 3 rfl (by kernel_rfl) rfl ?_
          unfold Oper.wp
          go_simp
          refine ⟨But.refl _ _, ?_⟩
          clear hlk
          refine anyT_val (But.pre _) 4 rfl (by kernel_rfl) (by kernel_rfl) (by kernel_rfl) (fun _ _ _ _ h => h) rfl ?_; apply Exists.intro; refine ⟨fun v1 hv1 => ?_, ?_⟩; (· (go_simp; rfl)); simp only [Act.put, List.setIfInBounds_toArray, List.set_cons_zero, List.set_cons_succ]
          refine anyT_val (But.pre _) 5 rfl (by kernel_rfl) (by kernel_rfl) (by kernel_rfl) (fun _ _ _ _ h => h) rfl ?_; apply Exists.intro; refine ⟨fun v1 hv1 => ?_, ?_⟩; (· (go_simp; rfl)); simp only [Act.put, List.setIfInBounds_toArray, List.set_cons_zero, List.set_cons_succ]
          refine anyT_val (But.pre _) 6 rfl (by kernel_rfl) (by kernel_rfl) (by kernel_rfl) (fun _ _ _ _ h => h) rfl ?_; apply Exists.intro; refine ⟨fun v1 hv1 => ?_, ?_⟩; (· (go_simp; rfl)); simp only [Act.put, List.setIfInBounds_toArray, List.set_cons_zero, List.set_cons_succ]
          have kg := block_cell g4
          have fg := block_frozen g4
          have hsf := run_store_fn Tryd.prog
          refine anyT_one 8 rfl (by kernel_rfl) rfl ?_
          unfold Oper.wp
          go_simp
          generalize hV : (W4.setCell ⟨g, 0, none⟩ _).setCell ⟨g, 1, none⟩ _ = V
          have hV8 : V = putRow W4 (g) 0 [.func (.func fw) #[] #[], .func (.func fb) #[] #[]] := hV.symm
          have hbV : But (fun b => w0q.heap.size ≤ b) W4 V := by rw [hV8]; exact putRow_but (E := fun b => w0q.heap.size ≤ b) (n := g) hge _ _ _ _ (But.refl _ _)
          have pV := putRow_all [Value.func (.func fw) #[] #[], .func (.func fb) #[] #[]] g4 rfl
          rw [← hV8] at pV
          clear hV hV8 kg fg hsf
          refine ⟨hbV, ?_⟩
          refine anyT_one 9 rfl (by kernel_rfl) rfl ?_
          unfold Oper.wp
          go_simp
          refine ⟨But.refl _ _, ?_⟩
          refine anyT_done (by kernel_rfl) ?_
          have hbl : Below w0q.heap.size w0q V := b4.trans (hbV.below b4.size (fun k hk e => by omega))
          clear ha
          go_wp2_with fail
          go_meet
          exact ⟨_, rfl, rfl, pV, hbl⟩
      · unfold Oper.wp
        go_simp
        have l4 : Later Wd (Wd.alloc (.cells #[.nilFunc, .nilFunc] 60)) := (Below.refl _ _).alloc (Nat.le_refl _) _
        have g4 := heap_alloc_new Wd (.cells #[.nilFunc, .nilFunc] 60)
        have b4 : Below w0q.heap.size w0q (Wd.alloc (.cells #[.nilFunc, .nilFunc] 60)) := bd.trans (l4.mono hz)
        refine ⟨But.of l4, ?_⟩
        have hge : w0q.heap.size ≤ Wd.heap.size := hz
        generalize Wd.alloc (.cells #[.nilFunc, .nilFunc] 60) = W4 at *
        generalize Wd.heap.size = g at *
        refine anyT_one 0 rfl (by kernel_rfl) rfl ?_
        refine wp_enter 25 #[] (by go_simp) ?_
        refine (readers_any W4).mono ?_
        rintro e W5 ⟨m, rfl, hb5, hM5⟩
        have l5 : Later W4 W5 := hb5
        have g5 := (l5.block g (Array.getElem?_eq_some_iff.1 g4).1).trans g4
        have b5 : Below w0q.heap.size w0q W5 := b4.trans (l5.mono b4.size)
        refine ⟨But.of l5, ?_⟩
        simp only [Act.put, List.setIfInBounds_toArray, List.set_cons_zero, List.set_cons_succ]
        have hlk := hlk0 _ _ hM5
        refine anyT_one 3 rfl (by kernel_rfl) rfl ?_
        unfold Oper.wp
        go_simp
        refine ⟨But.refl _ _, ?_⟩
        clear hlk
        refine anyT_val (But.pre _) 4 rfl (by kernel_rfl) (by kernel_rfl) (by kernel_rfl) (fun _ _ _ _ h => h) rfl ?_; apply Exists.intro; refine ⟨fun v1 hv1 => ?_, ?_⟩; (· (go_simp; rfl)); simp only [Act.put, List.setIfInBounds_toArray, List.set_cons_zero, List.set_cons_succ]
        refine anyT_val (But.pre _) 5 rfl (by kernel_rfl) (by kernel_rfl) (by kernel_rfl) (fun _ _ _ _ h => h) rfl ?_; apply Exists.intro; refine ⟨fun v1 hv1 => ?_, ?_⟩; (· (go_simp; rfl)); simp only [Act.put, List.setIfInBounds_toArray, List.set_cons_zero, List.set_cons_succ]
        refine anyT_val (But.pre _) 6 rfl (by kernel_rfl) (by kernel_rfl) (by kernel_rfl) (fun _ _ _ _ h => h) rfl ?_; apply Exists.intro; refine ⟨fun v1 hv1 => ?_, ?_⟩; (· (go_simp; rfl)); simp only [Act.put, List.setIfInBounds_toArray, List.set_cons_zero, List.set_cons_succ]
        have kg := block_cell g5
        have fg := block_frozen g5
        have hsf := run_store_fn Tryd.prog
        refine anyT_one 8 rfl (by kernel_rfl) rfl ?_
        unfold Oper.wp
        go_simp
        generalize hV : (W5.setCell ⟨g, 0, none⟩ _).setCell ⟨g, 1, none⟩ _ = V
        have hV8 : V = putRow W5 (g) 0 [.func (.func fw) #[] #[], .func (.func fb) #[] #[]] := hV.symm
        have hbV : But (fun b => w0q.heap.size ≤ b) W5 V := by rw [hV8]; exact putRow_but (E := fun b => w0q.heap.size ≤ b) (n := g) hge _ _ _ _ (But.refl _ _)
        have pV := putRow_all [Value.func (.func fw) #[] #[], .func (.func fb) #[] #[]] g5 rfl
        rw [← hV8] at pV
        clear hV hV8 kg fg hsf
        refine ⟨hbV, ?_⟩
        refine anyT_one 9 rfl (by kernel_rfl) rfl ?_
        unfold Oper.wp
        go_simp
        refine ⟨But.refl _ _, ?_⟩
        refine anyT_done (by kernel_rfl) ?_
        have hbl : Below w0q.heap.size w0q V := b5.trans (hbV.below b5.size (fun k hk e => by omega))
        clear ha
        go_wp2_with fail
        go_meet
        exact ⟨_, rfl, rfl, pV, hbl⟩
    case rest =>
      obtain ⟨g, rfl, rfl, hg, hbc⟩ := hcut
      have qc := (hbc.block gq (Array.getElem?_eq_some_iff.1 qk).1).trans qk
      have rc := (hbc.block _ (Array.getElem?_eq_some_iff.1 r3).1).trans r3
      have hwc := hw3.trans (hbc.mono hw3.size)
      have HCc : Hid (∀ j, j < dq.length → wc.cell? ⟨g8, j, none⟩ = some (.int .u8 (dq[j]?.getD 0))) := fun j h => (hbc.cell (p := ⟨g8, j, none⟩) (World.block_lt_of_cell? w0q ⟨g8, j, none⟩ (HC3.out j h))).trans (HC3.out j h)
      generalize wc = wm at *
      go_upto_region 12 with fail
      go_cut [9, 5] (fun q x wx => ∃ gp u v, q = .pointer (some ⟨gp, 0, none⟩) ∧ x = .int .i64 e0 ∧ wx.heap[gp]? = some (.cells #[.int .u16 u, .int .u16 v] 65 (0, 0)) ∧ Hid (e0 = 0 → u = x1 ∧ v = y1) ∧ Below wm.heap.size wm wx)
      case first =>
        refine anyT_begin (R := But (fun b => wm.heap.size ≤ b)) 13 rfl (by kernel_rfl) ?_
        have ld : Later wm wm.drew := Later.drew wm
        have qWd := later_keep ld qc
        have gWd := later_keep ld hg
        have bd : Below wm.heap.size wm wm.drew := ld
        have cWd : ∀ j, j < dq.length → wm.drew.cell? ⟨g8, j, none⟩ = some (.int .u8 (dq[j]?.getD 0)) := fun j h => ld.cell (HCc.out j h)
        generalize wm.drew = Wd at *
        have hz : wm.heap.size ≤ Wd.heap.size := bd.size
        have hgl := (Array.getElem?_eq_some_iff.1 hg).1
        have hql := (Array.getElem?_eq_some_iff.1 qc).1
        have h8l : g8 < wm.heap.size := World.block_lt_of_cell? wm ⟨g8, 0, none⟩ (HCc.out 0 (by omega))
        have ha : ∀ v1, But (fun b => wm.heap.size ≤ b) Wd v1 → ∀ i, v1.cell? ⟨gq, i, none⟩ = #[Value.int .u8 q1, .int .u16 q2, .bool q3, .int .u8 q4, .int .u8 pr, .int .u32 qs, .int .u32 qd, .slice b7 l7 c7, .slice (some ⟨g8, 0, none⟩) dq.length c8][i]? := fun v1 h => block_cell ((h.block gq (Array.getElem?_eq_some_iff.1 qWd).1 (by omega)).trans qWd)
        have hb : ∀ v1, But (fun b => wm.heap.size ≤ b) Wd v1 → ∀ i, v1.cell? ⟨g, i, none⟩ = #[Value.func (.func fw) #[] #[], .func (.func fb) #[] #[]][i]? := fun v1 h => block_cell ((h.block g (Array.getElem?_eq_some_iff.1 gWd).1 (by omega)).trans gWd)
        have hc0 : ∀ v1, But (fun b => wm.heap.size ≤ b) Wd v1 → v1.cell? ⟨g8, 0, none⟩ = some (.int .u8 (dq[0]?.getD 0)) := fun v1 h => h.cell (cWd 0 (by omega)) (by show ¬ wm.heap.size ≤ g8; omega)
        have hc1 : ∀ v1, But (fun b => wm.heap.size ≤ b) Wd v1 → v1.cell? ⟨g8, 1, none⟩ = some (.int .u8 (dq[1]?.getD 0)) := fun v1 h => h.cell (cWd 1 (by omega)) (by show ¬ wm.heap.size ≤ g8; omega)
        have hc2 : ∀ v1, But (fun b => wm.heap.size ≤ b) Wd v1 → v1.cell? ⟨g8, 2, none⟩ = some (.int .u8 (dq[2]?.getD 0)) := fun v1 h => h.cell (cWd 2 (by omega)) (by show ¬ wm.heap.size ≤ g8; omega)
        have hc3 : ∀ v1, But (fun b => wm.heap.size ≤ b) Wd v1 → v1.cell? ⟨g8, 3, none⟩ = some (.int .u8 (dq[3]?.getD 0)) := fun v1 h => h.cell (cWd 3 (by omega)) (by show ¬ wm.heap.size ≤ g8; omega)
        have hc4 : ∀ v1, But (fun b => wm.heap.size ≤ b) Wd v1 → v1.cell? ⟨g8, 4, none⟩ = some (.int .u8 (dq[4]?.getD 0)) := fun v1 h => h.cell (cWd 4 (by omega)) (by show ¬ wm.heap.size ≤ g8; omega)
        have hc5 : ∀ v1, But (fun b => wm.heap.size ≤ b) Wd v1 → v1.cell? ⟨g8, 5, none⟩ = some (.int .u8 (dq[5]?.getD 0)) := fun v1 h => h.cell (cWd 5 (by omega)) (by show ¬ wm.heap.size ≤ g8; omega)
        have hc6 : ∀ v1, But (fun b => wm.heap.size ≤ b) Wd v1 → v1.cell? ⟨g8, 6, none⟩ = some (.int .u8 (dq[6]?.getD 0)) := fun v1 h => h.cell (cWd 6 (by omega)) (by show ¬ wm.heap.size ≤ g8; omega)
        have hc7 : ∀ v1, But (fun b => wm.heap.size ≤ b) Wd v1 → v1.cell? ⟨g8, 7, none⟩ = some (.int .u8 (dq[7]?.getD 0)) := fun v1 h => h.cell (cWd 7 (by omega)) (by show ¬ wm.heap.size ≤ g8; omega)
        clear cWd
        have har : ∀ v1 : World, (Instr.arrayAt 78 (.slice (some ⟨g8, 0, none⟩) dq.length c8)).run Tryd.prog v1 = .ok (.pointer (some ⟨g8, 0, none⟩)) v1 := fun v1 => run_arrayAt (w := v1) 78 5 8 _ _ _ Tryd.underlying78 h8
        refine anyT_val (But.pre _) 0 rfl (by kernel_rfl) (by kernel_rfl) (by kernel_rfl) (fun _ _ _ _ h => h) rfl ?_; apply Exists.intro; refine ⟨fun v1 hv1 => ?_, ?_⟩; (· (go_simp; rfl)); simp only [Act.put, List.setIfInBounds_toArray, List.set_cons_zero, List.set_cons_succ]
        refine anyT_val (But.pre _) 1 rfl (by kernel_rfl) (by kernel_rfl) (by kernel_rfl) (fun _ _ _ _ h => h) rfl ?_; apply Exists.intro; refine ⟨fun v1 hv1 => ?_, ?_⟩; (· (go_simp; rfl)); simp only [Act.put, List.setIfInBounds_toArray, List.set_cons_zero, List.set_cons_succ]
        refine anyT_val (But.pre _) 2 rfl (by kernel_rfl) (by kernel_rfl) (by kernel_rfl) (fun _ _ _ _ h => h) rfl ?_; apply Exists.intro; refine ⟨fun v1 hv1 => ?_, ?_⟩; (· (go_simp; rfl)); simp only [Act.put, List.setIfInBounds_toArray, List.set_cons_zero, List.set_cons_succ]
        refine anyT_val (But.pre _) 3 rfl (by kernel_rfl) (by kernel_rfl) (by kernel_rfl) (fun _ _ _ _ h => h) rfl ?_; apply Exists.intro; refine ⟨fun v1 hv1 => ?_, ?_⟩; (· (go_simp; rfl)); simp only [Act.put, List.setIfInBounds_toArray, List.set_cons_zero, List.set_cons_succ]
        refine anyT_val (But.pre _) 4 rfl (by kernel_rfl) (by kernel_rfl) (by kernel_rfl) (fun _ _ _ _ h => h) rfl ?_; apply Exists.intro; refine ⟨fun v1 hv1 => ?_, ?_⟩; (· (go_simp; rfl)); simp only [Act.put, List.setIfInBounds_toArray, List.set_cons_zero, List.set_cons_succ]
        refine anyT_val (But.pre _) 5 rfl (by kernel_rfl) (by kernel_rfl) (by kernel_rfl) (fun _ _ _ _ h => h) rfl ?_; apply Exists.intro; refine ⟨fun v1 hv1 => ?_, ?_⟩; (· (go_simp; rfl)); simp only [Act.put, List.setIfInBounds_toArray, List.set_cons_zero, List.set_cons_succ]
        clear har ha hb hc0 hc1 hc2 hc3 hc4 hc5 hc6 hc7
        refine anyT_two 6 10 rfl rfl (by kernel_rfl) rfl rfl ?_ ?_
        · refine wp_enter fb #[.agg #[.int .u8 (dq[0]?.getD 0), .int .u8 (dq[1]?.getD 0), .int .u8 (dq[2]?.getD 0), .int .u8 (dq[3]?.getD 0), .int .u8 (dq[4]?.getD 0), .int .u8 (dq[5]?.getD 0), .int .u8 (dq[6]?.getD 0), .int .u8 (dq[7]?.getD 0)]] (by go_simp) ?_
          refine (hf Wd (hwc.trans (ld.mono hwc.size))).mono ?_
          rintro e W5 ⟨hb5, u, v, rfl, hab⟩
          have HAB : Hid (e0 = 0 → u = x1 ∧ v = y1) := hab
          clear hab
          have l5 : Later Wd W5 := hb5
          refine ⟨But.of l5, ?_⟩
          simp only [Act.put, List.setIfInBounds_toArray, List.set_cons_zero, List.set_cons_succ]
          refine anyT_val (But.pre _) 7 rfl (by kernel_rfl) (by kernel_rfl) (by kernel_rfl) (fun _ _ _ _ h => h) rfl ?_; apply Exists.intro; refine ⟨fun v1 hv1 => ?_, ?_⟩; (· (go_simp; rfl)); simp only [Act.put, List.setIfInBounds_toArray, List.set_cons_zero, List.set_cons_succ]
          refine anyT_val (But.pre _) 8 rfl (by kernel_rfl) (by kernel_rfl) (by kernel_rfl) (fun _ _ _ _ h => h) rfl ?_; apply Exists.intro; refine ⟨fun v1 hv1 => ?_, ?_⟩; (· (go_simp; rfl)); simp only [Act.put, List.setIfInBounds_toArray, List.set_cons_zero, List.set_cons_succ]
          refine anyT_val (But.pre _) 9 rfl (by kernel_rfl) (by kernel_rfl) (by kernel_rfl) (fun _ _ _ _ h => h) rfl ?_; apply Exists.intro; refine ⟨fun v1 hv1 => ?_, ?_⟩; (· (go_simp; rfl)); simp only [Act.put, List.setIfInBounds_toArray, List.set_cons_zero, List.set_cons_succ]
          refine anyT_one 10 rfl (by kernel_rfl) rfl ?_
          unfold Oper.wp
          go_simp
          have la5 : Later W5 (W5.alloc (.cells #[.int .u16 0, .int .u16 0] 65)) := (Below.refl _ _).alloc (Nat.le_refl _) _
          have g6 := heap_alloc_new W5 (.cells #[.int .u16 0, .int .u16 0] 65)
          refine ⟨But.of la5, ?_⟩
          have b6 : Below wm.heap.size wm (W5.alloc (.cells #[.int .u16 0, .int .u16 0] 65)) := bd.trans ((l5.trans la5).mono hz)
          have hge : wm.heap.size ≤ W5.heap.size := Nat.le_trans hz l5.size
          generalize W5.alloc (.cells #[.int .u16 0, .int .u16 0] 65) = W6 at *
          generalize W5.heap.size = gp at *
          have kg := block_cell g6
          have fg := block_frozen g6
          refine anyT_one 11 rfl (by kernel_rfl) rfl ?_
          unfold Oper.wp
          go_simp
          generalize hV : (W6.setCell ⟨gp, 0, none⟩ _).setCell ⟨gp, 1, none⟩ _ = V
          have hV8 : V = putRow W6 gp 0 [.int .u16 u, .int .u16 v] := hV.symm
          have hbV : But (fun b => wm.heap.size ≤ b) W6 V := by rw [hV8]; exact putRow_but (E := fun b => wm.heap.size ≤ b) (n := gp) hge _ _ _ _ (But.refl _ _)
          have pV := putRow_all ([.int .u16 u, .int .u16 v] : List Value) g6 rfl
          rw [← hV8] at pV
          clear hV hV8 kg fg
          refine ⟨hbV, ?_⟩
          refine anyT_one 12 rfl (by kernel_rfl) rfl ?_
          unfold Oper.wp
          go_simp
          refine ⟨But.refl _ _, ?_⟩
          refine anyT_done (by kernel_rfl) ?_
          have hbl : Below wm.heap.size wm V := b6.trans (hbV.below b6.size (fun k hk e => by omega))
          go_wp2_with fail
          go_meet
          exact ⟨_, u, v, rfl, rfl, pV, HAB, hbl⟩
        · unfold Oper.wp
          go_simp
          have la5 : Later Wd (Wd.alloc (.cells #[.int .u16 0, .int .u16 0] 65)) := (Below.refl _ _).alloc (Nat.le_refl _) _
          have g5 := heap_alloc_new Wd (.cells #[.int .u16 0, .int .u16 0] 65)
          refine ⟨But.of la5, ?_⟩
          have hge : wm.heap.size ≤ Wd.heap.size := hz
          generalize Wd.alloc (.cells #[.int .u16 0, .int .u16 0] 65) = W5 at *
          generalize Wd.heap.size = gp at *
          refine anyT_one 6 rfl (by kernel_rfl) rfl ?_
          refine wp_enter fb #[.agg #[.int .u8 (dq[0]?.getD 0), .int .u8 (dq[1]?.getD 0), .int .u8 (dq[2]?.getD 0), .int .u8 (dq[3]?.getD 0), .int .u8 (dq[4]?.getD 0), .int .u8 (dq[5]?.getD 0), .int .u8 (dq[6]?.getD 0), .int .u8 (dq[7]?.getD 0)]] (by go_simp) ?_
          refine (hf W5 (hwc.trans ((ld.trans la5).mono hwc.size))).mono ?_
          rintro e W6 ⟨hb6, u, v, rfl, hab⟩
          have HAB : Hid (e0 = 0 → u = x1 ∧ v = y1) := hab
          clear hab
          have l6 : Later W5 W6 := hb6
          have g6 := later_keep l6 g5
          have b6 : Below wm.heap.size wm W6 := (Below.mono (ld.trans (la5.trans l6)) (Nat.le_refl _))
          refine ⟨But.of l6, ?_⟩
          simp only [Act.put, List.setIfInBounds_toArray, List.set_cons_zero, List.set_cons_succ]
          refine anyT_val (But.pre _) 7 rfl (by kernel_rfl) (by kernel_rfl) (by kernel_rfl) (fun _ _ _ _ h => h) rfl ?_; apply Exists.intro; refine ⟨fun v1 hv1 => ?_, ?_⟩; (· (go_simp; rfl)); simp only [Act.put, List.setIfInBounds_toArray, List.set_cons_zero, List.set_cons_succ]
          refine anyT_val (But.pre _) 8 rfl (by kernel_rfl) (by kernel_rfl) (by kernel_rfl) (fun _ _ _ _ h => h) rfl ?_; apply Exists.intro; refine ⟨fun v1 hv1 => ?_, ?_⟩; (· (go_simp; rfl)); simp only [Act.put, List.setIfInBounds_toArray, List.set_cons_zero, List.set_cons_succ]
          refine anyT_val (But.pre _) 9 rfl (by kernel_rfl) (by kernel_rfl) (by kernel_rfl) (fun _ _ _ _ h => h) rfl ?_; apply Exists.intro; refine ⟨fun v1 hv1 => ?_, ?_⟩; (· (go_simp; rfl)); simp only [Act.put, List.setIfInBounds_toArray, List.set_cons_zero, List.set_cons_succ]
          have kg := block_cell g6
          have fg := block_frozen g6
          refine anyT_one 11 rfl (by kernel_rfl) rfl ?_
          unfold Oper.wp
          go_simp
          generalize hV : (W6.setCell ⟨gp, 0, none⟩ _).setCell ⟨gp, 1, none⟩ _ = V
          have hV8 : V = putRow W6 gp 0 [.int .u16 u, .int .u16 v] := hV.symm
          have hbV : But (fun b => wm.heap.size ≤ b) W6 V := by rw [hV8]; exact putRow_but (E := fun b => wm.heap.size ≤ b) (n := gp) hge _ _ _ _ (But.refl _ _)
          have pV := putRow_all ([.int .u16 u, .int .u16 v] : List Value) g6 rfl
          rw [← hV8] at pV
          clear hV hV8 kg fg
          refine ⟨hbV, ?_⟩
          refine anyT_one 12 rfl (by kernel_rfl) rfl ?_
          unfold Oper.wp
          go_simp
          refine ⟨But.refl _ _, ?_⟩
          refine anyT_done (by kernel_rfl) ?_
          have hbl : Below wm.heap.size wm V := b6.trans (hbV.below b6.size (fun k hk e => by omega))
          go_wp2_with fail
          go_meet
          exact ⟨_, u, v, rfl, rfl, pV, HAB, hbl⟩
      case rest =>
        obtain ⟨gp, u, v, rfl, rfl, hgp, HAB, hb2c⟩ := hcut
        have q5 := (hb2c.block gq (Array.getElem?_eq_some_iff.1 qc).1).trans qc
        have r5 := (hb2c.block _ (Array.getElem?_eq_some_iff.1 rc).1).trans rc
        have hw5 := hwc.trans (hb2c.mono hwc.size)
        have kq := block_cell q5
        have kg := block_cell hgp
        go_wp2_with fail
        clear kq kg
        refine (told_any q1 q2 q4 pr qs qd u v e0 q3 _ _ wc).mono ?_
        rintro e w7 ⟨hb7, ⟨hx, rfl⟩ | ⟨hx, rfl⟩⟩
        · have HX := hide hx
          clear hx
          have rX := (Below.block hb7 _ (Array.getElem?_eq_some_iff.1 r5).1).trans r5
          have hwX := hw5.trans (hb7.mono hw5.size)
          have kX := block_cell rX
          have fX := block_frozen rX
          go_wp2_with fail
          generalize hV : ((((w7.setCell ⟨w.heap.size + 1, 0, none⟩ _).setCell ⟨w.heap.size + 1, 1, none⟩ _).setCell ⟨w.heap.size + 1, 2, none⟩ _).setCell ⟨w.heap.size + 1, 3, none⟩ _).setCell ⟨w.heap.size + 1, 4, none⟩ _ = V
          have hV8 : V = putRow w7 (w.heap.size + 1) 0 [.int .u8 0, .int .u32 0, .int .u32 0, .int .u16 0, .int .u16 0] := hV.symm
          have hbV : But (fun b => b = w.heap.size + 1) w7 V := by rw [hV8]; exact putRow_but (E := fun b => b = w.heap.size + 1) (n := w.heap.size + 1) rfl _ _ _ _ (But.refl _ _)
          have pV := putRow_all ([.int .u8 0, .int .u32 0, .int .u32 0, .int .u16 0, .int .u16 0] : List Value) rX rfl
          rw [← hV8] at pV
          clear hV hV8 kX fX
          have PV := block_cell pV
          have hwV : Below w.heap.size w V := hwX.trans (hbV.below hwX.size (fun k hk e => by omega))
          exact bodyPost_ret (v := .tuple #[.agg #[.int .u8 0, .int .u32 0, .int .u32 0, .int .u16 0, .int .u16 0], .int .i64 e0]) (by simp [results, Tryd.results12, go_sem, PV]) rfl ⟨hwV, by rw [otv_no HX.out]⟩
        · subst hx
          obtain ⟨rfl, rfl⟩ := HAB.out rfl
          have rX := (Below.block hb7 _ (Array.getElem?_eq_some_iff.1 r5).1).trans r5
          have hwX := hw5.trans (hb7.mono hw5.size)
          have kX := block_cell rX
          have fX := block_frozen rX
          go_wp2_with fail
          generalize hV : ((((w7.setCell ⟨w.heap.size + 1, 0, none⟩ _).setCell ⟨w.heap.size + 1, 1, none⟩ _).setCell ⟨w.heap.size + 1, 2, none⟩ _).setCell ⟨w.heap.size + 1, 3, none⟩ _).setCell ⟨w.heap.size + 1, 4, none⟩ _ = V
          have hV8 : V = putRow w7 (w.heap.size + 1) 0 [.int .u8 pr, .int .u32 qs, .int .u32 qd, .int .u16 u, .int .u16 v] := hV.symm
          have hbV : But (fun b => b = w.heap.size + 1) w7 V := by rw [hV8]; exact putRow_but (E := fun b => b = w.heap.size + 1) (n := w.heap.size + 1) rfl _ _ _ _ (But.refl _ _)
          have pV := putRow_all ([.int .u8 pr, .int .u32 qs, .int .u32 qd, .int .u16 u, .int .u16 v] : List Value) rX rfl
          rw [← hV8] at pV
          clear hV hV8 kX fX
          have PV := block_cell pV
          have hwV : Below w.heap.size w V := hwX.trans (hbV.below hwX.size (fun k hk e => by omega))
          exact bodyPost_ret (v := .tuple #[.agg #[.int .u8 pr, .int .u32 qs, .int .u32 qd, .int .u16 u, .int .u16 v], .int .i64 0]) (by simp [results, Tryd.results12, go_sem, PV]) rfl ⟨hwV, by rw [HQS.out, HQD.out]; rfl⟩
end Go.Proofs.YtojoaidnkljcpaaDoor

/- Layer 5: Quoted in one form. -/
namespace Go.Proofs.YtojoaidnkljcpaaDoor
open Go.RowKit Go.Shelf
set_option maxRecDepth 100000
set_option linter.unusedVariables false
set_option linter.unusedSimpArgs false

set_option maxHeartbeats 8000000 in
theorem quoted_other (pr : Int) (tos id ttl proto src dst : Int) (keep : Bool) (so sd : Value) (zd : List Int) (w : World) (hT : Tb w) (hB : Mt.By zd) (hI : Rd w.heap.size w sd zd) (hl : zd.length ≤ 140737488355328) (hpi : pie proto zd = 0) (her : erb (zd[0]?.getD 0) = true) (hrd : rde true (zd.drop 8) = 0) (hpr : (zd.drop 8)[9]?.getD 0 = pr) (h8 : 8 ≤ (qdt (zd.drop 8)).length) (hno : pr ≠ 6 ∧ pr ≠ 17 ∧ pr ≠ 1 ∧ pr ≠ 47) :
    Calls Tryd.prog 12 #[.agg #[.int .u8 tos, .int .u16 id, .bool keep, .int .u8 ttl, .int .u8 proto, .int .u32 src, .int .u32 dst, so, sd]] w fun e w' => Below w.heap.size w w' ∧ e = .returned (.tuple #[.agg #[.int .u8 0, .int .u32 0, .int .u32 0, .int .u16 0, .int .u16 0], .int .i64 12]) := by
  obtain ⟨ad, cd, rfl, _, _⟩ := hI.slice
  have hb0 : Below w.heap.size w ((w.alloc (.cells #[.int .u8 tos, .int .u16 id, .bool keep, .int .u8 ttl, .int .u8 proto, .int .u32 src, .int .u32 dst, so, .slice ad zd.length cd] 26)).alloc (.cells #[.int .u8 0, .int .u32 0, .int .u32 0, .int .u16 0, .int .u16 0] 28)) := ((Below.refl _ _).alloc (Nat.le_refl _) _).alloc (by simp) _
  have r0 := heap_alloc_new (w.alloc (.cells #[.int .u8 tos, .int .u16 id, .bool keep, .int .u8 ttl, .int .u8 proto, .int .u32 src, .int .u32 dst, so, .slice ad zd.length cd] 26)) (.cells #[.int .u8 0, .int .u32 0, .int .u32 0, .int .u16 0, .int .u16 0] 28)
  rw [World.size_alloc] at r0
  have R0 := hide r0
  clear r0
  go_enter Tryd.func12, Tryd.ntmps12
  go_wp2_with fail
  generalize ((w.alloc (.cells #[.int .u8 tos, .int .u16 id, .bool keep, .int .u8 ttl, .int .u8 proto, .int .u32 src, .int .u32 dst, so, .slice ad zd.length cd] 26)).alloc (.cells #[.int .u8 0, .int .u32 0, .int .u32 0, .int .u16 0, .int .u16 0] 28)) = w0 at *
  refine (parseIcmp_any tos id ttl proto src dst keep _ _ zd w0 hB ((hI.below hb0).mono hb0.size) hl).mono ?_
  rintro e w1 ⟨hb1, ⟨hff, rfl⟩ | ⟨hff, a1, c1, rfl, hO⟩⟩
  · exact absurd hpi hff
  · have la : Later w1 (w1.alloc (.cells #[.int .u8 (zd[0]?.getD 0), .int .u8 (zd[1]?.getD 0), .int .u32 (wat4 zd 4), .slice a1 (zd.length - 8) c1] 49)) := (Below.refl _ _).alloc (Nat.le_refl _) _
    have l1 := Later.trans hb1 la
    have mW := heap_alloc_new w1 (.cells #[.int .u8 (zd[0]?.getD 0), .int .u8 (zd[1]?.getD 0), .int .u32 (wat4 zd 4), .slice a1 (zd.length - 8) c1] 49)
    have rW := later_keep l1 R0.out
    have hwW := hb0.trans (l1.mono hb0.size)
    have DW := hO.ck (CK.of la)
    clear hff
    go_wp2_with fail
    generalize w1.alloc (.cells #[.int .u8 (zd[0]?.getD 0), .int .u8 (zd[1]?.getD 0), .int .u32 (wat4 zd 4), .slice a1 (zd.length - 8) c1] 49) = W at *
    generalize w1.heap.size = gm at *
    refine (isError_any (zd[0]?.getD 0) (zd[1]?.getD 0) (wat4 zd 4) _ W).mono ?_
    rw [show (zd[0]?.getD 0 == 3 || (zd[0]?.getD 0 == 11 || zd[0]?.getD 0 == 12)) = true from her]
    rintro e w2 ⟨rfl, hb2⟩
    have l2 : Later W w2 := hb2
    have r2 := later_keep l2 rW
    have hw2 := hwW.trans (hb2.mono hwW.size)
    have km := block_cell (later_keep l2 mW)
    have D2 := DW.ck (CK.of l2)
    go_wp2_with fail
    clear km
    refine (quote_any _ (zd.drop 8) w2 (hB.drop 8) (by simp; omega) D2.rd).mono ?_
    rintro e w3 ⟨hb3, ⟨hf3, _⟩ | ⟨_, qo, qs0, rfl, hO3, hD3⟩⟩
    · exact absurd hrd hf3
    obtain ⟨b7, c7, rfl, _, _⟩ := hO3.slice
    obtain ⟨b8, c8, rfl, hc8, hc9⟩ := hD3.slice
    unfold pkt
    have HPR := hide hpr
    rw [hpr]
    clear hpr hpi her hrd
    generalize (zd.drop 8)[1]?.getD 0 = q1 at *
    generalize wat (zd.drop 8) 4 = q2 at *
    generalize decide (16384 ≤ wat (zd.drop 8) 6 % 32768) = q3 at *
    generalize (zd.drop 8)[8]?.getD 0 = q4 at *
    generalize hqs : wat4 (zd.drop 8) 12 = qs at *
    generalize hqd : wat4 (zd.drop 8) 16 = qd at *
    have HQS := hide hqs
    have HQD := hide hqd
    clear hqs hqd
    generalize (((zd.drop 8).take (hl4 (zd.drop 8)).toNat).drop 20).length = l7 at *
    clear hO3
    rw [show ((zd.drop 8).take (ral true (zd.drop 8)).toNat).drop (hl4 (zd.drop 8)).toNat = qdt (zd.drop 8) from rfl] at hD3 hc8 ⊢
    generalize hdq : qdt (zd.drop 8) = dq at *
    have HDQ := hide hdq
    clear hdq
    obtain ⟨g8, rfl, _, _, hcs, _⟩ := hD3.at (by omega)
    have la3 : Later w3 (w3.alloc (.cells #[.int .u8 q1, .int .u16 q2, .bool q3, .int .u8 q4, .int .u8 pr, .int .u32 qs, .int .u32 qd, .slice b7 l7 c7, .slice (some ⟨g8, 0, none⟩) dq.length c8] 26)) := (Below.refl _ _).alloc (Nat.le_refl _) _
    have l3 := Later.trans hb3 la3
    have qk := heap_alloc_new w3 (.cells #[.int .u8 q1, .int .u16 q2, .bool q3, .int .u8 q4, .int .u8 pr, .int .u32 qs, .int .u32 qd, .slice b7 l7 c7, .slice (some ⟨g8, 0, none⟩) dq.length c8] 26)
    have r3 := later_keep l3 r2
    have hw3 := hw2.trans (l3.mono hw2.size)
    have HCS : Hid (∀ j, j < dq.length → w3.cell? ⟨g8, j, none⟩ = some (.int .u8 (dq[j]?.getD 0))) := fun j h => (hcs j h).1
    have hgq : w.heap.size + 1 < w3.heap.size := Nat.lt_of_lt_of_le (Array.getElem?_eq_some_iff.1 r2).1 hb3.size
    clear D2 hD3 hcs
    go_upto_region 9 with fail
    have HC3 : Hid (∀ j, j < dq.length → (w3.alloc (.cells #[.int .u8 q1, .int .u16 q2, .bool q3, .int .u8 q4, .int .u8 pr, .int .u32 qs, .int .u32 qd, .slice b7 l7 c7, .slice (some ⟨g8, 0, none⟩) dq.length c8] 26)).cell? ⟨g8, j, none⟩ = some (.int .u8 (dq[j]?.getD 0))) := fun j h => la3.cell (HCS.out j h)
    clear HCS
    generalize w3.alloc (.cells #[.int .u8 q1, .int .u16 q2, .bool q3, .int .u8 q4, .int .u8 pr, .int .u32 qs, .int .u32 qd, .slice b7 l7 c7, .slice (some ⟨g8, 0, none⟩) dq.length c8] 26) = w0q at *
    generalize w3.heap.size = gq at *
    have hlt0 : gq < w0q.heap.size := (Array.getElem?_eq_some_iff.1 qk).1
    go_cut [7, 8] (fun q x wx => ∃ g, q = .pointer (some ⟨g, 0, none⟩) ∧ x = .bool false ∧ wx.heap[g]? = some (.cells #[.nilFunc, .nilFunc] 60 (0, 0)) ∧ Below w0q.heap.size w0q wx)
    case first =>
      refine anyT_begin (R := But (fun b => w0q.heap.size ≤ b)) 10 rfl (by kernel_rfl) ?_
      have hd : Later w0q w0q.drew := Later.drew w0q
      have pd := (hd.block gq (Array.getElem?_eq_some_iff.1 qk).1).trans qk
      have bd : Below w0q.heap.size w0q w0q.drew := hd
      generalize w0q.drew = Wd at *
      have ha : ∀ v1, But (fun b => w0q.heap.size ≤ b) Wd v1 → ∀ i, v1.cell? ⟨gq, i, none⟩ = #[Value.int .u8 q1, .int .u16 q2, .bool q3, .int .u8 q4, .int .u8 pr, .int .u32 qs, .int .u32 qd, .slice b7 l7 c7, .slice (some ⟨g8, 0, none⟩) dq.length c8][i]? := fun v1 h => block_cell ((h.block gq (Array.getElem?_eq_some_iff.1 pd).1 (by omega)).trans pd)
      have hz : w0q.heap.size ≤ Wd.heap.size := bd.size
      refine anyT_val (But.pre _) 1 rfl (by kernel_rfl) (by kernel_rfl) (by kernel_rfl) (fun _ _ _ _ h => h) rfl ?_; apply Exists.intro; refine ⟨fun v1 hv1 => ?_, ?_⟩; (· (go_simp; rfl)); simp only [Act.put, List.setIfInBounds_toArray, List.set_cons_zero, List.set_cons_succ]
      refine anyT_val (But.pre _) 2 rfl (by kernel_rfl) (by kernel_rfl) (by kernel_rfl) (fun _ _ _ _ h => h) rfl ?_; apply Exists.intro; refine ⟨fun v1 hv1 => ?_, ?_⟩; (· (go_simp; rfl)); simp only [Act.put, List.setIfInBounds_toArray, List.set_cons_zero, List.set_cons_succ]
      refine anyT_two 0 7 rfl rfl (by kernel_rfl) rfl rfl ?_ ?_
      · skip
        refine wp_enter 25 #[] (by go_simp) ?_
        refine (readers_any Wd).mono ?_
        rintro e W3 ⟨m, rfl, hb3, hM3⟩
        have l3 : Later Wd W3 := hb3
        refine ⟨But.of l3, ?_⟩
        simp only [Act.put, List.setIfInBounds_toArray, List.set_cons_zero, List.set_cons_succ]
        have hlk := look_none hno hM3
        refine anyT_two 3 7 rfl rfl (by kernel_rfl) rfl rfl ?_ ?_
        · unfold Oper.wp
          go_simp
          refine ⟨But.refl _ _, ?_⟩
          clear hlk
          refine anyT_val (But.pre _) 4 rfl (by kernel_rfl) (by kernel_rfl) (by kernel_rfl) (fun _ _ _ _ h => h) rfl ?_; apply Exists.intro; refine ⟨fun v1 hv1 => ?_, ?_⟩; (· (go_simp; rfl)); simp only [Act.put, List.setIfInBounds_toArray, List.set_cons_zero, List.set_cons_succ]
          refine anyT_val (But.pre _) 5 rfl (by kernel_rfl) (by kernel_rfl) (by kernel_rfl) (fun _ _ _ _ h => h) rfl ?_; apply Exists.intro; refine ⟨fun v1 hv1 => ?_, ?_⟩; (· (go_simp; rfl)); simp only [Act.put, List.setIfInBounds_toArray, List.set_cons_zero, List.set_cons_succ]
          refine anyT_val (But.pre _) 6 rfl (by kernel_rfl) (by kernel_rfl) (by kernel_rfl) (fun _ _ _ _ h => h) rfl ?_; apply Exists.intro; refine ⟨fun v1 hv1 => ?_, ?_⟩; (· (go_simp; rfl)); simp only [Act.put, List.setIfInBounds_toArray, List.set_cons_zero, List.set_cons_succ]
          refine anyT_one 7 rfl (by kernel_rfl) rfl ?_
          unfold Oper.wp
          go_simp
          have l4 : Later W3 (W3.alloc (.cells #[.nilFunc, .nilFunc] 60)) := (Below.refl _ _).alloc (Nat.le_refl _) _
          have g4 := heap_alloc_new W3 (.cells #[.nilFunc, .nilFunc] 60)
          have b4 : Below w0q.heap.size w0q (W3.alloc (.cells #[.nilFunc, .nilFunc] 60)) := (bd.trans (l3.mono hz)).trans (l4.mono (Nat.le_trans hz l3.size))
          have hge : w0q.heap.size ≤ W3.heap.size := Nat.le_trans hz l3.size
          refine ⟨But.of l4, ?_⟩
          generalize W3.alloc (.cells #[.nilFunc, .nilFunc] 60) = W4 at *
          generalize W3.heap.size = g at *
          have kg := block_cell g4
          have fg := block_frozen g4
          have hsf := run_store_nf Tryd.prog
          refine anyT_one 8 rfl (by kernel_rfl) rfl ?_
          unfold Oper.wp
          go_simp
          generalize hV : (W4.setCell ⟨g, 0, none⟩ _).setCell ⟨g, 1, none⟩ _ = V
          have hV8 : V = putRow W4 (g) 0 [.nilFunc, .nilFunc] := hV.symm
          have hbV : But (fun b => w0q.heap.size ≤ b) W4 V := by rw [hV8]; exact putRow_but (E := fun b => w0q.heap.size ≤ b) (n := g) hge _ _ _ _ (But.refl _ _)
          have pV := putRow_all [Value.nilFunc, .nilFunc] g4 rfl
          rw [← hV8] at pV
          clear hV hV8 kg fg hsf
          refine ⟨hbV, ?_⟩
          refine anyT_one 9 rfl (by kernel_rfl) rfl ?_
          unfold Oper.wp
          go_simp
          refine ⟨But.refl _ _, ?_⟩
          refine anyT_done (by kernel_rfl) ?_
          have hbl : Below w0q.heap.size w0q V := b4.trans (hbV.below b4.size (fun k hk e => by omega))
          clear ha
          go_wp2_with fail
          go_meet
          exact ⟨_, rfl, rfl, pV, hbl⟩
        · unfold Oper.wp
          go_simp
          have l4 : Later W3 (W3.alloc (.cells #[.nilFunc, .nilFunc] 60)) := (Below.refl _ _).alloc (Nat.le_refl _) _
          have g4 := heap_alloc_new W3 (.cells #[.nilFunc, .nilFunc] 60)
          have b4 : Below w0q.heap.size w0q (W3.alloc (.cells #[.nilFunc, .nilFunc] 60)) := (bd.trans (l3.mono hz)).trans (l4.mono (Nat.le_trans hz l3.size))
          have hge : w0q.heap.size ≤ W3.heap.size := Nat.le_trans hz l3.size
          have hM4 := (l4.block m (Array.getElem?_eq_some_iff.1 hM3).1).trans hM3
          refine ⟨But.of l4, ?_⟩
          clear hlk
          generalize W3.alloc (.cells #[.nilFunc, .nilFunc] 60) = W4 at *
          generalize W3.heap.size = g at *
          have hlk := look_none hno hM4
          refine anyT_one 3 rfl (by kernel_rfl) rfl ?_
          unfold Oper.wp
          go_simp
          refine ⟨But.refl _ _, ?_⟩
          clear hlk
          refine anyT_val (But.pre _) 4 rfl (by kernel_rfl) (by kernel_rfl) (by kernel_rfl) (fun _ _ _ _ h => h) rfl ?_; apply Exists.intro; refine ⟨fun v1 hv1 => ?_, ?_⟩; (· (go_simp; rfl)); simp only [Act.put, List.setIfInBounds_toArray, List.set_cons_zero, List.set_cons_succ]
          refine anyT_val (But.pre _) 5 rfl (by kernel_rfl) (by kernel_rfl) (by kernel_rfl) (fun _ _ _ _ h => h) rfl ?_; apply Exists.intro; refine ⟨fun v1 hv1 => ?_, ?_⟩; (· (go_simp; rfl)); simp only [Act.put, List.setIfInBounds_toArray, List.set_cons_zero, List.set_cons_succ]
          refine anyT_val (But.pre _) 6 rfl (by kernel_rfl) (by kernel_rfl) (by kernel_rfl) (fun _ _ _ _ h => h) rfl ?_; apply Exists.intro; refine ⟨fun v1 hv1 => ?_, ?_⟩; (· (go_simp; rfl)); simp only [Act.put, List.setIfInBounds_toArray, List.set_cons_zero, List.set_cons_succ]
          have kg := block_cell g4
          have fg := block_frozen g4
          have hsf := run_store_nf Tryd.prog
          refine anyT_one 8 rfl (by kernel_rfl) rfl ?_
          unfold Oper.wp
          go_simp
          generalize hV : (W4.setCell ⟨g, 0, none⟩ _).setCell ⟨g, 1, none⟩ _ = V
          have hV8 : V = putRow W4 (g) 0 [.nilFunc, .nilFunc] := hV.symm
          have hbV : But (fun b => w0q.heap.size ≤ b) W4 V := by rw [hV8]; exact putRow_but (E := fun b => w0q.heap.size ≤ b) (n := g) hge _ _ _ _ (But.refl _ _)
          have pV := putRow_all [Value.nilFunc, .nilFunc] g4 rfl
          rw [← hV8] at pV
          clear hV hV8 kg fg hsf
          refine ⟨hbV, ?_⟩
          refine anyT_one 9 rfl (by kernel_rfl) rfl ?_
          unfold Oper.wp
          go_simp
          refine ⟨But.refl _ _, ?_⟩
          refine anyT_done (by kernel_rfl) ?_
          have hbl : Below w0q.heap.size w0q V := b4.trans (hbV.below b4.size (fun k hk e => by omega))
          clear ha
          go_wp2_with fail
          go_meet
          exact ⟨_, rfl, rfl, pV, hbl⟩
      · unfold Oper.wp
        go_simp
        have l4 : Later Wd (Wd.alloc (.cells #[.nilFunc, .nilFunc] 60)) := (Below.refl _ _).alloc (Nat.le_refl _) _
        have g4 := heap_alloc_new Wd (.cells #[.nilFunc, .nilFunc] 60)
        have b4 : Below w0q.heap.size w0q (Wd.alloc (.cells #[.nilFunc, .nilFunc] 60)) := bd.trans (l4.mono hz)
        refine ⟨But.of l4, ?_⟩
        have hge : w0q.heap.size ≤ Wd.heap.size := hz
        generalize Wd.alloc (.cells #[.nilFunc, .nilFunc] 60) = W4 at *
        generalize Wd.heap.size = g at *
        refine anyT_one 0 rfl (by kernel_rfl) rfl ?_
        refine wp_enter 25 #[] (by go_simp) ?_
        refine (readers_any W4).mono ?_
        rintro e W5 ⟨m, rfl, hb5, hM5⟩
        have l5 : Later W4 W5 := hb5
        have g5 := (l5.block g (Array.getElem?_eq_some_iff.1 g4).1).trans g4
        have b5 : Below w0q.heap.size w0q W5 := b4.trans (l5.mono b4.size)
        refine ⟨But.of l5, ?_⟩
        simp only [Act.put, List.setIfInBounds_toArray, List.set_cons_zero, List.set_cons_succ]
        have hlk := look_none hno hM5
        refine anyT_one 3 rfl (by kernel_rfl) rfl ?_
        unfold Oper.wp
        go_simp
        refine ⟨But.refl _ _, ?_⟩
        clear hlk
        refine anyT_val (But.pre _) 4 rfl (by kernel_rfl) (by kernel_rfl) (by kernel_rfl) (fun _ _ _ _ h => h) rfl ?_; apply Exists.intro; refine ⟨fun v1 hv1 => ?_, ?_⟩; (· (go_simp; rfl)); simp only [Act.put, List.setIfInBounds_toArray, List.set_cons_zero, List.set_cons_succ]
        refine anyT_val (But.pre _) 5 rfl (by kernel_rfl) (by kernel_rfl) (by kernel_rfl) (fun _ _ _ _ h => h) rfl ?_; apply Exists.intro; refine ⟨fun v1 hv1 => ?_, ?_⟩; (· (go_simp; rfl)); simp only [Act.put, List.setIfInBounds_toArray, List.set_cons_zero, List.set_cons_succ]
        refine anyT_val (But.pre _) 6 rfl (by kernel_rfl) (by kernel_rfl) (by kernel_rfl) (fun _ _ _ _ h => h) rfl ?_; apply Exists.intro; refine ⟨fun v1 hv1 => ?_, ?_⟩; (· (go_simp; rfl)); simp only [Act.put, List.setIfInBounds_toArray, List.set_cons_zero, List.set_cons_succ]
        have kg := block_cell g5
        have fg := block_frozen g5
        have hsf := run_store_nf Tryd.prog
        refine anyT_one 8 rfl (by kernel_rfl) rfl ?_
        unfold Oper.wp
        go_simp
        generalize hV : (W5.setCell ⟨g, 0, none⟩ _).setCell ⟨g, 1, none⟩ _ = V
        have hV8 : V = putRow W5 (g) 0 [.nilFunc, .nilFunc] := hV.symm
        have hbV : But (fun b => w0q.heap.size ≤ b) W5 V := by rw [hV8]; exact putRow_but (E := fun b => w0q.heap.size ≤ b) (n := g) hge _ _ _ _ (But.refl _ _)
        have pV := putRow_all [Value.nilFunc, .nilFunc] g5 rfl
        rw [← hV8] at pV
        clear hV hV8 kg fg hsf
        refine ⟨hbV, ?_⟩
        refine anyT_one 9 rfl (by kernel_rfl) rfl ?_
        unfold Oper.wp
        go_simp
        refine ⟨But.refl _ _, ?_⟩
        refine anyT_done (by kernel_rfl) ?_
        have hbl : Below w0q.heap.size w0q V := b5.trans (hbV.below b5.size (fun k hk e => by omega))
        clear ha
        go_wp2_with fail
        go_meet
        exact ⟨_, rfl, rfl, pV, hbl⟩
    case rest =>
      obtain ⟨g, rfl, rfl, hg, hbc⟩ := hcut
      have rX := (hbc.block _ (Array.getElem?_eq_some_iff.1 r3).1).trans r3
      have hwX := hw3.trans (hbc.mono hw3.size)
      have kX := block_cell rX
      have fX := block_frozen rX
      go_wp2_with fail
      generalize hV : ((((wc.setCell ⟨w.heap.size + 1, 0, none⟩ _).setCell ⟨w.heap.size + 1, 1, none⟩ _).setCell ⟨w.heap.size + 1, 2, none⟩ _).setCell ⟨w.heap.size + 1, 3, none⟩ _).setCell ⟨w.heap.size + 1, 4, none⟩ _ = V
      have hV8 : V = putRow wc (w.heap.size + 1) 0 [.int .u8 0, .int .u32 0, .int .u32 0, .int .u16 0, .int .u16 0] := hV.symm
      have hbV : But (fun b => b = w.heap.size + 1) wc V := by rw [hV8]; exact putRow_but (E := fun b => b = w.heap.size + 1) (n := w.heap.size + 1) rfl _ _ _ _ (But.refl _ _)
      have pV := putRow_all ([.int .u8 0, .int .u32 0, .int .u32 0, .int .u16 0, .int .u16 0] : List Value) rX rfl
      rw [← hV8] at pV
      clear hV hV8 kX fX
      have PV := block_cell pV
      have hwV : Below w.heap.size w V := hwX.trans (hbV.below hwX.size (fun k hk e => by omega))
      exact bodyPost_ret (v := .tuple #[.agg #[.int .u8 0, .int .u32 0, .int .u32 0, .int .u16 0, .int .u16 0], .int .i64 12]) (by simp [results, Tryd.results12, go_sem, PV]) rfl ⟨hwV, rfl⟩

theorem take8 (d : List Int) (h : 8 ≤ d.length) : d.take 8 = [d[0]?.getD 0, d[1]?.getD 0, d[2]?.getD 0, d[3]?.getD 0, d[4]?.getD 0, d[5]?.getD 0, d[6]?.getD 0, d[7]?.getD 0] := by
  match d, h with
  | x0 :: x1 :: x2 :: x3 :: x4 :: x5 :: x6 :: x7 :: r, _ => rfl
theorem By8 {d : List Int} (hB : Mt.By d) (h : 8 ≤ d.length) : Mt.By [d[0]?.getD 0, d[1]?.getD 0, d[2]?.getD 0, d[3]?.getD 0, d[4]?.getD 0, d[5]?.getD 0, d[6]?.getD 0, d[7]?.getD 0] := by rw [← take8 d h]; exact hB.take 8
theorem g8_0 (d : List Int) : getAt2 [d[0]?.getD 0, d[1]?.getD 0, d[2]?.getD 0, d[3]?.getD 0, d[4]?.getD 0, d[5]?.getD 0, d[6]?.getD 0, d[7]?.getD 0] 0 = wat d 0 := rfl
theorem g8_2 (d : List Int) : getAt2 [d[0]?.getD 0, d[1]?.getD 0, d[2]?.getD 0, d[3]?.getD 0, d[4]?.getD 0, d[5]?.getD 0, d[6]?.getD 0, d[7]?.getD 0] 2 = wat d 2 := rfl
theorem g8_4 (d : List Int) : getAt2 [d[0]?.getD 0, d[1]?.getD 0, d[2]?.getD 0, d[3]?.getD 0, d[4]?.getD 0, d[5]?.getD 0, d[6]?.getD 0, d[7]?.getD 0] 4 = wat d 4 := rfl
theorem g8_6 (d : List Int) : getAt2 [d[0]?.getD 0, d[1]?.getD 0, d[2]?.getD 0, d[3]?.getD 0, d[4]?.getD 0, d[5]?.getD 0, d[6]?.getD 0, d[7]?.getD 0] 6 = wat d 6 := rfl
theorem qdt_len {mz : List Int} (hB : Mt.By mz) (h : rde true mz = 0) : 8 ≤ (qdt mz).length := by
  unfold rde at h
  have hh := hl4_bd hB
  by_cases h1 : msr mz ≠ 0
  · rw [if_pos h1] at h; exact absurd h h1
  rw [if_neg h1] at h
  by_cases h2 : (mz.length : Int) < ral true mz
  · rw [if_pos h2] at h; exact absurd h (by decide)
  rw [if_neg h2] at h
  by_cases h3 : chk mz ≠ 0
  · rw [if_pos h3] at h; exact absurd h h3
  rw [if_neg h3] at h
  by_cases h4 : ral true mz - hl4 mz < 8
  · rw [if_pos ⟨rfl, h4⟩] at h; exact absurd h (by decide)
  unfold qdt
  rw [List.length_drop, List.length_take]
  omega
theorem By_qdt {mz : List Int} (hB : Mt.By mz) : Mt.By (qdt mz) := (hB.take _).drop _

theorem cf_two (args : Array Value) (w : World) : (callFunc 46 args).run Tryd.prog w = .ok (.enter 46 args) w := by kernel_rfl

theorem cf_echo (args : Array Value) (w : World) : (callFunc 49 args).run Tryd.prog w = .ok (.enter 49 args) w := by kernel_rfl

theorem cf_begin (args : Array Value) (w : World) : (callFunc 51 args).run Tryd.prog w = .ok (.enter 51 args) w := by kernel_rfl

def quv (proto : Int) (zd : List Int) : Value := otv (que proto zd) (qpr (zd.drop 8)) (wat4 (zd.drop 8) 12) (wat4 (zd.drop 8) 16) (qia (qpr (zd.drop 8)) (qdt (zd.drop 8))) (qib (qpr (zd.drop 8)) (qdt (zd.drop 8)))

set_option maxHeartbeats 2000000 in
theorem quoted_any (tos id ttl proto src dst : Int) (keep : Bool) (so sd : Value) (zd : List Int) (w : World) (hT : Tb w) (hB : Mt.By zd) (hI : Rd w.heap.size w sd zd) (hl : zd.length ≤ 140737488355328) :
    Calls Tryd.prog 12 #[.agg #[.int .u8 tos, .int .u16 id, .bool keep, .int .u8 ttl, .int .u8 proto, .int .u32 src, .int .u32 dst, so, sd]] w fun e w' => Below w.heap.size w w' ∧ e = .returned (.tuple #[quv proto zd, .int .i64 (que proto zd)]) := by
  unfold quv
  by_cases hpi : pie proto zd = 0
  · cases her : erb (zd[0]?.getD 0) with
    | false =>
      have hq : que proto zd = 12 := by unfold que; rw [if_neg (fun h => h hpi), if_pos her]
      rw [otv_no (by rw [hq]; decide)]
      exact quoted_bad tos id ttl proto src dst keep so sd zd w hT hB hI hl (.inr (.inl her))
    | true =>
      by_cases hrd : rde true (zd.drop 8) = 0
      · have h8 := qdt_len (hB.drop 8) hrd
        have hBq := By8 (By_qdt (hB.drop 8)) h8
        have hq : que proto zd = qie (qpr (zd.drop 8)) (qdt (zd.drop 8)) := by unfold que; rw [if_neg (fun h => h hpi), if_neg (by rw [her]; decide), if_neg (fun h => h hrd)]
        rw [hq]
        obtain ⟨pr, hpr⟩ : ∃ pr, (zd.drop 8)[9]?.getD 0 = pr := ⟨_, rfl⟩
        rw [show qpr (zd.drop 8) = pr from hpr]
        by_cases h6 : pr = 6
        · subst h6
          exact quoted_gen 6 (wat (qdt (zd.drop 8)) 0) (wat (qdt (zd.drop 8)) 2) 0 _ _ tos id ttl proto src dst keep so sd zd w hT hB hI hl hpi her hrd hpr h8 (fun _ _ h => look_tcp h) cf_two (fun w' hb => (ofTwo_any ((qdt (zd.drop 8))[0]?.getD 0) ((qdt (zd.drop 8))[1]?.getD 0) ((qdt (zd.drop 8))[2]?.getD 0) ((qdt (zd.drop 8))[3]?.getD 0) ((qdt (zd.drop 8))[4]?.getD 0) ((qdt (zd.drop 8))[5]?.getD 0) ((qdt (zd.drop 8))[6]?.getD 0) ((qdt (zd.drop 8))[7]?.getD 0) w' hBq).mono fun e w'' h => ⟨h.1, _, _, h.2, fun _ => ⟨g8_0 _, g8_2 _⟩⟩)
        by_cases h17 : pr = 17
        · subst h17
          exact quoted_gen 17 (wat (qdt (zd.drop 8)) 0) (wat (qdt (zd.drop 8)) 2) 0 _ _ tos id ttl proto src dst keep so sd zd w hT hB hI hl hpi her hrd hpr h8 (fun _ _ h => look_udp h) cf_two (fun w' hb => (ofTwo_any ((qdt (zd.drop 8))[0]?.getD 0) ((qdt (zd.drop 8))[1]?.getD 0) ((qdt (zd.drop 8))[2]?.getD 0) ((qdt (zd.drop 8))[3]?.getD 0) ((qdt (zd.drop 8))[4]?.getD 0) ((qdt (zd.drop 8))[5]?.getD 0) ((qdt (zd.drop 8))[6]?.getD 0) ((qdt (zd.drop 8))[7]?.getD 0) w' hBq).mono fun e w'' h => ⟨h.1, _, _, h.2, fun _ => ⟨g8_0 _, g8_2 _⟩⟩)
        by_cases h1 : pr = 1
        · subst h1
          have hqi : qie 1 (qdt (zd.drop 8)) = if ecb ((qdt (zd.drop 8))[0]?.getD 0) ((qdt (zd.drop 8))[1]?.getD 0) = true then 0 else 12 := rfl
          rw [hqi]
          refine quoted_gen 1 (wat (qdt (zd.drop 8)) 4) (wat (qdt (zd.drop 8)) 4) _ _ _ tos id ttl proto src dst keep so sd zd w hT hB hI hl hpi her hrd hpr h8 (fun _ _ h => look_icmp h) cf_echo (fun w' hb => (ofEcho_any ((qdt (zd.drop 8))[0]?.getD 0) ((qdt (zd.drop 8))[1]?.getD 0) ((qdt (zd.drop 8))[2]?.getD 0) ((qdt (zd.drop 8))[3]?.getD 0) ((qdt (zd.drop 8))[4]?.getD 0) ((qdt (zd.drop 8))[5]?.getD 0) ((qdt (zd.drop 8))[6]?.getD 0) ((qdt (zd.drop 8))[7]?.getD 0) w' hBq).mono fun e w'' h => ?_)
          rcases h with ⟨hb2, ⟨he, rfl⟩ | ⟨he, rfl⟩⟩
          · rw [if_pos he]
            exact ⟨hb2, _, _, rfl, fun _ => ⟨g8_4 _, g8_4 _⟩⟩
          · rw [if_neg (by rw [he]; decide)]
            exact ⟨hb2, _, _, rfl, fun h => absurd h (by decide)⟩
        by_cases h47 : pr = 47
        · subst h47
          have hqi : qie 47 (qdt (zd.drop 8)) = if pge 47 ((qdt (zd.drop 8)).take 8) = 4 then 4 else 0 := rfl
          rw [hqi, take8 _ h8]
          refine quoted_gen 47 0 (wat (qdt (zd.drop 8)) 6) _ _ _ tos id ttl proto src dst keep so sd zd w hT hB hI hl hpi her hrd hpr h8 (fun _ _ h => look_gre h) cf_begin (fun w' hb => (ofBegin_any ((qdt (zd.drop 8))[0]?.getD 0) ((qdt (zd.drop 8))[1]?.getD 0) ((qdt (zd.drop 8))[2]?.getD 0) ((qdt (zd.drop 8))[3]?.getD 0) ((qdt (zd.drop 8))[4]?.getD 0) ((qdt (zd.drop 8))[5]?.getD 0) ((qdt (zd.drop 8))[6]?.getD 0) ((qdt (zd.drop 8))[7]?.getD 0) w' (hT.below hb hT.pos) hBq).mono fun e w'' h => ?_)
          rcases h with ⟨hb2, ⟨he, rfl⟩ | ⟨he, rfl⟩⟩
          · rw [if_pos he]
            exact ⟨hb2, _, _, rfl, fun h => absurd h (by decide)⟩
          · rw [if_neg he]
            exact ⟨hb2, _, _, rfl, fun _ => ⟨rfl, g8_6 _⟩⟩
        have hqi : qie pr (qdt (zd.drop 8)) = 12 := by unfold qie; rw [if_neg h6, if_neg h17, if_neg h1, if_neg h47]
        rw [hqi, otv_no (show (12 : Int) ≠ 0 by decide)]
        exact quoted_other pr tos id ttl proto src dst keep so sd zd w hT hB hI hl hpi her hrd hpr h8 ⟨h6, h17, h1, h47⟩
      · have hq : que proto zd = rde true (zd.drop 8) := by unfold que; rw [if_neg (fun h => h hpi), if_neg (by rw [her]; decide), if_pos hrd]
        rw [otv_no (by rw [hq]; exact hrd)]
        exact quoted_bad tos id ttl proto src dst keep so sd zd w hT hB hI hl (.inr (.inr hrd))
  · have hq : que proto zd = pie proto zd := if_pos hpi
    rw [otv_no (by rw [hq]; exact hpi)]
    exact quoted_bad tos id ttl proto src dst keep so sd zd w hT hB hI hl (.inl hpi)
end Go.Proofs.YtojoaidnkljcpaaDoor

/- The document's read of bytes. -/
namespace Go.Proofs.YtojoaidnkljcpaaDoor
open Go.RowKit Go.Shelf
set_option maxRecDepth 100000
set_option linter.unusedVariables false
set_option linter.unusedSimpArgs false

theorem rget16_rd {n₀ : Nat} (sv : Value) (zs : List Int) (hB : Mt.By zs) (p : Nat) (h : p + 1 < zs.length) (hl : zs.length ≤ 140737488355328) (w : World) (hI : Rd n₀ w sv zs) :
    Calls Tryd.prog 53 #[sv, .int .i64 p] w fun e w' => e = .returned (.int .u16 (wat zs p)) ∧ Later w w' := by
  refine (rget16_at sv zs hB p (by omega) hl w hI).mono ?_
  rintro e w' ⟨rfl, q, rfl⟩
  refine ⟨?_, below_draw (Later.refl w) q⟩
  unfold getAt2
  rw [if_pos (by omega), Int.toNat_natCast]
theorem rget32_rd {n₀ : Nat} (sv : Value) (zs : List Int) (hB : Mt.By zs) (p : Nat) (h : p + 3 < zs.length) (hl : zs.length ≤ 140737488355328) (w : World) (hI : Rd n₀ w sv zs) :
    Calls Tryd.prog 54 #[sv, .int .i64 p] w fun e w' => e = .returned (.int .u32 (wat4 zs p)) ∧ Later w w' := by
  refine (rget32_at sv zs hB p (by omega) hl w hI).mono ?_
  rintro e w' ⟨rfl, q, rfl⟩
  refine ⟨?_, below_draw (Later.refl w) q⟩
  unfold getAt4
  rw [if_pos (by omega), Int.toNat_natCast]

theorem res_rread (tm : Array Value) (pb : Nat) (c : Int) (v0 v1 v2 v3 v4 v5 v6 v7 v8 : Value) (w : World) (h4 : tm[4]? = some (.pointer (some ⟨pb, 0, none⟩))) (h5 : tm[5]? = some (.int .i64 c))
    (hp : w.heap[pb]? = some (.cells #[v0, v1, v2, v3, v4, v5, v6, v7, v8] 26 (0, 0))) :
    (results Tryd.f78 tm).run Tryd.prog w = .ok (.tuple #[.agg #[v0, v1, v2, v3, v4, v5, v6, v7, v8], .int .i64 c]) w := by
  have kP := block_cell hp
  simp [results, Tryd.results78, go_sem, h4, h5, kP]

theorem rexit {R : Ending → World → Prop} (tm : Array Value) (pb : Nat) (c : Int) (V : World) (h4 : tm[4]? = some (.pointer (some ⟨pb, 0, none⟩))) (h5 : tm[5]? = some (.int .i64 c)) (hV : V.heap[pb]? = some (.cells zc.toArray 26 (0, 0)))
    (hR : R (.returned (.tuple #[.agg zc.toArray, .int .i64 c])) V) : bodyPost Tryd.prog Tryd.f78 R .ret { tmps := tm, defers := [] } V :=
  bodyPost_ret (res_rread tm pb c _ _ _ _ _ _ _ _ _ V h4 h5 hV) rfl hR

set_option maxHeartbeats 8000000 in
theorem rread_any (q : Bool) (sv : Value) (zs : List Int) (w : World) (hB : Mt.By zs) (hl : zs.length ≤ 140737488355328) (hI : Rd w.heap.size w sv zs) :
    Calls Tryd.prog 78 #[sv, .bool q] w fun e w' => Below w.heap.size w w' ∧
      ((rde q zs ≠ 0 ∧ e = .returned (.tuple #[.agg zc.toArray, .int .i64 (rde q zs)])) ∨
       (rde q zs = 0 ∧ ∃ so sd, e = .returned (.tuple #[pkt zs so sd, .int .i64 0]) ∧ Ow w.heap.size w' so ((zs.take (hl4 zs).toNat).drop 20) ∧ Ow w.heap.size w' sd ((zs.take (ral q zs).toNat).drop (hl4 zs).toNat))) := by
  obtain ⟨i0, hi, hz0, hz1, hz2⟩ := info_parts info_u8
  obtain ⟨a, cap, rfl, hl1, hm1⟩ := hI.slice
  have hb1 : Below w.heap.size w (w.alloc (.cells zc.toArray 26)) := (Below.refl _ _).alloc (Nat.le_refl _) _
  have p1 := heap_alloc_new w (.cells zc.toArray 26)
  have s1 : (w.alloc (.cells zc.toArray 26)).heap.size = w.heap.size + 1 := by simp
  have HM : Hid (rde q zs = if msr zs ≠ 0 then msr zs else if (zs.length : Int) < ral q zs then 3 else if chk zs ≠ 0 then chk zs else if q = true ∧ ral q zs - hl4 zs < 8 then 3 else 0) := rfl
  go_enter Tryd.func78, Tryd.ntmps78
  by_cases h1 : zs.length < 20
  · have t1 : (zs.length : Int) < 20 := by omega
    have HR : Hid (rde q zs = 3) := by show _ = _; unfold rde; rw [show msr zs = 3 from by unfold msr; rw [if_pos h1]]; rfl
    have P2 := block_cell p1
    have F2 := block_frozen p1
    go_wp2_with fail
    exact rexit _ w.heap.size 3 _ rfl rfl p1 ⟨hb1, .inl (by rw [HR.out]; exact ⟨by omega, rfl⟩)⟩

  have t1 : ¬ (zs.length : Int) < 20 := by omega
  obtain ⟨b, off, cap', e', _, _, hb, hc⟩ := hI.cells (by omega)
  cases e'
  have d0 : (w.alloc (.cells zc.toArray 26)).cell? ⟨b, off, none⟩ = some (.int .u8 (zs[0]?.getD 0)) := (hb1.cell (p := ⟨b, off, none⟩) hb).trans (by have := hc 0 (by omega); rwa [Nat.add_zero] at this)
  have b0 := hB.at 0
  have hlz : (0 : Int) < zs.length := by omega
  by_cases h2 : zs[0]?.getD 0 / 16 ≠ 4
  · have t2 : (zs[0]?.getD 0 / 16 != 4) = true := by simpa using h2
    have HR : Hid (rde q zs = 6) := by show _ = _; unfold rde; rw [show msr zs = 6 from by unfold msr; rw [if_neg h1, if_pos h2]]; rfl
    have P2 := block_cell p1
    have F2 := block_frozen p1
    go_wp2_with fail
    exact rexit _ w.heap.size 6 _ rfl rfl p1 ⟨hb1, .inl (by rw [HR.out]; exact ⟨by omega, rfl⟩)⟩

  have t2 : (zs[0]?.getD 0 / 16 != 4) = false := by simpa using h2
  have HH : hl4 zs = zs[0]?.getD 0 % 16 * 4 := rfl
  have hh := hl4_bd hB
  by_cases h3 : hl4 zs < 20
  · have t3 : zs[0]?.getD 0 % 16 * 4 < 20 := by rw [← HH]; exact h3
    have HR : Hid (rde q zs = 4) := by show _ = _; unfold rde; rw [show msr zs = 4 from by unfold msr; rw [if_neg h1, if_neg h2, if_pos h3]]; rfl
    have P2 := block_cell p1
    have F2 := block_frozen p1
    go_wp2_with fail
    exact rexit _ w.heap.size 4 _ rfl rfl p1 ⟨hb1, .inl (by rw [HR.out]; exact ⟨by omega, rfl⟩)⟩

  have t3 : ¬ zs[0]?.getD 0 % 16 * 4 < 20 := by rw [← HH]; exact h3
  by_cases h4 : (zs.length : Int) < hl4 zs
  · have t4 : (zs.length : Int) < zs[0]?.getD 0 % 16 * 4 := by rw [← HH]; exact h4
    have HR : Hid (rde q zs = 3) := by show _ = _; unfold rde; rw [show msr zs = 3 from by unfold msr; rw [if_neg h1, if_neg h2, if_neg h3, if_pos h4]]; rfl
    have P2 := block_cell p1
    have F2 := block_frozen p1
    go_wp2_with fail
    exact rexit _ w.heap.size 3 _ rfl rfl p1 ⟨hb1, .inl (by rw [HR.out]; exact ⟨by omega, rfl⟩)⟩

  have t4 : ¬ (zs.length : Int) < zs[0]?.getD 0 % 16 * 4 := by rw [← HH]; exact h4
  go_wp2_with fail
  clear d0
  refine (rget16_rd _ zs hB 2 (by omega) hl _ ((hI.below hb1).mono (Nat.le_succ _))).mono ?_
  rintro e w2 ⟨rfl, hl2⟩
  obtain ⟨k, hk⟩ := Int.eq_ofNat_of_zero_le (show 0 ≤ zs[0]?.getD 0 % 16 * 4 by omega)
  have HK : Hid (hl4 zs = (k : Int)) := by show _ = _; rw [HH]; exact hk
  rw [hk] at t3 t4 ⊢
  have hkl : 20 ≤ k ∧ k ≤ zs.length := by omega
  have hkc : k ≤ cap := by omega
  have hn2 := wat_bd hB 2
  have z2 := hl2.size
  have HM2 : ∀ x, msr zs = x → Hid (msr zs = x) := fun _ h => h
  by_cases h5 : wat zs 2 < hl4 zs
  · have t5 : wat zs 2 < (k : Int) := by omega
    have HR : Hid (rde q zs = 4) := by show _ = _; unfold rde; rw [show msr zs = 4 from by unfold msr; rw [if_neg h1, if_neg h2, if_neg (by omega), if_neg (by omega), if_pos h5]]; rfl
    have pk := ((hl2).block w.heap.size (by omega)).trans p1
    have Pk := block_cell pk
    have Fk := block_frozen pk
    go_wp2_with fail
    clear Pk Fk
    generalize hV : ((((((((w2.setCell ⟨w.heap.size, 0, none⟩ _).setCell ⟨w.heap.size, 1, none⟩ _).setCell ⟨w.heap.size, 2, none⟩ _).setCell ⟨w.heap.size, 3, none⟩ _).setCell ⟨w.heap.size, 4, none⟩ _).setCell ⟨w.heap.size, 5, none⟩ _).setCell ⟨w.heap.size, 6, none⟩ _).setCell ⟨w.heap.size, 7, none⟩ _).setCell ⟨w.heap.size, 8, none⟩ _ = V
    have hV9 : V = putRow w2 w.heap.size 0 zc := hV.symm
    have hb8 : But (fun b => b = w.heap.size) w2 V := by rw [hV9]; exact putRow_but (E := fun b => b = w.heap.size) (n := w.heap.size) rfl _ _ _ _ (But.refl _ _)
    have p8 := putRow_all zc pk rfl
    rw [← hV9] at p8
    exact rexit _ w.heap.size 4 _ rfl rfl p8 ⟨(hb1.trans ((hl2).mono (by omega))).trans (hb8.below (Nat.le_trans (by omega) (hl2).size) (fun j h e => by omega)), .inl (by rw [HR.out]; exact ⟨by omega, rfl⟩)⟩

  have t5 : ¬ wat zs 2 < (k : Int) := by omega
  have hm0 : Hid (msr zs = 0) := by show _ = _; unfold msr; rw [if_neg h1, if_neg h2, if_neg (by omega), if_neg (by omega), if_neg (by omega)]
  cases q
  · by_cases h6 : (zs.length : Int) < wat zs 2
    · have HR : Hid (rde false zs = 3) := by show _ = _; unfold rde; rw [hm0.out, if_neg (by simp), if_pos (by simpa [ral] using h6)]
      have pk := ((hl2).block w.heap.size (by omega)).trans p1
      have Pk := block_cell pk
      have Fk := block_frozen pk
      go_wp2_with fail
      clear Pk Fk
      generalize hV : ((((((((w2.setCell ⟨w.heap.size, 0, none⟩ _).setCell ⟨w.heap.size, 1, none⟩ _).setCell ⟨w.heap.size, 2, none⟩ _).setCell ⟨w.heap.size, 3, none⟩ _).setCell ⟨w.heap.size, 4, none⟩ _).setCell ⟨w.heap.size, 5, none⟩ _).setCell ⟨w.heap.size, 6, none⟩ _).setCell ⟨w.heap.size, 7, none⟩ _).setCell ⟨w.heap.size, 8, none⟩ _ = V
      have hV9 : V = putRow w2 w.heap.size 0 zc := hV.symm
      have hb8 : But (fun b => b = w.heap.size) w2 V := by rw [hV9]; exact putRow_but (E := fun b => b = w.heap.size) (n := w.heap.size) rfl _ _ _ _ (But.refl _ _)
      have p8 := putRow_all zc pk rfl
      rw [← hV9] at p8
      exact rexit _ w.heap.size 3 _ rfl rfl p8 ⟨(hb1.trans ((hl2).mono (by omega))).trans (hb8.below (Nat.le_trans (by omega) (hl2).size) (fun j h e => by omega)), .inl (by rw [HR.out]; exact ⟨by omega, rfl⟩)⟩

    go_wp2_with fail
    refine (rgood_any _ (zs.take k) (hB.take _) (by simp; omega) w2 (((hI.take k (by omega)).below (hb1.trans (hl2.mono (by omega)))).mono (by omega))).mono ?_
    rintro e w3 ⟨rfl, hl3⟩
    have hL3 : Later _ w3 := hl2.trans hl3
    have z3 := hL3.size
    cases hg : (Mt.cks (zs.take k) == 0)
    · have hc5 : chk zs = 5 := by unfold chk; rw [HK.out, Int.toNat_natCast, if_pos (by simpa using hg)]
      have HR : Hid (rde false zs = 5) := by show _ = _; unfold rde; rw [hm0.out, if_neg (by simp), if_neg (by simp [ral]; omega), hc5]; rfl
      clear hc5
      have pk := ((hL3).block w.heap.size (by omega)).trans p1
      have Pk := block_cell pk
      have Fk := block_frozen pk
      go_wp2_with fail
      clear Pk Fk
      generalize hV : ((((((((w3.setCell ⟨w.heap.size, 0, none⟩ _).setCell ⟨w.heap.size, 1, none⟩ _).setCell ⟨w.heap.size, 2, none⟩ _).setCell ⟨w.heap.size, 3, none⟩ _).setCell ⟨w.heap.size, 4, none⟩ _).setCell ⟨w.heap.size, 5, none⟩ _).setCell ⟨w.heap.size, 6, none⟩ _).setCell ⟨w.heap.size, 7, none⟩ _).setCell ⟨w.heap.size, 8, none⟩ _ = V
      have hV9 : V = putRow w3 w.heap.size 0 zc := hV.symm
      have hb8 : But (fun b => b = w.heap.size) w3 V := by rw [hV9]; exact putRow_but (E := fun b => b = w.heap.size) (n := w.heap.size) rfl _ _ _ _ (But.refl _ _)
      have p8 := putRow_all zc pk rfl
      rw [← hV9] at p8
      exact rexit _ w.heap.size 5 _ rfl rfl p8 ⟨(hb1.trans ((hL3).mono (by omega))).trans (hb8.below (Nat.le_trans (by omega) (hL3).size) (fun j h e => by omega)), .inl (by rw [HR.out]; exact ⟨by omega, rfl⟩)⟩

    have hg0 : Mt.cks (zs.take k) = 0 := by simpa using hg
    have Hg := hide hg0
    clear hg hg0
    go_wp2_with fail
    refine (rget16_rd _ zs hB 6 (by omega) hl w3 (hI.below (hb1.trans (hL3.mono (by omega))))).mono ?_
    rintro e w4 ⟨rfl, hl4'⟩
    have hL4 : Later _ w4 := hL3.trans hl4'
    have z4 := hL4.size
    have hff := wat_bd hB 6
    by_cases h7 : wat zs 6 % 16384 ≠ 0
    · have t7 : (wat zs 6 % 16384 != 0) = true := by simpa using h7
      have hc5 : chk zs = 7 := by unfold chk; rw [HK.out, Int.toNat_natCast, if_neg (by simp [Hg.out]), if_pos h7]
      have HR : Hid (rde false zs = 7) := by show _ = _; unfold rde; rw [hm0.out, if_neg (by simp), if_neg (by simp [ral]; omega), hc5]; rfl
      clear hc5
      have pk := ((hL4).block w.heap.size (by omega)).trans p1
      have Pk := block_cell pk
      have Fk := block_frozen pk
      go_wp2_with fail
      clear Pk Fk
      generalize hV : ((((((((w4.setCell ⟨w.heap.size, 0, none⟩ _).setCell ⟨w.heap.size, 1, none⟩ _).setCell ⟨w.heap.size, 2, none⟩ _).setCell ⟨w.heap.size, 3, none⟩ _).setCell ⟨w.heap.size, 4, none⟩ _).setCell ⟨w.heap.size, 5, none⟩ _).setCell ⟨w.heap.size, 6, none⟩ _).setCell ⟨w.heap.size, 7, none⟩ _).setCell ⟨w.heap.size, 8, none⟩ _ = V
      have hV9 : V = putRow w4 w.heap.size 0 zc := hV.symm
      have hb8 : But (fun b => b = w.heap.size) w4 V := by rw [hV9]; exact putRow_but (E := fun b => b = w.heap.size) (n := w.heap.size) rfl _ _ _ _ (But.refl _ _)
      have p8 := putRow_all zc pk rfl
      rw [← hV9] at p8
      exact rexit _ w.heap.size 7 _ rfl rfl p8 ⟨(hb1.trans ((hL4).mono (by omega))).trans (hb8.below (Nat.le_trans (by omega) (hL4).size) (fun j h e => by omega)), .inl (by rw [HR.out]; exact ⟨by omega, rfl⟩)⟩

    have t7 : (wat zs 6 % 16384 != 0) = false := by simpa using h7
    by_cases h8 : 32768 ≤ wat zs 6
    · have hc5 : chk zs = 4 := by unfold chk; rw [HK.out, Int.toNat_natCast, if_neg (by simp [Hg.out]), if_neg h7, if_pos h8]
      have HR : Hid (rde false zs = 4) := by show _ = _; unfold rde; rw [hm0.out, if_neg (by simp), if_neg (by simp [ral]; omega), hc5]; rfl
      clear hc5
      have pk := ((hL4).block w.heap.size (by omega)).trans p1
      have Pk := block_cell pk
      have Fk := block_frozen pk
      go_wp2_with fail
      clear Pk Fk
      generalize hV : ((((((((w4.setCell ⟨w.heap.size, 0, none⟩ _).setCell ⟨w.heap.size, 1, none⟩ _).setCell ⟨w.heap.size, 2, none⟩ _).setCell ⟨w.heap.size, 3, none⟩ _).setCell ⟨w.heap.size, 4, none⟩ _).setCell ⟨w.heap.size, 5, none⟩ _).setCell ⟨w.heap.size, 6, none⟩ _).setCell ⟨w.heap.size, 7, none⟩ _).setCell ⟨w.heap.size, 8, none⟩ _ = V
      have hV9 : V = putRow w4 w.heap.size 0 zc := hV.symm
      have hb8 : But (fun b => b = w.heap.size) w4 V := by rw [hV9]; exact putRow_but (E := fun b => b = w.heap.size) (n := w.heap.size) rfl _ _ _ _ (But.refl _ _)
      have p8 := putRow_all zc pk rfl
      rw [← hV9] at p8
      exact rexit _ w.heap.size 4 _ rfl rfl p8 ⟨(hb1.trans ((hL4).mono (by omega))).trans (hb8.below (Nat.le_trans (by omega) (hL4).size) (fun j h e => by omega)), .inl (by rw [HR.out]; exact ⟨by omega, rfl⟩)⟩

    have hc0 : Hid (chk zs = 0) := by show _ = _; unfold chk; rw [HK.out, Int.toNat_natCast, if_neg (by simp [Hg.out]), if_neg h7, if_neg h8]

    have HR : Hid (rde false zs = 0) := by show _ = _; unfold rde; rw [hm0.out, if_neg (by simp), if_neg (by simp [ral]; omega), hc0.out, if_neg (by simp), if_neg (by simp)]

    go_wp2_with fail
    obtain ⟨n, hn⟩ := Int.eq_ofNat_of_zero_le (show 0 ≤ wat zs 2 by omega)
    have hkn : 20 ≤ k ∧ k ≤ n ∧ n ≤ zs.length := by omega
    have HN : Hid (ral false zs = n) := by show _ = _; simp [ral]; omega
    have Hn := hide hn
    rw [hn]
    clear hn

    have d1 := hc 1 (by omega)
    have d8 := hc 8 (by omega)
    have d9 := hc 9 (by omega)
    have hbw4 := hb1.trans (hL4.mono (by omega))
    generalize gz1 : zs[1]?.getD 0 = z1 at *
    generalize gz8 : zs[8]?.getD 0 = z8 at *
    generalize gz9 : zs[9]?.getD 0 = z9 at *
    have G1 := hide gz1
    have G8 := hide gz8
    have G9 := hide gz9
    clear gz1 gz8 gz9
    have i1 : (1 : Int) < zs.length := by omega
    have i8 : (8 : Int) < zs.length := by omega
    have i9 : (9 : Int) < zs.length := by omega
    refine anyR_begin (R := KI w4.heap.size 26 9 (List.toArray [.int .u8 z1, .int .u16 (wat zs 4), .bool (decide (16384 ≤ wat zs 6)), .int .u8 z8, .int .u8 z9, .int .u32 (wat4 zs 12), .int .u32 (wat4 zs 16), .slice none 0 0, .slice none 0 0])) (KI.pre _ _ _ _) (fun w => KI.of (Later.drew w)) 20 rfl (by kernel_rfl) (fun W5 hW5 => ?_)
    have hbel : ∀ w1, KI w4.heap.size 26 9 (List.toArray [.int .u8 z1, .int .u16 (wat zs 4), .bool (decide (16384 ≤ wat zs 6)), .int .u8 z8, .int .u8 z9, .int .u32 (wat4 zs 12), .int .u32 (wat4 zs 16), .slice none 0 0, .slice none 0 0]) W5 w1 → Below w.heap.size w w1 := fun w1 h => hbw4.trans (((hW5.trans h).1.below (Nat.le_refl _) (fun k hk e => by omega)).mono (by omega))
    have hr1 : ∀ w1, KI w4.heap.size 26 9 (List.toArray [.int .u8 z1, .int .u16 (wat zs 4), .bool (decide (16384 ≤ wat zs 6)), .int .u8 z8, .int .u8 z9, .int .u32 (wat4 zs 12), .int .u32 (wat4 zs 16), .slice none 0 0, .slice none 0 0]) W5 w1 → Rd w.heap.size w1 (.slice (some ⟨b, off, none⟩) zs.length cap) zs := fun w1 h => hI.below (hbel w1 h)
    have e1 : ∀ w1, KI w4.heap.size 26 9 (List.toArray [.int .u8 z1, .int .u16 (wat zs 4), .bool (decide (16384 ≤ wat zs 6)), .int .u8 z8, .int .u8 z9, .int .u32 (wat4 zs 12), .int .u32 (wat4 zs 16), .slice none 0 0, .slice none 0 0]) W5 w1 → w1.cell? ⟨b, off + 1, none⟩ = some (.int .u8 z1) := fun w1 h => ((hbel w1 h).cell (p := ⟨b, off + 1, none⟩) hb).trans d1
    have e8 : ∀ w1, KI w4.heap.size 26 9 (List.toArray [.int .u8 z1, .int .u16 (wat zs 4), .bool (decide (16384 ≤ wat zs 6)), .int .u8 z8, .int .u8 z9, .int .u32 (wat4 zs 12), .int .u32 (wat4 zs 16), .slice none 0 0, .slice none 0 0]) W5 w1 → w1.cell? ⟨b, off + 8, none⟩ = some (.int .u8 z8) := fun w1 h => ((hbel w1 h).cell (p := ⟨b, off + 8, none⟩) hb).trans d8
    have e9 : ∀ w1, KI w4.heap.size 26 9 (List.toArray [.int .u8 z1, .int .u16 (wat zs 4), .bool (decide (16384 ≤ wat zs 6)), .int .u8 z8, .int .u8 z9, .int .u32 (wat4 zs 12), .int .u32 (wat4 zs 16), .slice none 0 0, .slice none 0 0]) W5 w1 → w1.cell? ⟨b, off + 9, none⟩ = some (.int .u8 z9) := fun w1 h => ((hbel w1 h).cell (p := ⟨b, off + 9, none⟩) hb).trans d9
    clear d1 d8 d9
    refine anyR_val (KI.pre _ _ _ _) 0 rfl (by kernel_rfl) (by kernel_rfl) (by kernel_rfl) (fun _ _ _ _ h => h) rfl ?_; apply Exists.intro; refine ⟨fun w1 hw1 => ?_, ?_⟩; (· (go_simp; rfl)); simp only [Act.put, List.setIfInBounds_toArray, List.set_cons_zero, List.set_cons_succ]
    refine anyR_val (KI.pre _ _ _ _) 1 rfl (by kernel_rfl) (by kernel_rfl) (by kernel_rfl) (fun _ _ _ _ h => h) rfl ?_; apply Exists.intro; refine ⟨fun w1 hw1 => ?_, ?_⟩; (· (go_simp; rfl)); simp only [Act.put, List.setIfInBounds_toArray, List.set_cons_zero, List.set_cons_succ]
    refine anyR_val (KI.pre _ _ _ _) 2 rfl (by kernel_rfl) (by kernel_rfl) (by kernel_rfl) (fun _ _ _ _ h => h) rfl ?_; apply Exists.intro; refine ⟨fun w1 hw1 => ?_, ?_⟩; (· (go_simp; rfl)); simp only [Act.put, List.setIfInBounds_toArray, List.set_cons_zero, List.set_cons_succ]
    refine anyR_val (KI.pre _ _ _ _) 3 rfl (by kernel_rfl) (by kernel_rfl) (by kernel_rfl) (fun _ _ _ _ h => h) rfl ?_; apply Exists.intro; refine ⟨fun w1 hw1 => ?_, ?_⟩; (· (go_simp; rfl)); simp only [Act.put, List.setIfInBounds_toArray, List.set_cons_zero, List.set_cons_succ]
    refine anyR_take (KI.pre _ _ _ _) 4 (.int .u16 (wat zs 4)) rfl (by kernel_rfl) (by kernel_rfl) (by kernel_rfl) (fun _ _ _ h => h) rfl (fun w1 hw1 => goes_call 53 #[.slice (some ⟨b, off, none⟩) zs.length cap, .int .i64 4] (by go_simp) ?_) ?_
    · exact (rget16_rd _ zs hB 4 (by omega) hl w1 (hr1 w1 hw1)).mono fun e w' ⟨he, hw⟩ => ⟨he, KI.of hw⟩
    simp only [Act.put, List.setIfInBounds_toArray, List.set_cons_zero, List.set_cons_succ]
    refine anyR_val (KI.pre _ _ _ _) 5 rfl (by kernel_rfl) (by kernel_rfl) (by kernel_rfl) (fun _ _ _ _ h => h) rfl ?_; apply Exists.intro; refine ⟨fun w1 hw1 => ?_, ?_⟩; (· (go_simp; rfl)); simp only [Act.put, List.setIfInBounds_toArray, List.set_cons_zero, List.set_cons_succ]
    refine anyR_val (KI.pre _ _ _ _) 6 rfl (by kernel_rfl) (by kernel_rfl) (by kernel_rfl) (fun _ _ _ _ h => h) rfl ?_; apply Exists.intro; refine ⟨fun w1 hw1 => ?_, ?_⟩; (· (go_simp; rfl)); simp only [Act.put, List.setIfInBounds_toArray, List.set_cons_zero, List.set_cons_succ]
    refine anyR_val (KI.pre _ _ _ _) 7 rfl (by kernel_rfl) (by kernel_rfl) (by kernel_rfl) (fun _ _ _ _ h => h) rfl ?_; apply Exists.intro; refine ⟨fun w1 hw1 => ?_, ?_⟩; (· (go_simp; rfl)); simp only [Act.put, List.setIfInBounds_toArray, List.set_cons_zero, List.set_cons_succ]
    refine anyR_val (KI.pre _ _ _ _) 8 rfl (by kernel_rfl) (by kernel_rfl) (by kernel_rfl) (fun _ _ _ _ h => h) rfl ?_; apply Exists.intro; refine ⟨fun w1 hw1 => ?_, ?_⟩; (· (go_simp; rfl)); simp only [Act.put, List.setIfInBounds_toArray, List.set_cons_zero, List.set_cons_succ]
    refine anyR_val (KI.pre _ _ _ _) 9 rfl (by kernel_rfl) (by kernel_rfl) (by kernel_rfl) (fun _ _ _ _ h => h) rfl ?_; apply Exists.intro; refine ⟨fun w1 hw1 => ?_, ?_⟩; (· (go_simp; rfl)); simp only [Act.put, List.setIfInBounds_toArray, List.set_cons_zero, List.set_cons_succ]
    refine anyR_val (KI.pre _ _ _ _) 10 rfl (by kernel_rfl) (by kernel_rfl) (by kernel_rfl) (fun _ _ _ _ h => h) rfl ?_; apply Exists.intro; refine ⟨fun w1 hw1 => ?_, ?_⟩; (· (go_simp; rfl)); simp only [Act.put, List.setIfInBounds_toArray, List.set_cons_zero, List.set_cons_succ]
    refine anyR_val (KI.pre _ _ _ _) 11 rfl (by kernel_rfl) (by kernel_rfl) (by kernel_rfl) (fun _ _ _ _ h => h) rfl ?_; apply Exists.intro; refine ⟨fun w1 hw1 => ?_, ?_⟩; (· (go_simp; rfl)); simp only [Act.put, List.setIfInBounds_toArray, List.set_cons_zero, List.set_cons_succ]
    refine anyR_val (KI.pre _ _ _ _) 12 rfl (by kernel_rfl) (by kernel_rfl) (by kernel_rfl) (fun _ _ _ _ h => h) rfl ?_; apply Exists.intro; refine ⟨fun w1 hw1 => ?_, ?_⟩; (· (go_simp; rfl)); simp only [Act.put, List.setIfInBounds_toArray, List.set_cons_zero, List.set_cons_succ]
    refine anyR_val (KI.pre _ _ _ _) 13 rfl (by kernel_rfl) (by kernel_rfl) (by kernel_rfl) (fun _ _ _ _ h => h) rfl ?_; apply Exists.intro; refine ⟨fun w1 hw1 => ?_, ?_⟩; (· (go_simp; rfl)); simp only [Act.put, List.setIfInBounds_toArray, List.set_cons_zero, List.set_cons_succ]
    refine anyR_take (KI.pre _ _ _ _) 14 (.int .u32 (wat4 zs 12)) rfl (by kernel_rfl) (by kernel_rfl) (by kernel_rfl) (fun _ _ _ h => h) rfl (fun w1 hw1 => goes_call 54 #[.slice (some ⟨b, off, none⟩) zs.length cap, .int .i64 12] (by go_simp) ?_) ?_
    · exact (rget32_rd _ zs hB 12 (by omega) hl w1 (hr1 w1 hw1)).mono fun e w' ⟨he, hw⟩ => ⟨he, KI.of hw⟩
    simp only [Act.put, List.setIfInBounds_toArray, List.set_cons_zero, List.set_cons_succ]
    refine anyR_val (KI.pre _ _ _ _) 15 rfl (by kernel_rfl) (by kernel_rfl) (by kernel_rfl) (fun _ _ _ _ h => h) rfl ?_; apply Exists.intro; refine ⟨fun w1 hw1 => ?_, ?_⟩; (· (go_simp; rfl)); simp only [Act.put, List.setIfInBounds_toArray, List.set_cons_zero, List.set_cons_succ]
    refine anyR_take (KI.pre _ _ _ _) 16 (.int .u32 (wat4 zs 16)) rfl (by kernel_rfl) (by kernel_rfl) (by kernel_rfl) (fun _ _ _ h => h) rfl (fun w1 hw1 => goes_call 54 #[.slice (some ⟨b, off, none⟩) zs.length cap, .int .i64 16] (by go_simp) ?_) ?_
    · exact (rget32_rd _ zs hB 16 (by omega) hl w1 (hr1 w1 hw1)).mono fun e w' ⟨he, hw⟩ => ⟨he, KI.of hw⟩
    simp only [Act.put, List.setIfInBounds_toArray, List.set_cons_zero, List.set_cons_succ]
    refine anyR_val (KI.pre _ _ _ _) 17 rfl (by kernel_rfl) (by kernel_rfl) (by kernel_rfl) (fun _ _ _ _ h => h) rfl ?_; apply Exists.intro; refine ⟨fun w1 hw1 => ?_, ?_⟩; (· (go_simp; rfl)); simp only [Act.put, List.setIfInBounds_toArray, List.set_cons_zero, List.set_cons_succ]

    refine anyR_one 18 rfl (by kernel_rfl) rfl (fun W6 hW6 => ?_)
    have hs6 : w4.heap.size ≤ W6.heap.size := (hW5.trans hW6).1.size
    unfold Oper.wp
    go_simp
    refine ⟨KI.of ((Below.refl _ _).alloc (Nat.le_refl _) _), ?_⟩
    refine anyR_one 19 rfl (by kernel_rfl) rfl (fun W7 hW7 => ?_)
    have hwr : Wr W6.heap.size 9 26 W7 := hW7.2.1 _ ⟨_, heap_alloc_new W6 _, rfl⟩
    have hst := KI.store (n₁ := w4.heap.size) [.int .u8 z1, .int .u16 (wat zs 4), .bool (decide (16384 ≤ wat zs 6)), .int .u8 z8, .int .u8 z9, .int .u32 (wat4 zs 12), .int .u32 (wat4 zs 16), .slice none 0 0, .slice none 0 0] hs6 hwr rfl
    obtain ⟨cur, hcur, hsz⟩ := hwr
    have k7 := block_cell hcur
    have f7 := block_frozen hcur
    have HS := hide hst
    clear hst
    unfold Oper.wp
    go_simp
    generalize hV : ((((((((W7.setCell ⟨W6.heap.size, 0, none⟩ _).setCell ⟨W6.heap.size, 1, none⟩ _).setCell ⟨W6.heap.size, 2, none⟩ _).setCell ⟨W6.heap.size, 3, none⟩ _).setCell ⟨W6.heap.size, 4, none⟩ _).setCell ⟨W6.heap.size, 5, none⟩ _).setCell ⟨W6.heap.size, 6, none⟩ _).setCell ⟨W6.heap.size, 7, none⟩ _).setCell ⟨W6.heap.size, 8, none⟩ _ = V
    have hV9 : V = putRow W7 W6.heap.size 0 [.int .u8 z1, .int .u16 (wat zs 4), .bool (decide (16384 ≤ wat zs 6)), .int .u8 z8, .int .u8 z9, .int .u32 (wat4 zs 12), .int .u32 (wat4 zs 16), .slice none 0 0, .slice none 0 0] := hV.symm
    have hst := HS.out
    rw [← hV9] at hst
    clear hV hV9 HS k7 f7
    refine ⟨hst.1, anyR_done (by kernel_rfl) (fun W8 hW8 => ?_)⟩
    have p8 := hW8.2.2 _ hst.2
    have hwW8 : Below w.heap.size w W8 := hbel W8 (((hW6.trans (KI.of ((Below.refl _ _).alloc (Nat.le_refl _) _))).trans hW7).trans (hst.1.trans hW8))
    have hq8 : w.heap.size < W6.heap.size := by omega
    have pw8 : Wr w.heap.size 9 26 W8 := hW8.2.1 _ (hst.1.2.1 _ (hW7.2.1 _ ((KI.of ((Below.refl W6.heap.size W6).alloc (Nat.le_refl _) _) : KI w4.heap.size 26 9 (List.toArray [.int .u8 z1, .int .u16 (wat zs 4), .bool (decide (16384 ≤ wat zs 6)), .int .u8 z8, .int .u8 z9, .int .u32 (wat4 zs 12), .int .u32 (wat4 zs 16), .slice none 0 0, .slice none 0 0]) W6 _).2.1 _ (hW6.2.1 _ (hW5.2.1 _ ⟨_, (hL4.block w.heap.size (by omega)).trans p1, rfl⟩)))))
    generalize W6.heap.size = pb at *
    clear hbel hr1 e1 e8 e9 hst hW7 hW6 hs6 hcur hsz hW8
    have hs8 := (Array.getElem?_eq_some_iff.1 p8).1
    have P8 := block_cell p8
    go_wp2_with fail
    have hR8 := (((hI.below hwW8).take k (by omega)).cutAt 20 (by omega)).drew 1
    obtain ⟨v9, W9, hrun9, hown9, hgr9⟩ := run_app (P := Tryd.prog) W8.drew 24 24 5 (pb + 1) i0 Tryd.underlying24 hi hz0 hz1 hz2 (.slice none 0 0) [] (World.ownsRow_nil _ _ _ _) w.heap.size _ ((zs.take k).drop 20) hR8 (by simp; omega) hs8
    have hl9 : Later W8 W9 := Later.trans (Later.drew W8) ((Below.refl _ W8.drew).grown hgr9 (Nat.le_refl _) (fun _ e => by cases e))
    have hO9 := Ow.of_row hown9
    rw [List.nil_append] at hO9
    obtain ⟨a9, cap9, rfl, hq9, hm9⟩ := hO9.slice
    clear hown9 hgr9 hR8
    have p9 := (hl9.block pb hs8).trans p8
    have P9 := block_cell p9
    have F9 := block_frozen p9
    have hLo : Hid (((zs.take k).drop 20).length = k - 20) := by show _ = _; simp; omega
    rw [hLo.out] at hrun9 hO9
    have i20 : (20 : Int) ≤ k := by omega
    go_region_law (refine step_run rfl (.tmp 92) (.tmp 95) 24 rfl _ _ rfl rfl _ W9 hrun9 ?_)
    clear hrun9 P8 P9 F9
    generalize (if cap = 20 then some (⟨b, off, none⟩ : Addr) else some ⟨b, off + 20, none⟩) = ad20 at *
    have p10 : (W9.setCell ⟨pb, 7, none⟩ (.slice a9 (k - 20) cap9)).heap[pb]? = some (.cells (List.toArray [.int .u8 z1, .int .u16 (wat zs 4), .bool (decide (16384 ≤ wat zs 6)), .int .u8 z8, .int .u8 z9, .int .u32 (wat4 zs 12), .int .u32 (wat4 zs 16), .slice a9 (k - 20) cap9, .slice none 0 0]) 26 (0, 0)) := heap_set1 p9 7 (.slice a9 (k - 20) cap9)
    have hE9 : But (fun b => b = pb) W9 (W9.setCell ⟨pb, 7, none⟩ (.slice a9 (k - 20) cap9)) := (But.refl (fun b => b = pb) W9).setCell (p := ⟨pb, 7, none⟩) (E := fun b => b = pb) rfl _
    have hO10 := hO9.but hE9 (fun b h e => by omega)
    have hw10 : Below w.heap.size w _ := (hwW8.trans (hl9.mono hwW8.size)).setCell (p := ⟨pb, 7, none⟩) (Nat.le_of_lt hq8) (.slice a9 (k - 20) cap9)
    have pw10 : Wr w.heap.size 9 26 (W9.setCell ⟨pb, 7, none⟩ (.slice a9 (k - 20) cap9)) := by
      obtain ⟨c, h1, h2⟩ := pw8.later hl9
      exact ⟨c, (hE9.block _ (Array.getElem?_eq_some_iff.1 h1).1 (by omega)).trans h1, h2⟩
    generalize W9.setCell ⟨pb, 7, none⟩ (.slice a9 (k - 20) cap9) = W10 at *
    clear hO9 p9 hE9 hl9 hwW8 pw8
    have hs10 := (Array.getElem?_eq_some_iff.1 p10).1
    have P10 := block_cell p10
    go_wp2_with fail
    have hR10 := (((hI.below hw10).take n (by omega)).cutAt k (by omega)).drew 1
    obtain ⟨v11, W11, hrun11, hown11, hgr11⟩ := run_app (P := Tryd.prog) W10.drew 24 24 5 (pb + 1) i0 Tryd.underlying24 hi hz0 hz1 hz2 (.slice none 0 0) [] (World.ownsRow_nil _ _ _ _) w.heap.size _ ((zs.take n).drop k) hR10 (by simp; omega) hs10
    have hl11 : Later W10 W11 := Later.trans (Later.drew W10) ((Below.refl _ W10.drew).grown hgr11 (Nat.le_refl _) (fun _ e => by cases e))
    have hO11 := Ow.of_row hown11
    rw [List.nil_append] at hO11
    obtain ⟨a11, cap11, rfl, hq11, hm11⟩ := hO11.slice
    clear hown11 hgr11 hR10
    have p11 := (hl11.block pb hs10).trans p10
    have P11 := block_cell p11
    have F11 := block_frozen p11
    have hLd : Hid (((zs.take n).drop k).length = n - k) := by show _ = _; simp; try omega
    rw [hLd.out] at hrun11 hO11
    have ikn : (k : Int) ≤ n := by omega
    have inc : n ≤ cap := by omega
    have inc2 : (n : Int) ≤ cap := by omega
    go_region_law (refine step_run rfl (.tmp 99) (.tmp 103) 24 rfl _ _ rfl rfl _ W11 hrun11 ?_)
    clear hrun11 P10 P11 F11
    generalize (if cap = k then some (⟨b, off, none⟩ : Addr) else some ⟨b, off + k, none⟩) = adk at *
    have p12 : (W11.setCell ⟨pb, 8, none⟩ (.slice a11 (n - k) cap11)).heap[pb]? = some (.cells (List.toArray [.int .u8 z1, .int .u16 (wat zs 4), .bool (decide (16384 ≤ wat zs 6)), .int .u8 z8, .int .u8 z9, .int .u32 (wat4 zs 12), .int .u32 (wat4 zs 16), .slice a9 (k - 20) cap9, .slice a11 (n - k) cap11]) 26 (0, 0)) := heap_set1 p11 8 (.slice a11 (n - k) cap11)
    have hE11 : But (fun b => b = pb) W11 (W11.setCell ⟨pb, 8, none⟩ (.slice a11 (n - k) cap11)) := (But.refl (fun b => b = pb) W11).setCell (p := ⟨pb, 8, none⟩) (E := fun b => b = pb) rfl _
    have hO12 := hO11.but hE11 (fun b h e => by omega)
    have hO13 := (hO10.below hl11 (Nat.le_refl _)).but hE11 (fun b h e => by omega)
    have hw12 : Below w.heap.size w _ := (hw10.trans (hl11.mono hw10.size)).setCell (p := ⟨pb, 8, none⟩) (Nat.le_of_lt hq8) (.slice a11 (n - k) cap11)
    have pw12 : Wr w.heap.size 9 26 (W11.setCell ⟨pb, 8, none⟩ (.slice a11 (n - k) cap11)) := by
      obtain ⟨c, h1, h2⟩ := pw10.later hl11
      exact ⟨c, (hE11.block _ (Array.getElem?_eq_some_iff.1 h1).1 (by omega)).trans h1, h2⟩
    generalize W11.setCell ⟨pb, 8, none⟩ (.slice a11 (n - k) cap11) = W12 at *
    clear hO11 p11 hE11 hl11 hw10 pw10 hO10
    have P12 := block_cell p12
    obtain ⟨cur, hcur, hsz⟩ := pw12
    have C12 := block_cell hcur
    have F12 := block_frozen hcur
    go_wp2_with fail
    generalize hV : ((((((((W12.setCell ⟨w.heap.size, 0, none⟩ _).setCell ⟨w.heap.size, 1, none⟩ _).setCell ⟨w.heap.size, 2, none⟩ _).setCell ⟨w.heap.size, 3, none⟩ _).setCell ⟨w.heap.size, 4, none⟩ _).setCell ⟨w.heap.size, 5, none⟩ _).setCell ⟨w.heap.size, 6, none⟩ _).setCell ⟨w.heap.size, 7, none⟩ _).setCell ⟨w.heap.size, 8, none⟩ _ = V
    have hV9 : V = putRow W12 w.heap.size 0 [.int .u8 z1, .int .u16 (wat zs 4), .bool (decide (16384 ≤ wat zs 6)), .int .u8 z8, .int .u8 z9, .int .u32 (wat4 zs 12), .int .u32 (wat4 zs 16), .slice a9 (k - 20) cap9, .slice a11 (n - k) cap11] := hV.symm
    have hb13 : But (fun b => b = w.heap.size) W12 V := by rw [hV9]; exact putRow_but (E := fun b => b = w.heap.size) (n := w.heap.size) rfl _ _ _ _ (But.refl _ _)
    have p13 := putRow_all [.int .u8 z1, .int .u16 (wat zs 4), .bool (decide (16384 ≤ wat zs 6)), .int .u8 z8, .int .u8 z9, .int .u32 (wat4 zs 12), .int .u32 (wat4 zs 16), .slice a9 (k - 20) cap9, .slice a11 (n - k) cap11] hcur (by simpa using hsz)
    rw [← hV9] at p13
    have hd : decide (16384 ≤ wat zs 6 % 32768) = decide (16384 ≤ wat zs 6) := by rw [Int.emod_eq_of_lt (by omega) (by omega)]
    have hpk : pkt zs (.slice a9 (k - 20) cap9) (.slice a11 (n - k) cap11) = .agg (List.toArray [.int .u8 z1, .int .u16 (wat zs 4), .bool (decide (16384 ≤ wat zs 6)), .int .u8 z8, .int .u8 z9, .int .u32 (wat4 zs 12), .int .u32 (wat4 zs 16), .slice a9 (k - 20) cap9, .slice a11 (n - k) cap11]) := by unfold pkt; rw [G1.out, G8.out, G9.out, hd]
    refine bodyPost_ret (v := .tuple #[pkt zs (.slice a9 (k - 20) cap9) (.slice a11 (n - k) cap11), .int .i64 0]) (by rw [hpk]; exact res_rread _ w.heap.size 0 _ _ _ _ _ _ _ _ _ V rfl rfl p13) rfl ⟨hw12.trans (hb13.below hw12.size (fun j h e => by omega)), .inr ⟨HR.out, _, _, rfl, ?_, ?_⟩⟩
    · rw [HK.out, Int.toNat_natCast]
      exact (hO13.but hb13 (fun b h e => by omega)).mono (by omega)
    · rw [HK.out, HN.out, Int.toNat_natCast, Int.toNat_natCast]
      exact (hO12.but hb13 (fun b h e => by omega)).mono (by omega)

  · by_cases h6 : (zs.length : Int) < wat zs 2
    · go_wp2_with fail
      refine (rgood_any _ (zs.take k) (hB.take _) (by simp; omega) w2 (((hI.take k (by omega)).below (hb1.trans (hl2.mono (by omega)))).mono (by omega))).mono ?_
      rintro e w3 ⟨rfl, hl3⟩
      have hL3 : Later _ w3 := hl2.trans hl3
      have z3 := hL3.size
      cases hg : (Mt.cks (zs.take k) == 0)
      · have hc5 : chk zs = 5 := by unfold chk; rw [HK.out, Int.toNat_natCast, if_pos (by simpa using hg)]
        have HR : Hid (rde true zs = 5) := by show _ = _; unfold rde; rw [hm0.out, if_neg (by simp), if_neg (by simp [ral]; omega), hc5]; rfl
        clear hc5
        have pk := ((hL3).block w.heap.size (by omega)).trans p1
        have Pk := block_cell pk
        have Fk := block_frozen pk
        go_wp2_with fail
        clear Pk Fk
        generalize hV : ((((((((w3.setCell ⟨w.heap.size, 0, none⟩ _).setCell ⟨w.heap.size, 1, none⟩ _).setCell ⟨w.heap.size, 2, none⟩ _).setCell ⟨w.heap.size, 3, none⟩ _).setCell ⟨w.heap.size, 4, none⟩ _).setCell ⟨w.heap.size, 5, none⟩ _).setCell ⟨w.heap.size, 6, none⟩ _).setCell ⟨w.heap.size, 7, none⟩ _).setCell ⟨w.heap.size, 8, none⟩ _ = V
        have hV9 : V = putRow w3 w.heap.size 0 zc := hV.symm
        have hb8 : But (fun b => b = w.heap.size) w3 V := by rw [hV9]; exact putRow_but (E := fun b => b = w.heap.size) (n := w.heap.size) rfl _ _ _ _ (But.refl _ _)
        have p8 := putRow_all zc pk rfl
        rw [← hV9] at p8
        exact rexit _ w.heap.size 5 _ rfl rfl p8 ⟨(hb1.trans ((hL3).mono (by omega))).trans (hb8.below (Nat.le_trans (by omega) (hL3).size) (fun j h e => by omega)), .inl (by rw [HR.out]; exact ⟨by omega, rfl⟩)⟩

      have hg0 : Mt.cks (zs.take k) = 0 := by simpa using hg
      have Hg := hide hg0
      clear hg hg0
      go_wp2_with fail
      refine (rget16_rd _ zs hB 6 (by omega) hl w3 (hI.below (hb1.trans (hL3.mono (by omega))))).mono ?_
      rintro e w4 ⟨rfl, hl4'⟩
      have hL4 : Later _ w4 := hL3.trans hl4'
      have z4 := hL4.size
      have hff := wat_bd hB 6
      by_cases h7 : wat zs 6 % 16384 ≠ 0
      · have t7 : (wat zs 6 % 16384 != 0) = true := by simpa using h7
        have hc5 : chk zs = 7 := by unfold chk; rw [HK.out, Int.toNat_natCast, if_neg (by simp [Hg.out]), if_pos h7]
        have HR : Hid (rde true zs = 7) := by show _ = _; unfold rde; rw [hm0.out, if_neg (by simp), if_neg (by simp [ral]; omega), hc5]; rfl
        clear hc5
        have pk := ((hL4).block w.heap.size (by omega)).trans p1
        have Pk := block_cell pk
        have Fk := block_frozen pk
        go_wp2_with fail
        clear Pk Fk
        generalize hV : ((((((((w4.setCell ⟨w.heap.size, 0, none⟩ _).setCell ⟨w.heap.size, 1, none⟩ _).setCell ⟨w.heap.size, 2, none⟩ _).setCell ⟨w.heap.size, 3, none⟩ _).setCell ⟨w.heap.size, 4, none⟩ _).setCell ⟨w.heap.size, 5, none⟩ _).setCell ⟨w.heap.size, 6, none⟩ _).setCell ⟨w.heap.size, 7, none⟩ _).setCell ⟨w.heap.size, 8, none⟩ _ = V
        have hV9 : V = putRow w4 w.heap.size 0 zc := hV.symm
        have hb8 : But (fun b => b = w.heap.size) w4 V := by rw [hV9]; exact putRow_but (E := fun b => b = w.heap.size) (n := w.heap.size) rfl _ _ _ _ (But.refl _ _)
        have p8 := putRow_all zc pk rfl
        rw [← hV9] at p8
        exact rexit _ w.heap.size 7 _ rfl rfl p8 ⟨(hb1.trans ((hL4).mono (by omega))).trans (hb8.below (Nat.le_trans (by omega) (hL4).size) (fun j h e => by omega)), .inl (by rw [HR.out]; exact ⟨by omega, rfl⟩)⟩

      have t7 : (wat zs 6 % 16384 != 0) = false := by simpa using h7
      by_cases h8 : 32768 ≤ wat zs 6
      · have hc5 : chk zs = 4 := by unfold chk; rw [HK.out, Int.toNat_natCast, if_neg (by simp [Hg.out]), if_neg h7, if_pos h8]
        have HR : Hid (rde true zs = 4) := by show _ = _; unfold rde; rw [hm0.out, if_neg (by simp), if_neg (by simp [ral]; omega), hc5]; rfl
        clear hc5
        have pk := ((hL4).block w.heap.size (by omega)).trans p1
        have Pk := block_cell pk
        have Fk := block_frozen pk
        go_wp2_with fail
        clear Pk Fk
        generalize hV : ((((((((w4.setCell ⟨w.heap.size, 0, none⟩ _).setCell ⟨w.heap.size, 1, none⟩ _).setCell ⟨w.heap.size, 2, none⟩ _).setCell ⟨w.heap.size, 3, none⟩ _).setCell ⟨w.heap.size, 4, none⟩ _).setCell ⟨w.heap.size, 5, none⟩ _).setCell ⟨w.heap.size, 6, none⟩ _).setCell ⟨w.heap.size, 7, none⟩ _).setCell ⟨w.heap.size, 8, none⟩ _ = V
        have hV9 : V = putRow w4 w.heap.size 0 zc := hV.symm
        have hb8 : But (fun b => b = w.heap.size) w4 V := by rw [hV9]; exact putRow_but (E := fun b => b = w.heap.size) (n := w.heap.size) rfl _ _ _ _ (But.refl _ _)
        have p8 := putRow_all zc pk rfl
        rw [← hV9] at p8
        exact rexit _ w.heap.size 4 _ rfl rfl p8 ⟨(hb1.trans ((hL4).mono (by omega))).trans (hb8.below (Nat.le_trans (by omega) (hL4).size) (fun j h e => by omega)), .inl (by rw [HR.out]; exact ⟨by omega, rfl⟩)⟩

      have hc0 : Hid (chk zs = 0) := by show _ = _; unfold chk; rw [HK.out, Int.toNat_natCast, if_neg (by simp [Hg.out]), if_neg h7, if_neg h8]

      by_cases h9 : (zs.length : Int) - (k : Int) < 8
      · have HR : Hid (rde true zs = 3) := by show _ = _; unfold rde; rw [hm0.out, if_neg (by simp), if_neg (by simp [ral]; omega), hc0.out, if_neg (by simp), HK.out, if_pos ⟨rfl, by simp [ral]; omega⟩]
        have pk := ((hL4).block w.heap.size (by omega)).trans p1
        have Pk := block_cell pk
        have Fk := block_frozen pk
        go_wp2_with fail
        clear Pk Fk
        generalize hV : ((((((((w4.setCell ⟨w.heap.size, 0, none⟩ _).setCell ⟨w.heap.size, 1, none⟩ _).setCell ⟨w.heap.size, 2, none⟩ _).setCell ⟨w.heap.size, 3, none⟩ _).setCell ⟨w.heap.size, 4, none⟩ _).setCell ⟨w.heap.size, 5, none⟩ _).setCell ⟨w.heap.size, 6, none⟩ _).setCell ⟨w.heap.size, 7, none⟩ _).setCell ⟨w.heap.size, 8, none⟩ _ = V
        have hV9 : V = putRow w4 w.heap.size 0 zc := hV.symm
        have hb8 : But (fun b => b = w.heap.size) w4 V := by rw [hV9]; exact putRow_but (E := fun b => b = w.heap.size) (n := w.heap.size) rfl _ _ _ _ (But.refl _ _)
        have p8 := putRow_all zc pk rfl
        rw [← hV9] at p8
        exact rexit _ w.heap.size 3 _ rfl rfl p8 ⟨(hb1.trans ((hL4).mono (by omega))).trans (hb8.below (Nat.le_trans (by omega) (hL4).size) (fun j h e => by omega)), .inl (by rw [HR.out]; exact ⟨by omega, rfl⟩)⟩

      have HR : Hid (rde true zs = 0) := by show _ = _; unfold rde; rw [hm0.out, if_neg (by simp), if_neg (by simp [ral]; omega), hc0.out, if_neg (by simp), HK.out, if_neg (by simp [ral]; omega)]

      go_wp2_with fail
      have hkn : 20 ≤ k ∧ k ≤ zs.length ∧ zs.length ≤ zs.length := by omega
      have HN : Hid (ral true zs = (zs.length : Int)) := by show _ = _; simp [ral]; omega

      have d1 := hc 1 (by omega)
      have d8 := hc 8 (by omega)
      have d9 := hc 9 (by omega)
      have hbw4 := hb1.trans (hL4.mono (by omega))
      generalize gz1 : zs[1]?.getD 0 = z1 at *
      generalize gz8 : zs[8]?.getD 0 = z8 at *
      generalize gz9 : zs[9]?.getD 0 = z9 at *
      have G1 := hide gz1
      have G8 := hide gz8
      have G9 := hide gz9
      clear gz1 gz8 gz9
      have i1 : (1 : Int) < zs.length := by omega
      have i8 : (8 : Int) < zs.length := by omega
      have i9 : (9 : Int) < zs.length := by omega
      refine anyR_begin (R := KI w4.heap.size 26 9 (List.toArray [.int .u8 z1, .int .u16 (wat zs 4), .bool (decide (16384 ≤ wat zs 6)), .int .u8 z8, .int .u8 z9, .int .u32 (wat4 zs 12), .int .u32 (wat4 zs 16), .slice none 0 0, .slice none 0 0])) (KI.pre _ _ _ _) (fun w => KI.of (Later.drew w)) 20 rfl (by kernel_rfl) (fun W5 hW5 => ?_)
      have hbel : ∀ w1, KI w4.heap.size 26 9 (List.toArray [.int .u8 z1, .int .u16 (wat zs 4), .bool (decide (16384 ≤ wat zs 6)), .int .u8 z8, .int .u8 z9, .int .u32 (wat4 zs 12), .int .u32 (wat4 zs 16), .slice none 0 0, .slice none 0 0]) W5 w1 → Below w.heap.size w w1 := fun w1 h => hbw4.trans (((hW5.trans h).1.below (Nat.le_refl _) (fun k hk e => by omega)).mono (by omega))
      have hr1 : ∀ w1, KI w4.heap.size 26 9 (List.toArray [.int .u8 z1, .int .u16 (wat zs 4), .bool (decide (16384 ≤ wat zs 6)), .int .u8 z8, .int .u8 z9, .int .u32 (wat4 zs 12), .int .u32 (wat4 zs 16), .slice none 0 0, .slice none 0 0]) W5 w1 → Rd w.heap.size w1 (.slice (some ⟨b, off, none⟩) zs.length cap) zs := fun w1 h => hI.below (hbel w1 h)
      have e1 : ∀ w1, KI w4.heap.size 26 9 (List.toArray [.int .u8 z1, .int .u16 (wat zs 4), .bool (decide (16384 ≤ wat zs 6)), .int .u8 z8, .int .u8 z9, .int .u32 (wat4 zs 12), .int .u32 (wat4 zs 16), .slice none 0 0, .slice none 0 0]) W5 w1 → w1.cell? ⟨b, off + 1, none⟩ = some (.int .u8 z1) := fun w1 h => ((hbel w1 h).cell (p := ⟨b, off + 1, none⟩) hb).trans d1
      have e8 : ∀ w1, KI w4.heap.size 26 9 (List.toArray [.int .u8 z1, .int .u16 (wat zs 4), .bool (decide (16384 ≤ wat zs 6)), .int .u8 z8, .int .u8 z9, .int .u32 (wat4 zs 12), .int .u32 (wat4 zs 16), .slice none 0 0, .slice none 0 0]) W5 w1 → w1.cell? ⟨b, off + 8, none⟩ = some (.int .u8 z8) := fun w1 h => ((hbel w1 h).cell (p := ⟨b, off + 8, none⟩) hb).trans d8
      have e9 : ∀ w1, KI w4.heap.size 26 9 (List.toArray [.int .u8 z1, .int .u16 (wat zs 4), .bool (decide (16384 ≤ wat zs 6)), .int .u8 z8, .int .u8 z9, .int .u32 (wat4 zs 12), .int .u32 (wat4 zs 16), .slice none 0 0, .slice none 0 0]) W5 w1 → w1.cell? ⟨b, off + 9, none⟩ = some (.int .u8 z9) := fun w1 h => ((hbel w1 h).cell (p := ⟨b, off + 9, none⟩) hb).trans d9
      clear d1 d8 d9
      refine anyR_val (KI.pre _ _ _ _) 0 rfl (by kernel_rfl) (by kernel_rfl) (by kernel_rfl) (fun _ _ _ _ h => h) rfl ?_; apply Exists.intro; refine ⟨fun w1 hw1 => ?_, ?_⟩; (· (go_simp; rfl)); simp only [Act.put, List.setIfInBounds_toArray, List.set_cons_zero, List.set_cons_succ]
      refine anyR_val (KI.pre _ _ _ _) 1 rfl (by kernel_rfl) (by kernel_rfl) (by kernel_rfl) (fun _ _ _ _ h => h) rfl ?_; apply Exists.intro; refine ⟨fun w1 hw1 => ?_, ?_⟩; (· (go_simp; rfl)); simp only [Act.put, List.setIfInBounds_toArray, List.set_cons_zero, List.set_cons_succ]
      refine anyR_val (KI.pre _ _ _ _) 2 rfl (by kernel_rfl) (by kernel_rfl) (by kernel_rfl) (fun _ _ _ _ h => h) rfl ?_; apply Exists.intro; refine ⟨fun w1 hw1 => ?_, ?_⟩; (· (go_simp; rfl)); simp only [Act.put, List.setIfInBounds_toArray, List.set_cons_zero, List.set_cons_succ]
      refine anyR_val (KI.pre _ _ _ _) 3 rfl (by kernel_rfl) (by kernel_rfl) (by kernel_rfl) (fun _ _ _ _ h => h) rfl ?_; apply Exists.intro; refine ⟨fun w1 hw1 => ?_, ?_⟩; (· (go_simp; rfl)); simp only [Act.put, List.setIfInBounds_toArray, List.set_cons_zero, List.set_cons_succ]
      refine anyR_take (KI.pre _ _ _ _) 4 (.int .u16 (wat zs 4)) rfl (by kernel_rfl) (by kernel_rfl) (by kernel_rfl) (fun _ _ _ h => h) rfl (fun w1 hw1 => goes_call 53 #[.slice (some ⟨b, off, none⟩) zs.length cap, .int .i64 4] (by go_simp) ?_) ?_
      · exact (rget16_rd _ zs hB 4 (by omega) hl w1 (hr1 w1 hw1)).mono fun e w' ⟨he, hw⟩ => ⟨he, KI.of hw⟩
      simp only [Act.put, List.setIfInBounds_toArray, List.set_cons_zero, List.set_cons_succ]
      refine anyR_val (KI.pre _ _ _ _) 5 rfl (by kernel_rfl) (by kernel_rfl) (by kernel_rfl) (fun _ _ _ _ h => h) rfl ?_; apply Exists.intro; refine ⟨fun w1 hw1 => ?_, ?_⟩; (· (go_simp; rfl)); simp only [Act.put, List.setIfInBounds_toArray, List.set_cons_zero, List.set_cons_succ]
      refine anyR_val (KI.pre _ _ _ _) 6 rfl (by kernel_rfl) (by kernel_rfl) (by kernel_rfl) (fun _ _ _ _ h => h) rfl ?_; apply Exists.intro; refine ⟨fun w1 hw1 => ?_, ?_⟩; (· (go_simp; rfl)); simp only [Act.put, List.setIfInBounds_toArray, List.set_cons_zero, List.set_cons_succ]
      refine anyR_val (KI.pre _ _ _ _) 7 rfl (by kernel_rfl) (by kernel_rfl) (by kernel_rfl) (fun _ _ _ _ h => h) rfl ?_; apply Exists.intro; refine ⟨fun w1 hw1 => ?_, ?_⟩; (· (go_simp; rfl)); simp only [Act.put, List.setIfInBounds_toArray, List.set_cons_zero, List.set_cons_succ]
      refine anyR_val (KI.pre _ _ _ _) 8 rfl (by kernel_rfl) (by kernel_rfl) (by kernel_rfl) (fun _ _ _ _ h => h) rfl ?_; apply Exists.intro; refine ⟨fun w1 hw1 => ?_, ?_⟩; (· (go_simp; rfl)); simp only [Act.put, List.setIfInBounds_toArray, List.set_cons_zero, List.set_cons_succ]
      refine anyR_val (KI.pre _ _ _ _) 9 rfl (by kernel_rfl) (by kernel_rfl) (by kernel_rfl) (fun _ _ _ _ h => h) rfl ?_; apply Exists.intro; refine ⟨fun w1 hw1 => ?_, ?_⟩; (· (go_simp; rfl)); simp only [Act.put, List.setIfInBounds_toArray, List.set_cons_zero, List.set_cons_succ]
      refine anyR_val (KI.pre _ _ _ _) 10 rfl (by kernel_rfl) (by kernel_rfl) (by kernel_rfl) (fun _ _ _ _ h => h) rfl ?_; apply Exists.intro; refine ⟨fun w1 hw1 => ?_, ?_⟩; (· (go_simp; rfl)); simp only [Act.put, List.setIfInBounds_toArray, List.set_cons_zero, List.set_cons_succ]
      refine anyR_val (KI.pre _ _ _ _) 11 rfl (by kernel_rfl) (by kernel_rfl) (by kernel_rfl) (fun _ _ _ _ h => h) rfl ?_; apply Exists.intro; refine ⟨fun w1 hw1 => ?_, ?_⟩; (· (go_simp; rfl)); simp only [Act.put, List.setIfInBounds_toArray, List.set_cons_zero, List.set_cons_succ]
      refine anyR_val (KI.pre _ _ _ _) 12 rfl (by kernel_rfl) (by kernel_rfl) (by kernel_rfl) (fun _ _ _ _ h => h) rfl ?_; apply Exists.intro; refine ⟨fun w1 hw1 => ?_, ?_⟩; (· (go_simp; rfl)); simp only [Act.put, List.setIfInBounds_toArray, List.set_cons_zero, List.set_cons_succ]
      refine anyR_val (KI.pre _ _ _ _) 13 rfl (by kernel_rfl) (by kernel_rfl) (by kernel_rfl) (fun _ _ _ _ h => h) rfl ?_; apply Exists.intro; refine ⟨fun w1 hw1 => ?_, ?_⟩; (· (go_simp; rfl)); simp only [Act.put, List.setIfInBounds_toArray, List.set_cons_zero, List.set_cons_succ]
      refine anyR_take (KI.pre _ _ _ _) 14 (.int .u32 (wat4 zs 12)) rfl (by kernel_rfl) (by kernel_rfl) (by kernel_rfl) (fun _ _ _ h => h) rfl (fun w1 hw1 => goes_call 54 #[.slice (some ⟨b, off, none⟩) zs.length cap, .int .i64 12] (by go_simp) ?_) ?_
      · exact (rget32_rd _ zs hB 12 (by omega) hl w1 (hr1 w1 hw1)).mono fun e w' ⟨he, hw⟩ => ⟨he, KI.of hw⟩
      simp only [Act.put, List.setIfInBounds_toArray, List.set_cons_zero, List.set_cons_succ]
      refine anyR_val (KI.pre _ _ _ _) 15 rfl (by kernel_rfl) (by kernel_rfl) (by kernel_rfl) (fun _ _ _ _ h => h) rfl ?_; apply Exists.intro; refine ⟨fun w1 hw1 => ?_, ?_⟩; (· (go_simp; rfl)); simp only [Act.put, List.setIfInBounds_toArray, List.set_cons_zero, List.set_cons_succ]
      refine anyR_take (KI.pre _ _ _ _) 16 (.int .u32 (wat4 zs 16)) rfl (by kernel_rfl) (by kernel_rfl) (by kernel_rfl) (fun _ _ _ h => h) rfl (fun w1 hw1 => goes_call 54 #[.slice (some ⟨b, off, none⟩) zs.length cap, .int .i64 16] (by go_simp) ?_) ?_
      · exact (rget32_rd _ zs hB 16 (by omega) hl w1 (hr1 w1 hw1)).mono fun e w' ⟨he, hw⟩ => ⟨he, KI.of hw⟩
      simp only [Act.put, List.setIfInBounds_toArray, List.set_cons_zero, List.set_cons_succ]
      refine anyR_val (KI.pre _ _ _ _) 17 rfl (by kernel_rfl) (by kernel_rfl) (by kernel_rfl) (fun _ _ _ _ h => h) rfl ?_; apply Exists.intro; refine ⟨fun w1 hw1 => ?_, ?_⟩; (· (go_simp; rfl)); simp only [Act.put, List.setIfInBounds_toArray, List.set_cons_zero, List.set_cons_succ]

      refine anyR_one 18 rfl (by kernel_rfl) rfl (fun W6 hW6 => ?_)
      have hs6 : w4.heap.size ≤ W6.heap.size := (hW5.trans hW6).1.size
      unfold Oper.wp
      go_simp
      refine ⟨KI.of ((Below.refl _ _).alloc (Nat.le_refl _) _), ?_⟩
      refine anyR_one 19 rfl (by kernel_rfl) rfl (fun W7 hW7 => ?_)
      have hwr : Wr W6.heap.size 9 26 W7 := hW7.2.1 _ ⟨_, heap_alloc_new W6 _, rfl⟩
      have hst := KI.store (n₁ := w4.heap.size) [.int .u8 z1, .int .u16 (wat zs 4), .bool (decide (16384 ≤ wat zs 6)), .int .u8 z8, .int .u8 z9, .int .u32 (wat4 zs 12), .int .u32 (wat4 zs 16), .slice none 0 0, .slice none 0 0] hs6 hwr rfl
      obtain ⟨cur, hcur, hsz⟩ := hwr
      have k7 := block_cell hcur
      have f7 := block_frozen hcur
      have HS := hide hst
      clear hst
      unfold Oper.wp
      go_simp
      generalize hV : ((((((((W7.setCell ⟨W6.heap.size, 0, none⟩ _).setCell ⟨W6.heap.size, 1, none⟩ _).setCell ⟨W6.heap.size, 2, none⟩ _).setCell ⟨W6.heap.size, 3, none⟩ _).setCell ⟨W6.heap.size, 4, none⟩ _).setCell ⟨W6.heap.size, 5, none⟩ _).setCell ⟨W6.heap.size, 6, none⟩ _).setCell ⟨W6.heap.size, 7, none⟩ _).setCell ⟨W6.heap.size, 8, none⟩ _ = V
      have hV9 : V = putRow W7 W6.heap.size 0 [.int .u8 z1, .int .u16 (wat zs 4), .bool (decide (16384 ≤ wat zs 6)), .int .u8 z8, .int .u8 z9, .int .u32 (wat4 zs 12), .int .u32 (wat4 zs 16), .slice none 0 0, .slice none 0 0] := hV.symm
      have hst := HS.out
      rw [← hV9] at hst
      clear hV hV9 HS k7 f7
      refine ⟨hst.1, anyR_done (by kernel_rfl) (fun W8 hW8 => ?_)⟩
      have p8 := hW8.2.2 _ hst.2
      have hwW8 : Below w.heap.size w W8 := hbel W8 (((hW6.trans (KI.of ((Below.refl _ _).alloc (Nat.le_refl _) _))).trans hW7).trans (hst.1.trans hW8))
      have hq8 : w.heap.size < W6.heap.size := by omega
      have pw8 : Wr w.heap.size 9 26 W8 := hW8.2.1 _ (hst.1.2.1 _ (hW7.2.1 _ ((KI.of ((Below.refl W6.heap.size W6).alloc (Nat.le_refl _) _) : KI w4.heap.size 26 9 (List.toArray [.int .u8 z1, .int .u16 (wat zs 4), .bool (decide (16384 ≤ wat zs 6)), .int .u8 z8, .int .u8 z9, .int .u32 (wat4 zs 12), .int .u32 (wat4 zs 16), .slice none 0 0, .slice none 0 0]) W6 _).2.1 _ (hW6.2.1 _ (hW5.2.1 _ ⟨_, (hL4.block w.heap.size (by omega)).trans p1, rfl⟩)))))
      generalize W6.heap.size = pb at *
      clear hbel hr1 e1 e8 e9 hst hW7 hW6 hs6 hcur hsz hW8
      have hs8 := (Array.getElem?_eq_some_iff.1 p8).1
      have P8 := block_cell p8
      go_wp2_with fail
      have hR8 := (((hI.below hwW8).take k (by omega)).cutAt 20 (by omega)).drew 1
      obtain ⟨v9, W9, hrun9, hown9, hgr9⟩ := run_app (P := Tryd.prog) W8.drew 24 24 5 (pb + 1) i0 Tryd.underlying24 hi hz0 hz1 hz2 (.slice none 0 0) [] (World.ownsRow_nil _ _ _ _) w.heap.size _ ((zs.take k).drop 20) hR8 (by simp; omega) hs8
      have hl9 : Later W8 W9 := Later.trans (Later.drew W8) ((Below.refl _ W8.drew).grown hgr9 (Nat.le_refl _) (fun _ e => by cases e))
      have hO9 := Ow.of_row hown9
      rw [List.nil_append] at hO9
      obtain ⟨a9, cap9, rfl, hq9, hm9⟩ := hO9.slice
      clear hown9 hgr9 hR8
      have p9 := (hl9.block pb hs8).trans p8
      have P9 := block_cell p9
      have F9 := block_frozen p9
      have hLo : Hid (((zs.take k).drop 20).length = k - 20) := by show _ = _; simp; omega
      rw [hLo.out] at hrun9 hO9
      have i20 : (20 : Int) ≤ k := by omega
      go_region_law (refine step_run rfl (.tmp 92) (.tmp 95) 24 rfl _ _ rfl rfl _ W9 hrun9 ?_)
      clear hrun9 P8 P9 F9
      generalize (if cap = 20 then some (⟨b, off, none⟩ : Addr) else some ⟨b, off + 20, none⟩) = ad20 at *
      have p10 : (W9.setCell ⟨pb, 7, none⟩ (.slice a9 (k - 20) cap9)).heap[pb]? = some (.cells (List.toArray [.int .u8 z1, .int .u16 (wat zs 4), .bool (decide (16384 ≤ wat zs 6)), .int .u8 z8, .int .u8 z9, .int .u32 (wat4 zs 12), .int .u32 (wat4 zs 16), .slice a9 (k - 20) cap9, .slice none 0 0]) 26 (0, 0)) := heap_set1 p9 7 (.slice a9 (k - 20) cap9)
      have hE9 : But (fun b => b = pb) W9 (W9.setCell ⟨pb, 7, none⟩ (.slice a9 (k - 20) cap9)) := (But.refl (fun b => b = pb) W9).setCell (p := ⟨pb, 7, none⟩) (E := fun b => b = pb) rfl _
      have hO10 := hO9.but hE9 (fun b h e => by omega)
      have hw10 : Below w.heap.size w _ := (hwW8.trans (hl9.mono hwW8.size)).setCell (p := ⟨pb, 7, none⟩) (Nat.le_of_lt hq8) (.slice a9 (k - 20) cap9)
      have pw10 : Wr w.heap.size 9 26 (W9.setCell ⟨pb, 7, none⟩ (.slice a9 (k - 20) cap9)) := by
        obtain ⟨c, h1, h2⟩ := pw8.later hl9
        exact ⟨c, (hE9.block _ (Array.getElem?_eq_some_iff.1 h1).1 (by omega)).trans h1, h2⟩
      generalize W9.setCell ⟨pb, 7, none⟩ (.slice a9 (k - 20) cap9) = W10 at *
      clear hO9 p9 hE9 hl9 hwW8 pw8
      have hs10 := (Array.getElem?_eq_some_iff.1 p10).1
      have P10 := block_cell p10
      go_wp2_with fail
      have hR10 := (((hI.below hw10).take zs.length (by omega)).cutAt k (by omega)).drew 1
      obtain ⟨v11, W11, hrun11, hown11, hgr11⟩ := run_app (P := Tryd.prog) W10.drew 24 24 5 (pb + 1) i0 Tryd.underlying24 hi hz0 hz1 hz2 (.slice none 0 0) [] (World.ownsRow_nil _ _ _ _) w.heap.size _ ((zs.take zs.length).drop k) hR10 (by simp; omega) hs10
      have hl11 : Later W10 W11 := Later.trans (Later.drew W10) ((Below.refl _ W10.drew).grown hgr11 (Nat.le_refl _) (fun _ e => by cases e))
      have hO11 := Ow.of_row hown11
      rw [List.nil_append] at hO11
      obtain ⟨a11, cap11, rfl, hq11, hm11⟩ := hO11.slice
      clear hown11 hgr11 hR10
      have p11 := (hl11.block pb hs10).trans p10
      have P11 := block_cell p11
      have F11 := block_frozen p11
      have hLd : Hid (((zs.take zs.length).drop k).length = zs.length - k) := by show _ = _; simp; try omega
      rw [hLd.out] at hrun11 hO11
      have ikn : (k : Int) ≤ zs.length := by omega
      have inc : zs.length ≤ cap := by omega
      have inc2 : (zs.length : Int) ≤ cap := by omega
      go_region_law (refine step_run rfl (.tmp 99) (.tmp 103) 24 rfl _ _ rfl rfl _ W11 hrun11 ?_)
      clear hrun11 P10 P11 F11
      generalize (if cap = k then some (⟨b, off, none⟩ : Addr) else some ⟨b, off + k, none⟩) = adk at *
      have p12 : (W11.setCell ⟨pb, 8, none⟩ (.slice a11 (zs.length - k) cap11)).heap[pb]? = some (.cells (List.toArray [.int .u8 z1, .int .u16 (wat zs 4), .bool (decide (16384 ≤ wat zs 6)), .int .u8 z8, .int .u8 z9, .int .u32 (wat4 zs 12), .int .u32 (wat4 zs 16), .slice a9 (k - 20) cap9, .slice a11 (zs.length - k) cap11]) 26 (0, 0)) := heap_set1 p11 8 (.slice a11 (zs.length - k) cap11)
      have hE11 : But (fun b => b = pb) W11 (W11.setCell ⟨pb, 8, none⟩ (.slice a11 (zs.length - k) cap11)) := (But.refl (fun b => b = pb) W11).setCell (p := ⟨pb, 8, none⟩) (E := fun b => b = pb) rfl _
      have hO12 := hO11.but hE11 (fun b h e => by omega)
      have hO13 := (hO10.below hl11 (Nat.le_refl _)).but hE11 (fun b h e => by omega)
      have hw12 : Below w.heap.size w _ := (hw10.trans (hl11.mono hw10.size)).setCell (p := ⟨pb, 8, none⟩) (Nat.le_of_lt hq8) (.slice a11 (zs.length - k) cap11)
      have pw12 : Wr w.heap.size 9 26 (W11.setCell ⟨pb, 8, none⟩ (.slice a11 (zs.length - k) cap11)) := by
        obtain ⟨c, h1, h2⟩ := pw10.later hl11
        exact ⟨c, (hE11.block _ (Array.getElem?_eq_some_iff.1 h1).1 (by omega)).trans h1, h2⟩
      generalize W11.setCell ⟨pb, 8, none⟩ (.slice a11 (zs.length - k) cap11) = W12 at *
      clear hO11 p11 hE11 hl11 hw10 pw10 hO10
      have P12 := block_cell p12
      obtain ⟨cur, hcur, hsz⟩ := pw12
      have C12 := block_cell hcur
      have F12 := block_frozen hcur
      go_wp2_with fail
      generalize hV : ((((((((W12.setCell ⟨w.heap.size, 0, none⟩ _).setCell ⟨w.heap.size, 1, none⟩ _).setCell ⟨w.heap.size, 2, none⟩ _).setCell ⟨w.heap.size, 3, none⟩ _).setCell ⟨w.heap.size, 4, none⟩ _).setCell ⟨w.heap.size, 5, none⟩ _).setCell ⟨w.heap.size, 6, none⟩ _).setCell ⟨w.heap.size, 7, none⟩ _).setCell ⟨w.heap.size, 8, none⟩ _ = V
      have hV9 : V = putRow W12 w.heap.size 0 [.int .u8 z1, .int .u16 (wat zs 4), .bool (decide (16384 ≤ wat zs 6)), .int .u8 z8, .int .u8 z9, .int .u32 (wat4 zs 12), .int .u32 (wat4 zs 16), .slice a9 (k - 20) cap9, .slice a11 (zs.length - k) cap11] := hV.symm
      have hb13 : But (fun b => b = w.heap.size) W12 V := by rw [hV9]; exact putRow_but (E := fun b => b = w.heap.size) (n := w.heap.size) rfl _ _ _ _ (But.refl _ _)
      have p13 := putRow_all [.int .u8 z1, .int .u16 (wat zs 4), .bool (decide (16384 ≤ wat zs 6)), .int .u8 z8, .int .u8 z9, .int .u32 (wat4 zs 12), .int .u32 (wat4 zs 16), .slice a9 (k - 20) cap9, .slice a11 (zs.length - k) cap11] hcur (by simpa using hsz)
      rw [← hV9] at p13
      have hd : decide (16384 ≤ wat zs 6 % 32768) = decide (16384 ≤ wat zs 6) := by rw [Int.emod_eq_of_lt (by omega) (by omega)]
      have hpk : pkt zs (.slice a9 (k - 20) cap9) (.slice a11 (zs.length - k) cap11) = .agg (List.toArray [.int .u8 z1, .int .u16 (wat zs 4), .bool (decide (16384 ≤ wat zs 6)), .int .u8 z8, .int .u8 z9, .int .u32 (wat4 zs 12), .int .u32 (wat4 zs 16), .slice a9 (k - 20) cap9, .slice a11 (zs.length - k) cap11]) := by unfold pkt; rw [G1.out, G8.out, G9.out, hd]
      refine bodyPost_ret (v := .tuple #[pkt zs (.slice a9 (k - 20) cap9) (.slice a11 (zs.length - k) cap11), .int .i64 0]) (by rw [hpk]; exact res_rread _ w.heap.size 0 _ _ _ _ _ _ _ _ _ V rfl rfl p13) rfl ⟨hw12.trans (hb13.below hw12.size (fun j h e => by omega)), .inr ⟨HR.out, _, _, rfl, ?_, ?_⟩⟩
      · rw [HK.out, Int.toNat_natCast]
        exact (hO13.but hb13 (fun b h e => by omega)).mono (by omega)
      · rw [HK.out, HN.out, Int.toNat_natCast, Int.toNat_natCast]
        exact (hO12.but hb13 (fun b h e => by omega)).mono (by omega)

    · go_wp2_with fail
      refine (rgood_any _ (zs.take k) (hB.take _) (by simp; omega) w2 (((hI.take k (by omega)).below (hb1.trans (hl2.mono (by omega)))).mono (by omega))).mono ?_
      rintro e w3 ⟨rfl, hl3⟩
      have hL3 : Later _ w3 := hl2.trans hl3
      have z3 := hL3.size
      cases hg : (Mt.cks (zs.take k) == 0)
      · have hc5 : chk zs = 5 := by unfold chk; rw [HK.out, Int.toNat_natCast, if_pos (by simpa using hg)]
        have HR : Hid (rde true zs = 5) := by show _ = _; unfold rde; rw [hm0.out, if_neg (by simp), if_neg (by simp [ral]; omega), hc5]; rfl
        clear hc5
        have pk := ((hL3).block w.heap.size (by omega)).trans p1
        have Pk := block_cell pk
        have Fk := block_frozen pk
        go_wp2_with fail
        clear Pk Fk
        generalize hV : ((((((((w3.setCell ⟨w.heap.size, 0, none⟩ _).setCell ⟨w.heap.size, 1, none⟩ _).setCell ⟨w.heap.size, 2, none⟩ _).setCell ⟨w.heap.size, 3, none⟩ _).setCell ⟨w.heap.size, 4, none⟩ _).setCell ⟨w.heap.size, 5, none⟩ _).setCell ⟨w.heap.size, 6, none⟩ _).setCell ⟨w.heap.size, 7, none⟩ _).setCell ⟨w.heap.size, 8, none⟩ _ = V
        have hV9 : V = putRow w3 w.heap.size 0 zc := hV.symm
        have hb8 : But (fun b => b = w.heap.size) w3 V := by rw [hV9]; exact putRow_but (E := fun b => b = w.heap.size) (n := w.heap.size) rfl _ _ _ _ (But.refl _ _)
        have p8 := putRow_all zc pk rfl
        rw [← hV9] at p8
        exact rexit _ w.heap.size 5 _ rfl rfl p8 ⟨(hb1.trans ((hL3).mono (by omega))).trans (hb8.below (Nat.le_trans (by omega) (hL3).size) (fun j h e => by omega)), .inl (by rw [HR.out]; exact ⟨by omega, rfl⟩)⟩

      have hg0 : Mt.cks (zs.take k) = 0 := by simpa using hg
      have Hg := hide hg0
      clear hg hg0
      go_wp2_with fail
      refine (rget16_rd _ zs hB 6 (by omega) hl w3 (hI.below (hb1.trans (hL3.mono (by omega))))).mono ?_
      rintro e w4 ⟨rfl, hl4'⟩
      have hL4 : Later _ w4 := hL3.trans hl4'
      have z4 := hL4.size
      have hff := wat_bd hB 6
      by_cases h7 : wat zs 6 % 16384 ≠ 0
      · have t7 : (wat zs 6 % 16384 != 0) = true := by simpa using h7
        have hc5 : chk zs = 7 := by unfold chk; rw [HK.out, Int.toNat_natCast, if_neg (by simp [Hg.out]), if_pos h7]
        have HR : Hid (rde true zs = 7) := by show _ = _; unfold rde; rw [hm0.out, if_neg (by simp), if_neg (by simp [ral]; omega), hc5]; rfl
        clear hc5
        have pk := ((hL4).block w.heap.size (by omega)).trans p1
        have Pk := block_cell pk
        have Fk := block_frozen pk
        go_wp2_with fail
        clear Pk Fk
        generalize hV : ((((((((w4.setCell ⟨w.heap.size, 0, none⟩ _).setCell ⟨w.heap.size, 1, none⟩ _).setCell ⟨w.heap.size, 2, none⟩ _).setCell ⟨w.heap.size, 3, none⟩ _).setCell ⟨w.heap.size, 4, none⟩ _).setCell ⟨w.heap.size, 5, none⟩ _).setCell ⟨w.heap.size, 6, none⟩ _).setCell ⟨w.heap.size, 7, none⟩ _).setCell ⟨w.heap.size, 8, none⟩ _ = V
        have hV9 : V = putRow w4 w.heap.size 0 zc := hV.symm
        have hb8 : But (fun b => b = w.heap.size) w4 V := by rw [hV9]; exact putRow_but (E := fun b => b = w.heap.size) (n := w.heap.size) rfl _ _ _ _ (But.refl _ _)
        have p8 := putRow_all zc pk rfl
        rw [← hV9] at p8
        exact rexit _ w.heap.size 7 _ rfl rfl p8 ⟨(hb1.trans ((hL4).mono (by omega))).trans (hb8.below (Nat.le_trans (by omega) (hL4).size) (fun j h e => by omega)), .inl (by rw [HR.out]; exact ⟨by omega, rfl⟩)⟩

      have t7 : (wat zs 6 % 16384 != 0) = false := by simpa using h7
      by_cases h8 : 32768 ≤ wat zs 6
      · have hc5 : chk zs = 4 := by unfold chk; rw [HK.out, Int.toNat_natCast, if_neg (by simp [Hg.out]), if_neg h7, if_pos h8]
        have HR : Hid (rde true zs = 4) := by show _ = _; unfold rde; rw [hm0.out, if_neg (by simp), if_neg (by simp [ral]; omega), hc5]; rfl
        clear hc5
        have pk := ((hL4).block w.heap.size (by omega)).trans p1
        have Pk := block_cell pk
        have Fk := block_frozen pk
        go_wp2_with fail
        clear Pk Fk
        generalize hV : ((((((((w4.setCell ⟨w.heap.size, 0, none⟩ _).setCell ⟨w.heap.size, 1, none⟩ _).setCell ⟨w.heap.size, 2, none⟩ _).setCell ⟨w.heap.size, 3, none⟩ _).setCell ⟨w.heap.size, 4, none⟩ _).setCell ⟨w.heap.size, 5, none⟩ _).setCell ⟨w.heap.size, 6, none⟩ _).setCell ⟨w.heap.size, 7, none⟩ _).setCell ⟨w.heap.size, 8, none⟩ _ = V
        have hV9 : V = putRow w4 w.heap.size 0 zc := hV.symm
        have hb8 : But (fun b => b = w.heap.size) w4 V := by rw [hV9]; exact putRow_but (E := fun b => b = w.heap.size) (n := w.heap.size) rfl _ _ _ _ (But.refl _ _)
        have p8 := putRow_all zc pk rfl
        rw [← hV9] at p8
        exact rexit _ w.heap.size 4 _ rfl rfl p8 ⟨(hb1.trans ((hL4).mono (by omega))).trans (hb8.below (Nat.le_trans (by omega) (hL4).size) (fun j h e => by omega)), .inl (by rw [HR.out]; exact ⟨by omega, rfl⟩)⟩

      have hc0 : Hid (chk zs = 0) := by show _ = _; unfold chk; rw [HK.out, Int.toNat_natCast, if_neg (by simp [Hg.out]), if_neg h7, if_neg h8]

      by_cases h9 : wat zs 2 - (k : Int) < 8
      · have HR : Hid (rde true zs = 3) := by show _ = _; unfold rde; rw [hm0.out, if_neg (by simp), if_neg (by simp [ral]; omega), hc0.out, if_neg (by simp), HK.out, if_pos ⟨rfl, by simp [ral]; omega⟩]
        have pk := ((hL4).block w.heap.size (by omega)).trans p1
        have Pk := block_cell pk
        have Fk := block_frozen pk
        go_wp2_with fail
        clear Pk Fk
        generalize hV : ((((((((w4.setCell ⟨w.heap.size, 0, none⟩ _).setCell ⟨w.heap.size, 1, none⟩ _).setCell ⟨w.heap.size, 2, none⟩ _).setCell ⟨w.heap.size, 3, none⟩ _).setCell ⟨w.heap.size, 4, none⟩ _).setCell ⟨w.heap.size, 5, none⟩ _).setCell ⟨w.heap.size, 6, none⟩ _).setCell ⟨w.heap.size, 7, none⟩ _).setCell ⟨w.heap.size, 8, none⟩ _ = V
        have hV9 : V = putRow w4 w.heap.size 0 zc := hV.symm
        have hb8 : But (fun b => b = w.heap.size) w4 V := by rw [hV9]; exact putRow_but (E := fun b => b = w.heap.size) (n := w.heap.size) rfl _ _ _ _ (But.refl _ _)
        have p8 := putRow_all zc pk rfl
        rw [← hV9] at p8
        exact rexit _ w.heap.size 3 _ rfl rfl p8 ⟨(hb1.trans ((hL4).mono (by omega))).trans (hb8.below (Nat.le_trans (by omega) (hL4).size) (fun j h e => by omega)), .inl (by rw [HR.out]; exact ⟨by omega, rfl⟩)⟩

      have HR : Hid (rde true zs = 0) := by show _ = _; unfold rde; rw [hm0.out, if_neg (by simp), if_neg (by simp [ral]; omega), hc0.out, if_neg (by simp), HK.out, if_neg (by simp [ral]; omega)]

      go_wp2_with fail
      obtain ⟨n, hn⟩ := Int.eq_ofNat_of_zero_le (show 0 ≤ wat zs 2 by omega)
      have hkn : 20 ≤ k ∧ k ≤ n ∧ n ≤ zs.length := by omega
      have HN : Hid (ral true zs = n) := by show _ = _; simp [ral]; omega
      have Hn := hide hn
      rw [hn]
      clear hn

      have d1 := hc 1 (by omega)
      have d8 := hc 8 (by omega)
      have d9 := hc 9 (by omega)
      have hbw4 := hb1.trans (hL4.mono (by omega))
      generalize gz1 : zs[1]?.getD 0 = z1 at *
      generalize gz8 : zs[8]?.getD 0 = z8 at *
      generalize gz9 : zs[9]?.getD 0 = z9 at *
      have G1 := hide gz1
      have G8 := hide gz8
      have G9 := hide gz9
      clear gz1 gz8 gz9
      have i1 : (1 : Int) < zs.length := by omega
      have i8 : (8 : Int) < zs.length := by omega
      have i9 : (9 : Int) < zs.length := by omega
      refine anyR_begin (R := KI w4.heap.size 26 9 (List.toArray [.int .u8 z1, .int .u16 (wat zs 4), .bool (decide (16384 ≤ wat zs 6)), .int .u8 z8, .int .u8 z9, .int .u32 (wat4 zs 12), .int .u32 (wat4 zs 16), .slice none 0 0, .slice none 0 0])) (KI.pre _ _ _ _) (fun w => KI.of (Later.drew w)) 20 rfl (by kernel_rfl) (fun W5 hW5 => ?_)
      have hbel : ∀ w1, KI w4.heap.size 26 9 (List.toArray [.int .u8 z1, .int .u16 (wat zs 4), .bool (decide (16384 ≤ wat zs 6)), .int .u8 z8, .int .u8 z9, .int .u32 (wat4 zs 12), .int .u32 (wat4 zs 16), .slice none 0 0, .slice none 0 0]) W5 w1 → Below w.heap.size w w1 := fun w1 h => hbw4.trans (((hW5.trans h).1.below (Nat.le_refl _) (fun k hk e => by omega)).mono (by omega))
      have hr1 : ∀ w1, KI w4.heap.size 26 9 (List.toArray [.int .u8 z1, .int .u16 (wat zs 4), .bool (decide (16384 ≤ wat zs 6)), .int .u8 z8, .int .u8 z9, .int .u32 (wat4 zs 12), .int .u32 (wat4 zs 16), .slice none 0 0, .slice none 0 0]) W5 w1 → Rd w.heap.size w1 (.slice (some ⟨b, off, none⟩) zs.length cap) zs := fun w1 h => hI.below (hbel w1 h)
      have e1 : ∀ w1, KI w4.heap.size 26 9 (List.toArray [.int .u8 z1, .int .u16 (wat zs 4), .bool (decide (16384 ≤ wat zs 6)), .int .u8 z8, .int .u8 z9, .int .u32 (wat4 zs 12), .int .u32 (wat4 zs 16), .slice none 0 0, .slice none 0 0]) W5 w1 → w1.cell? ⟨b, off + 1, none⟩ = some (.int .u8 z1) := fun w1 h => ((hbel w1 h).cell (p := ⟨b, off + 1, none⟩) hb).trans d1
      have e8 : ∀ w1, KI w4.heap.size 26 9 (List.toArray [.int .u8 z1, .int .u16 (wat zs 4), .bool (decide (16384 ≤ wat zs 6)), .int .u8 z8, .int .u8 z9, .int .u32 (wat4 zs 12), .int .u32 (wat4 zs 16), .slice none 0 0, .slice none 0 0]) W5 w1 → w1.cell? ⟨b, off + 8, none⟩ = some (.int .u8 z8) := fun w1 h => ((hbel w1 h).cell (p := ⟨b, off + 8, none⟩) hb).trans d8
      have e9 : ∀ w1, KI w4.heap.size 26 9 (List.toArray [.int .u8 z1, .int .u16 (wat zs 4), .bool (decide (16384 ≤ wat zs 6)), .int .u8 z8, .int .u8 z9, .int .u32 (wat4 zs 12), .int .u32 (wat4 zs 16), .slice none 0 0, .slice none 0 0]) W5 w1 → w1.cell? ⟨b, off + 9, none⟩ = some (.int .u8 z9) := fun w1 h => ((hbel w1 h).cell (p := ⟨b, off + 9, none⟩) hb).trans d9
      clear d1 d8 d9
      refine anyR_val (KI.pre _ _ _ _) 0 rfl (by kernel_rfl) (by kernel_rfl) (by kernel_rfl) (fun _ _ _ _ h => h) rfl ?_; apply Exists.intro; refine ⟨fun w1 hw1 => ?_, ?_⟩; (· (go_simp; rfl)); simp only [Act.put, List.setIfInBounds_toArray, List.set_cons_zero, List.set_cons_succ]
      refine anyR_val (KI.pre _ _ _ _) 1 rfl (by kernel_rfl) (by kernel_rfl) (by kernel_rfl) (fun _ _ _ _ h => h) rfl ?_; apply Exists.intro; refine ⟨fun w1 hw1 => ?_, ?_⟩; (· (go_simp; rfl)); simp only [Act.put, List.setIfInBounds_toArray, List.set_cons_zero, List.set_cons_succ]
      refine anyR_val (KI.pre _ _ _ _) 2 rfl (by kernel_rfl) (by kernel_rfl) (by kernel_rfl) (fun _ _ _ _ h => h) rfl ?_; apply Exists.intro; refine ⟨fun w1 hw1 => ?_, ?_⟩; (· (go_simp; rfl)); simp only [Act.put, List.setIfInBounds_toArray, List.set_cons_zero, List.set_cons_succ]
      refine anyR_val (KI.pre _ _ _ _) 3 rfl (by kernel_rfl) (by kernel_rfl) (by kernel_rfl) (fun _ _ _ _ h => h) rfl ?_; apply Exists.intro; refine ⟨fun w1 hw1 => ?_, ?_⟩; (· (go_simp; rfl)); simp only [Act.put, List.setIfInBounds_toArray, List.set_cons_zero, List.set_cons_succ]
      refine anyR_take (KI.pre _ _ _ _) 4 (.int .u16 (wat zs 4)) rfl (by kernel_rfl) (by kernel_rfl) (by kernel_rfl) (fun _ _ _ h => h) rfl (fun w1 hw1 => goes_call 53 #[.slice (some ⟨b, off, none⟩) zs.length cap, .int .i64 4] (by go_simp) ?_) ?_
      · exact (rget16_rd _ zs hB 4 (by omega) hl w1 (hr1 w1 hw1)).mono fun e w' ⟨he, hw⟩ => ⟨he, KI.of hw⟩
      simp only [Act.put, List.setIfInBounds_toArray, List.set_cons_zero, List.set_cons_succ]
      refine anyR_val (KI.pre _ _ _ _) 5 rfl (by kernel_rfl) (by kernel_rfl) (by kernel_rfl) (fun _ _ _ _ h => h) rfl ?_; apply Exists.intro; refine ⟨fun w1 hw1 => ?_, ?_⟩; (· (go_simp; rfl)); simp only [Act.put, List.setIfInBounds_toArray, List.set_cons_zero, List.set_cons_succ]
      refine anyR_val (KI.pre _ _ _ _) 6 rfl (by kernel_rfl) (by kernel_rfl) (by kernel_rfl) (fun _ _ _ _ h => h) rfl ?_; apply Exists.intro; refine ⟨fun w1 hw1 => ?_, ?_⟩; (· (go_simp; rfl)); simp only [Act.put, List.setIfInBounds_toArray, List.set_cons_zero, List.set_cons_succ]
      refine anyR_val (KI.pre _ _ _ _) 7 rfl (by kernel_rfl) (by kernel_rfl) (by kernel_rfl) (fun _ _ _ _ h => h) rfl ?_; apply Exists.intro; refine ⟨fun w1 hw1 => ?_, ?_⟩; (· (go_simp; rfl)); simp only [Act.put, List.setIfInBounds_toArray, List.set_cons_zero, List.set_cons_succ]
      refine anyR_val (KI.pre _ _ _ _) 8 rfl (by kernel_rfl) (by kernel_rfl) (by kernel_rfl) (fun _ _ _ _ h => h) rfl ?_; apply Exists.intro; refine ⟨fun w1 hw1 => ?_, ?_⟩; (· (go_simp; rfl)); simp only [Act.put, List.setIfInBounds_toArray, List.set_cons_zero, List.set_cons_succ]
      refine anyR_val (KI.pre _ _ _ _) 9 rfl (by kernel_rfl) (by kernel_rfl) (by kernel_rfl) (fun _ _ _ _ h => h) rfl ?_; apply Exists.intro; refine ⟨fun w1 hw1 => ?_, ?_⟩; (· (go_simp; rfl)); simp only [Act.put, List.setIfInBounds_toArray, List.set_cons_zero, List.set_cons_succ]
      refine anyR_val (KI.pre _ _ _ _) 10 rfl (by kernel_rfl) (by kernel_rfl) (by kernel_rfl) (fun _ _ _ _ h => h) rfl ?_; apply Exists.intro; refine ⟨fun w1 hw1 => ?_, ?_⟩; (· (go_simp; rfl)); simp only [Act.put, List.setIfInBounds_toArray, List.set_cons_zero, List.set_cons_succ]
      refine anyR_val (KI.pre _ _ _ _) 11 rfl (by kernel_rfl) (by kernel_rfl) (by kernel_rfl) (fun _ _ _ _ h => h) rfl ?_; apply Exists.intro; refine ⟨fun w1 hw1 => ?_, ?_⟩; (· (go_simp; rfl)); simp only [Act.put, List.setIfInBounds_toArray, List.set_cons_zero, List.set_cons_succ]
      refine anyR_val (KI.pre _ _ _ _) 12 rfl (by kernel_rfl) (by kernel_rfl) (by kernel_rfl) (fun _ _ _ _ h => h) rfl ?_; apply Exists.intro; refine ⟨fun w1 hw1 => ?_, ?_⟩; (· (go_simp; rfl)); simp only [Act.put, List.setIfInBounds_toArray, List.set_cons_zero, List.set_cons_succ]
      refine anyR_val (KI.pre _ _ _ _) 13 rfl (by kernel_rfl) (by kernel_rfl) (by kernel_rfl) (fun _ _ _ _ h => h) rfl ?_; apply Exists.intro; refine ⟨fun w1 hw1 => ?_, ?_⟩; (· (go_simp; rfl)); simp only [Act.put, List.setIfInBounds_toArray, List.set_cons_zero, List.set_cons_succ]
      refine anyR_take (KI.pre _ _ _ _) 14 (.int .u32 (wat4 zs 12)) rfl (by kernel_rfl) (by kernel_rfl) (by kernel_rfl) (fun _ _ _ h => h) rfl (fun w1 hw1 => goes_call 54 #[.slice (some ⟨b, off, none⟩) zs.length cap, .int .i64 12] (by go_simp) ?_) ?_
      · exact (rget32_rd _ zs hB 12 (by omega) hl w1 (hr1 w1 hw1)).mono fun e w' ⟨he, hw⟩ => ⟨he, KI.of hw⟩
      simp only [Act.put, List.setIfInBounds_toArray, List.set_cons_zero, List.set_cons_succ]
      refine anyR_val (KI.pre _ _ _ _) 15 rfl (by kernel_rfl) (by kernel_rfl) (by kernel_rfl) (fun _ _ _ _ h => h) rfl ?_; apply Exists.intro; refine ⟨fun w1 hw1 => ?_, ?_⟩; (· (go_simp; rfl)); simp only [Act.put, List.setIfInBounds_toArray, List.set_cons_zero, List.set_cons_succ]
      refine anyR_take (KI.pre _ _ _ _) 16 (.int .u32 (wat4 zs 16)) rfl (by kernel_rfl) (by kernel_rfl) (by kernel_rfl) (fun _ _ _ h => h) rfl (fun w1 hw1 => goes_call 54 #[.slice (some ⟨b, off, none⟩) zs.length cap, .int .i64 16] (by go_simp) ?_) ?_
      · exact (rget32_rd _ zs hB 16 (by omega) hl w1 (hr1 w1 hw1)).mono fun e w' ⟨he, hw⟩ => ⟨he, KI.of hw⟩
      simp only [Act.put, List.setIfInBounds_toArray, List.set_cons_zero, List.set_cons_succ]
      refine anyR_val (KI.pre _ _ _ _) 17 rfl (by kernel_rfl) (by kernel_rfl) (by kernel_rfl) (fun _ _ _ _ h => h) rfl ?_; apply Exists.intro; refine ⟨fun w1 hw1 => ?_, ?_⟩; (· (go_simp; rfl)); simp only [Act.put, List.setIfInBounds_toArray, List.set_cons_zero, List.set_cons_succ]

      refine anyR_one 18 rfl (by kernel_rfl) rfl (fun W6 hW6 => ?_)
      have hs6 : w4.heap.size ≤ W6.heap.size := (hW5.trans hW6).1.size
      unfold Oper.wp
      go_simp
      refine ⟨KI.of ((Below.refl _ _).alloc (Nat.le_refl _) _), ?_⟩
      refine anyR_one 19 rfl (by kernel_rfl) rfl (fun W7 hW7 => ?_)
      have hwr : Wr W6.heap.size 9 26 W7 := hW7.2.1 _ ⟨_, heap_alloc_new W6 _, rfl⟩
      have hst := KI.store (n₁ := w4.heap.size) [.int .u8 z1, .int .u16 (wat zs 4), .bool (decide (16384 ≤ wat zs 6)), .int .u8 z8, .int .u8 z9, .int .u32 (wat4 zs 12), .int .u32 (wat4 zs 16), .slice none 0 0, .slice none 0 0] hs6 hwr rfl
      obtain ⟨cur, hcur, hsz⟩ := hwr
      have k7 := block_cell hcur
      have f7 := block_frozen hcur
      have HS := hide hst
      clear hst
      unfold Oper.wp
      go_simp
      generalize hV : ((((((((W7.setCell ⟨W6.heap.size, 0, none⟩ _).setCell ⟨W6.heap.size, 1, none⟩ _).setCell ⟨W6.heap.size, 2, none⟩ _).setCell ⟨W6.heap.size, 3, none⟩ _).setCell ⟨W6.heap.size, 4, none⟩ _).setCell ⟨W6.heap.size, 5, none⟩ _).setCell ⟨W6.heap.size, 6, none⟩ _).setCell ⟨W6.heap.size, 7, none⟩ _).setCell ⟨W6.heap.size, 8, none⟩ _ = V
      have hV9 : V = putRow W7 W6.heap.size 0 [.int .u8 z1, .int .u16 (wat zs 4), .bool (decide (16384 ≤ wat zs 6)), .int .u8 z8, .int .u8 z9, .int .u32 (wat4 zs 12), .int .u32 (wat4 zs 16), .slice none 0 0, .slice none 0 0] := hV.symm
      have hst := HS.out
      rw [← hV9] at hst
      clear hV hV9 HS k7 f7
      refine ⟨hst.1, anyR_done (by kernel_rfl) (fun W8 hW8 => ?_)⟩
      have p8 := hW8.2.2 _ hst.2
      have hwW8 : Below w.heap.size w W8 := hbel W8 (((hW6.trans (KI.of ((Below.refl _ _).alloc (Nat.le_refl _) _))).trans hW7).trans (hst.1.trans hW8))
      have hq8 : w.heap.size < W6.heap.size := by omega
      have pw8 : Wr w.heap.size 9 26 W8 := hW8.2.1 _ (hst.1.2.1 _ (hW7.2.1 _ ((KI.of ((Below.refl W6.heap.size W6).alloc (Nat.le_refl _) _) : KI w4.heap.size 26 9 (List.toArray [.int .u8 z1, .int .u16 (wat zs 4), .bool (decide (16384 ≤ wat zs 6)), .int .u8 z8, .int .u8 z9, .int .u32 (wat4 zs 12), .int .u32 (wat4 zs 16), .slice none 0 0, .slice none 0 0]) W6 _).2.1 _ (hW6.2.1 _ (hW5.2.1 _ ⟨_, (hL4.block w.heap.size (by omega)).trans p1, rfl⟩)))))
      generalize W6.heap.size = pb at *
      clear hbel hr1 e1 e8 e9 hst hW7 hW6 hs6 hcur hsz hW8
      have hs8 := (Array.getElem?_eq_some_iff.1 p8).1
      have P8 := block_cell p8
      go_wp2_with fail
      have hR8 := (((hI.below hwW8).take k (by omega)).cutAt 20 (by omega)).drew 1
      obtain ⟨v9, W9, hrun9, hown9, hgr9⟩ := run_app (P := Tryd.prog) W8.drew 24 24 5 (pb + 1) i0 Tryd.underlying24 hi hz0 hz1 hz2 (.slice none 0 0) [] (World.ownsRow_nil _ _ _ _) w.heap.size _ ((zs.take k).drop 20) hR8 (by simp; omega) hs8
      have hl9 : Later W8 W9 := Later.trans (Later.drew W8) ((Below.refl _ W8.drew).grown hgr9 (Nat.le_refl _) (fun _ e => by cases e))
      have hO9 := Ow.of_row hown9
      rw [List.nil_append] at hO9
      obtain ⟨a9, cap9, rfl, hq9, hm9⟩ := hO9.slice
      clear hown9 hgr9 hR8
      have p9 := (hl9.block pb hs8).trans p8
      have P9 := block_cell p9
      have F9 := block_frozen p9
      have hLo : Hid (((zs.take k).drop 20).length = k - 20) := by show _ = _; simp; omega
      rw [hLo.out] at hrun9 hO9
      have i20 : (20 : Int) ≤ k := by omega
      go_region_law (refine step_run rfl (.tmp 92) (.tmp 95) 24 rfl _ _ rfl rfl _ W9 hrun9 ?_)
      clear hrun9 P8 P9 F9
      generalize (if cap = 20 then some (⟨b, off, none⟩ : Addr) else some ⟨b, off + 20, none⟩) = ad20 at *
      have p10 : (W9.setCell ⟨pb, 7, none⟩ (.slice a9 (k - 20) cap9)).heap[pb]? = some (.cells (List.toArray [.int .u8 z1, .int .u16 (wat zs 4), .bool (decide (16384 ≤ wat zs 6)), .int .u8 z8, .int .u8 z9, .int .u32 (wat4 zs 12), .int .u32 (wat4 zs 16), .slice a9 (k - 20) cap9, .slice none 0 0]) 26 (0, 0)) := heap_set1 p9 7 (.slice a9 (k - 20) cap9)
      have hE9 : But (fun b => b = pb) W9 (W9.setCell ⟨pb, 7, none⟩ (.slice a9 (k - 20) cap9)) := (But.refl (fun b => b = pb) W9).setCell (p := ⟨pb, 7, none⟩) (E := fun b => b = pb) rfl _
      have hO10 := hO9.but hE9 (fun b h e => by omega)
      have hw10 : Below w.heap.size w _ := (hwW8.trans (hl9.mono hwW8.size)).setCell (p := ⟨pb, 7, none⟩) (Nat.le_of_lt hq8) (.slice a9 (k - 20) cap9)
      have pw10 : Wr w.heap.size 9 26 (W9.setCell ⟨pb, 7, none⟩ (.slice a9 (k - 20) cap9)) := by
        obtain ⟨c, h1, h2⟩ := pw8.later hl9
        exact ⟨c, (hE9.block _ (Array.getElem?_eq_some_iff.1 h1).1 (by omega)).trans h1, h2⟩
      generalize W9.setCell ⟨pb, 7, none⟩ (.slice a9 (k - 20) cap9) = W10 at *
      clear hO9 p9 hE9 hl9 hwW8 pw8
      have hs10 := (Array.getElem?_eq_some_iff.1 p10).1
      have P10 := block_cell p10
      go_wp2_with fail
      have hR10 := (((hI.below hw10).take n (by omega)).cutAt k (by omega)).drew 1
      obtain ⟨v11, W11, hrun11, hown11, hgr11⟩ := run_app (P := Tryd.prog) W10.drew 24 24 5 (pb + 1) i0 Tryd.underlying24 hi hz0 hz1 hz2 (.slice none 0 0) [] (World.ownsRow_nil _ _ _ _) w.heap.size _ ((zs.take n).drop k) hR10 (by simp; omega) hs10
      have hl11 : Later W10 W11 := Later.trans (Later.drew W10) ((Below.refl _ W10.drew).grown hgr11 (Nat.le_refl _) (fun _ e => by cases e))
      have hO11 := Ow.of_row hown11
      rw [List.nil_append] at hO11
      obtain ⟨a11, cap11, rfl, hq11, hm11⟩ := hO11.slice
      clear hown11 hgr11 hR10
      have p11 := (hl11.block pb hs10).trans p10
      have P11 := block_cell p11
      have F11 := block_frozen p11
      have hLd : Hid (((zs.take n).drop k).length = n - k) := by show _ = _; simp; try omega
      rw [hLd.out] at hrun11 hO11
      have ikn : (k : Int) ≤ n := by omega
      have inc : n ≤ cap := by omega
      have inc2 : (n : Int) ≤ cap := by omega
      go_region_law (refine step_run rfl (.tmp 99) (.tmp 103) 24 rfl _ _ rfl rfl _ W11 hrun11 ?_)
      clear hrun11 P10 P11 F11
      generalize (if cap = k then some (⟨b, off, none⟩ : Addr) else some ⟨b, off + k, none⟩) = adk at *
      have p12 : (W11.setCell ⟨pb, 8, none⟩ (.slice a11 (n - k) cap11)).heap[pb]? = some (.cells (List.toArray [.int .u8 z1, .int .u16 (wat zs 4), .bool (decide (16384 ≤ wat zs 6)), .int .u8 z8, .int .u8 z9, .int .u32 (wat4 zs 12), .int .u32 (wat4 zs 16), .slice a9 (k - 20) cap9, .slice a11 (n - k) cap11]) 26 (0, 0)) := heap_set1 p11 8 (.slice a11 (n - k) cap11)
      have hE11 : But (fun b => b = pb) W11 (W11.setCell ⟨pb, 8, none⟩ (.slice a11 (n - k) cap11)) := (But.refl (fun b => b = pb) W11).setCell (p := ⟨pb, 8, none⟩) (E := fun b => b = pb) rfl _
      have hO12 := hO11.but hE11 (fun b h e => by omega)
      have hO13 := (hO10.below hl11 (Nat.le_refl _)).but hE11 (fun b h e => by omega)
      have hw12 : Below w.heap.size w _ := (hw10.trans (hl11.mono hw10.size)).setCell (p := ⟨pb, 8, none⟩) (Nat.le_of_lt hq8) (.slice a11 (n - k) cap11)
      have pw12 : Wr w.heap.size 9 26 (W11.setCell ⟨pb, 8, none⟩ (.slice a11 (n - k) cap11)) := by
        obtain ⟨c, h1, h2⟩ := pw10.later hl11
        exact ⟨c, (hE11.block _ (Array.getElem?_eq_some_iff.1 h1).1 (by omega)).trans h1, h2⟩
      generalize W11.setCell ⟨pb, 8, none⟩ (.slice a11 (n - k) cap11) = W12 at *
      clear hO11 p11 hE11 hl11 hw10 pw10 hO10
      have P12 := block_cell p12
      obtain ⟨cur, hcur, hsz⟩ := pw12
      have C12 := block_cell hcur
      have F12 := block_frozen hcur
      go_wp2_with fail
      generalize hV : ((((((((W12.setCell ⟨w.heap.size, 0, none⟩ _).setCell ⟨w.heap.size, 1, none⟩ _).setCell ⟨w.heap.size, 2, none⟩ _).setCell ⟨w.heap.size, 3, none⟩ _).setCell ⟨w.heap.size, 4, none⟩ _).setCell ⟨w.heap.size, 5, none⟩ _).setCell ⟨w.heap.size, 6, none⟩ _).setCell ⟨w.heap.size, 7, none⟩ _).setCell ⟨w.heap.size, 8, none⟩ _ = V
      have hV9 : V = putRow W12 w.heap.size 0 [.int .u8 z1, .int .u16 (wat zs 4), .bool (decide (16384 ≤ wat zs 6)), .int .u8 z8, .int .u8 z9, .int .u32 (wat4 zs 12), .int .u32 (wat4 zs 16), .slice a9 (k - 20) cap9, .slice a11 (n - k) cap11] := hV.symm
      have hb13 : But (fun b => b = w.heap.size) W12 V := by rw [hV9]; exact putRow_but (E := fun b => b = w.heap.size) (n := w.heap.size) rfl _ _ _ _ (But.refl _ _)
      have p13 := putRow_all [.int .u8 z1, .int .u16 (wat zs 4), .bool (decide (16384 ≤ wat zs 6)), .int .u8 z8, .int .u8 z9, .int .u32 (wat4 zs 12), .int .u32 (wat4 zs 16), .slice a9 (k - 20) cap9, .slice a11 (n - k) cap11] hcur (by simpa using hsz)
      rw [← hV9] at p13
      have hd : decide (16384 ≤ wat zs 6 % 32768) = decide (16384 ≤ wat zs 6) := by rw [Int.emod_eq_of_lt (by omega) (by omega)]
      have hpk : pkt zs (.slice a9 (k - 20) cap9) (.slice a11 (n - k) cap11) = .agg (List.toArray [.int .u8 z1, .int .u16 (wat zs 4), .bool (decide (16384 ≤ wat zs 6)), .int .u8 z8, .int .u8 z9, .int .u32 (wat4 zs 12), .int .u32 (wat4 zs 16), .slice a9 (k - 20) cap9, .slice a11 (n - k) cap11]) := by unfold pkt; rw [G1.out, G8.out, G9.out, hd]
      refine bodyPost_ret (v := .tuple #[pkt zs (.slice a9 (k - 20) cap9) (.slice a11 (n - k) cap11), .int .i64 0]) (by rw [hpk]; exact res_rread _ w.heap.size 0 _ _ _ _ _ _ _ _ _ V rfl rfl p13) rfl ⟨hw12.trans (hb13.below hw12.size (fun j h e => by omega)), .inr ⟨HR.out, _, _, rfl, ?_, ?_⟩⟩
      · rw [HK.out, Int.toNat_natCast]
        exact (hO13.but hb13 (fun b h e => by omega)).mono (by omega)
      · rw [HK.out, HN.out, Int.toNat_natCast, Int.toNat_natCast]
        exact (hO12.but hb13 (fun b h e => by omega)).mono (by omega)
end Go.Proofs.YtojoaidnkljcpaaDoor

/- The document's Parse and Quote. -/
namespace Go.Proofs.YtojoaidnkljcpaaDoor
open Go.RowKit Go.Shelf
set_option maxRecDepth 100000
set_option linter.unusedVariables false
set_option linter.unusedSimpArgs false

set_option maxHeartbeats 1000000 in
theorem rquote_any (sv : Value) (zs : List Int) (w : World) (hB : Mt.By zs) (hl : zs.length ≤ 140737488355328) (hI : Rd w.heap.size w sv zs) :
    Calls Tryd.prog 62 #[sv] w fun e w' => Below w.heap.size w w' ∧
      ((rde true zs ≠ 0 ∧ e = .returned (.tuple #[.agg zc.toArray, .int .i64 (rde true zs)])) ∨
       (rde true zs = 0 ∧ ∃ so sd, e = .returned (.tuple #[pkt zs so sd, .int .i64 0]) ∧ Ow w.heap.size w' so ((zs.take (hl4 zs).toNat).drop 20) ∧ Ow w.heap.size w' sd ((zs.take (ral true zs).toNat).drop (hl4 zs).toNat))) := by
  obtain ⟨a, cap, rfl, hl1, hm1⟩ := hI.slice
  have hb1 : Below w.heap.size w (w.alloc (.cells zc.toArray 26)) := (Below.refl _ _).alloc (Nat.le_refl _) _
  have p1 := heap_alloc_new w (.cells zc.toArray 26)
  have H := hide (rread_any true _ zs (w.alloc (.cells zc.toArray 26)) hB hl ((hI.below hb1).mono (by simp)))
  go_enter Tryd.func62, Tryd.ntmps62
  go_wp2_with fail
  refine H.out.mono ?_
  rintro e w2 ⟨hb2, ⟨h, rfl⟩ | ⟨h, so, sd, rfl, hO1, hO2⟩⟩
  · have p2 := (hb2.block w.heap.size (by simp)).trans p1
    have P2 := block_cell p2
    have F2 := block_frozen p2
    go_wp2_with fail
    generalize hV : ((((((((w2.setCell ⟨w.heap.size, 0, none⟩ _).setCell ⟨w.heap.size, 1, none⟩ _).setCell ⟨w.heap.size, 2, none⟩ _).setCell ⟨w.heap.size, 3, none⟩ _).setCell ⟨w.heap.size, 4, none⟩ _).setCell ⟨w.heap.size, 5, none⟩ _).setCell ⟨w.heap.size, 6, none⟩ _).setCell ⟨w.heap.size, 7, none⟩ _).setCell ⟨w.heap.size, 8, none⟩ _ = V
    have hV9 : V = putRow w2 w.heap.size 0 zc := hV.symm
    have hb8 : But (fun b => b = w.heap.size) w2 V := by rw [hV9]; exact putRow_but (E := fun b => b = w.heap.size) (n := w.heap.size) rfl _ _ _ _ (But.refl _ _)
    have p8 := putRow_all zc p2 rfl
    rw [← hV9] at p8
    clear hV hV9 P2 F2 H
    have P8 := block_cell p8
    have hbW := (hb1.trans (hb2.mono (by simp))).trans (hb8.below (by have := hb2.size; simp at this; omega) (fun j h e => by omega))
    exact bodyPost_ret (v := .tuple #[.agg zc.toArray, .int .i64 (rde true zs)]) (by simp [results, Tryd.results62, go_sem, P8]) rfl ⟨hbW, .inl ⟨h, rfl⟩⟩
  · have p2 := (hb2.block w.heap.size (by simp)).trans p1
    have P2 := block_cell p2
    have F2 := block_frozen p2
    obtain ⟨aso, cso, rfl, _, _⟩ := hO1.slice
    obtain ⟨asd, csd, rfl, _, _⟩ := hO2.slice
    generalize hL1 : ((zs.take (hl4 zs).toNat).drop 20).length = lo at *
    generalize hL2 : ((zs.take (ral true zs).toNat).drop (hl4 zs).toNat).length = ld at *
    have HL1 := hide hL1
    have HL2 := hide hL2
    clear hL1 hL2
    unfold pkt
    go_wp2_with fail
    generalize hV : ((((((((w2.setCell ⟨w.heap.size, 0, none⟩ _).setCell ⟨w.heap.size, 1, none⟩ _).setCell ⟨w.heap.size, 2, none⟩ _).setCell ⟨w.heap.size, 3, none⟩ _).setCell ⟨w.heap.size, 4, none⟩ _).setCell ⟨w.heap.size, 5, none⟩ _).setCell ⟨w.heap.size, 6, none⟩ _).setCell ⟨w.heap.size, 7, none⟩ _).setCell ⟨w.heap.size, 8, none⟩ _ = V
    have hV9 : V = putRow w2 w.heap.size 0 [.int .u8 (zs[1]?.getD 0), .int .u16 (wat zs 4), .bool (decide (16384 ≤ wat zs 6 % 32768)), .int .u8 (zs[8]?.getD 0), .int .u8 (zs[9]?.getD 0), .int .u32 (wat4 zs 12), .int .u32 (wat4 zs 16), .slice aso lo cso, .slice asd ld csd] := hV.symm
    have hb8 : But (fun b => b = w.heap.size) w2 V := by rw [hV9]; exact putRow_but (E := fun b => b = w.heap.size) (n := w.heap.size) rfl _ _ _ _ (But.refl _ _)
    have p8 := putRow_all [.int .u8 (zs[1]?.getD 0), .int .u16 (wat zs 4), .bool (decide (16384 ≤ wat zs 6 % 32768)), .int .u8 (zs[8]?.getD 0), .int .u8 (zs[9]?.getD 0), .int .u32 (wat4 zs 12), .int .u32 (wat4 zs 16), .slice aso lo cso, .slice asd ld csd] p2 rfl
    rw [← hV9] at p8
    clear hV hV9 P2 F2 H
    have P8 := block_cell p8
    have hbW := (hb1.trans (hb2.mono (by simp))).trans (hb8.below (by have := hb2.size; simp at this; omega) (fun j h e => by omega))
    exact bodyPost_ret (v := .tuple #[pkt zs (.slice aso lo cso) (.slice asd ld csd), .int .i64 0]) (by simp [results, Tryd.results62, go_sem, P8, pkt]) rfl ⟨hbW, .inr ⟨h, _, _, rfl, (hO1.but hb8 (fun b h e => by simp at h; omega)).mono (by simp), (hO2.but hb8 (fun b h e => by simp at h; omega)).mono (by simp)⟩⟩

end Go.Proofs.YtojoaidnkljcpaaDoor

/- The document's Inner: where it refuses; segments and datagrams. -/
namespace Go.Proofs.YtojoaidnkljcpaaDoor
open Go.RowKit Go.Shelf
set_option maxRecDepth 100000
set_option linter.unusedVariables false
set_option linter.unusedSimpArgs false

def rin (v : Value) (c : Int) (e : Ending) : Prop := ∃ (y0 y1 : Int) (y2 : Bool) (y3 y4 y5 y6 : Int) (y7 : Option Addr) (m7 d7 : Nat) (y8 : Option Addr) (m8 d8 : Nat), e = .returned (.tuple #[.agg #[.int .u8 y0, .int .u16 y1, .bool y2, .int .u8 y3, .int .u8 y4, .int .u32 y5, .int .u32 y6, .slice y7 m7 d7, .slice y8 m8 d8], v, .int .i64 c])
theorem rin_mk (y0 y1 : Int) (y2 : Bool) (y3 y4 y5 y6 : Int) (y7 : Option Addr) (m7 d7 : Nat) (y8 : Option Addr) (m8 d8 : Nat) (v : Value) (c : Int) : rin v c (.returned (.tuple #[.agg #[.int .u8 y0, .int .u16 y1, .bool y2, .int .u8 y3, .int .u8 y4, .int .u32 y5, .int .u32 y6, .slice y7 m7 d7, .slice y8 m8 d8], v, .int .i64 c])) := ⟨_, _, _, _, _, _, _, _, _, _, _, _, _, rfl⟩

set_option maxHeartbeats 4000000 in
theorem rinner_kind (proto : Int) (tos id ttl src dst : Int) (keep : Bool) (so sd : Value) (zd : List Int) (w : World) (hB : Mt.By zd) (hI : Rd w.heap.size w sd zd) (hl : zd.length ≤ 1099511627776) (hp : proto ≠ 1) : Calls Tryd.prog 35 #[.agg #[.int .u8 tos, .int .u16 id, .bool keep, .int .u8 ttl, .int .u8 proto, .int .u32 src, .int .u32 dst, so, sd]] w fun e w' => Below w.heap.size w w' ∧ rin (.agg #[.int .u8 0, .int .u32 0, .int .u32 0, .int .u16 0, .int .u16 0]) 12 e := by
  have hne : (proto != 1) = true := by simp [hp]
  clear hp
  obtain ⟨ad, cd, rfl, _, _⟩ := hI.slice
  have hb0 : Below w.heap.size w (((w.alloc (.cells #[.int .u8 tos, .int .u16 id, .bool keep, .int .u8 ttl, .int .u8 proto, .int .u32 src, .int .u32 dst, so, .slice ad zd.length cd] 26)).alloc (.cells #[.int .u8 0, .int .u16 0, .bool false, .int .u8 0, .int .u8 0, .int .u32 0, .int .u32 0, .slice none 0 0, .slice none 0 0] 26)).alloc (.cells #[.int .u8 0, .int .u32 0, .int .u32 0, .int .u16 0, .int .u16 0] 28)) := ((((Below.refl _ _).alloc (Nat.le_refl _) _).alloc (by simp) _).alloc (by simp <;> omega) _)
  have r0 : (((w.alloc (.cells #[.int .u8 tos, .int .u16 id, .bool keep, .int .u8 ttl, .int .u8 proto, .int .u32 src, .int .u32 dst, so, .slice ad zd.length cd] 26)).alloc (.cells #[.int .u8 0, .int .u16 0, .bool false, .int .u8 0, .int .u8 0, .int .u32 0, .int .u32 0, .slice none 0 0, .slice none 0 0] 26)).alloc (.cells #[.int .u8 0, .int .u32 0, .int .u32 0, .int .u16 0, .int .u16 0] 28)).heap[w.heap.size + 1]? = some (.cells #[.int .u8 0, .int .u16 0, .bool false, .int .u8 0, .int .u8 0, .int .u32 0, .int .u32 0, .slice none 0 0, .slice none 0 0] 26) := by
    have := heap_alloc_new (w.alloc (.cells #[.int .u8 tos, .int .u16 id, .bool keep, .int .u8 ttl, .int .u8 proto, .int .u32 src, .int .u32 dst, so, .slice ad zd.length cd] 26)) (.cells #[.int .u8 0, .int .u16 0, .bool false, .int .u8 0, .int .u8 0, .int .u32 0, .int .u32 0, .slice none 0 0, .slice none 0 0] 26)
    rw [World.size_alloc] at this
    exact (Below.heap_alloc _ _ _ (by simp)).trans this
  have s0 : (((w.alloc (.cells #[.int .u8 tos, .int .u16 id, .bool keep, .int .u8 ttl, .int .u8 proto, .int .u32 src, .int .u32 dst, so, .slice ad zd.length cd] 26)).alloc (.cells #[.int .u8 0, .int .u16 0, .bool false, .int .u8 0, .int .u8 0, .int .u32 0, .int .u32 0, .slice none 0 0, .slice none 0 0] 26)).alloc (.cells #[.int .u8 0, .int .u32 0, .int .u32 0, .int .u16 0, .int .u16 0] 28)).heap[w.heap.size + 1 + 1]? = some (.cells #[.int .u8 0, .int .u32 0, .int .u32 0, .int .u16 0, .int .u16 0] 28) := by
    have := heap_alloc_new ((w.alloc (.cells #[.int .u8 tos, .int .u16 id, .bool keep, .int .u8 ttl, .int .u8 proto, .int .u32 src, .int .u32 dst, so, .slice ad zd.length cd] 26)).alloc (.cells #[.int .u8 0, .int .u16 0, .bool false, .int .u8 0, .int .u8 0, .int .u32 0, .int .u32 0, .slice none 0 0, .slice none 0 0] 26)) (.cells #[.int .u8 0, .int .u32 0, .int .u32 0, .int .u16 0, .int .u16 0] 28)
    simpa only [World.size_alloc] using this
  have R0 := hide r0
  have S0 := hide s0
  clear r0 s0
  go_enter Tryd.func35, Tryd.ntmps35
  go_upto_region 2 with fail
  generalize (((w.alloc (.cells #[.int .u8 tos, .int .u16 id, .bool keep, .int .u8 ttl, .int .u8 proto, .int .u32 src, .int .u32 dst, so, .slice ad zd.length cd] 26)).alloc (.cells #[.int .u8 0, .int .u16 0, .bool false, .int .u8 0, .int .u8 0, .int .u32 0, .int .u32 0, .slice none 0 0, .slice none 0 0] 26)).alloc (.cells #[.int .u8 0, .int .u32 0, .int .u32 0, .int .u16 0, .int .u16 0] 28)) = w0 at *
  have rX := R0.out
  have sX := S0.out
  have hwX := hb0
  have kX := block_cell rX
  have fX := block_frozen rX
  have kS := block_cell sX
  have fS := block_frozen sX
  go_wp2_with fail
  generalize hV : (((((((((((((w0.setCell ⟨w.heap.size + 1, 0, none⟩ _).setCell ⟨w.heap.size + 1, 1, none⟩ _).setCell ⟨w.heap.size + 1, 2, none⟩ _).setCell ⟨w.heap.size + 1, 3, none⟩ _).setCell ⟨w.heap.size + 1, 4, none⟩ _).setCell ⟨w.heap.size + 1, 5, none⟩ _).setCell ⟨w.heap.size + 1, 6, none⟩ _).setCell ⟨w.heap.size + 1, 7, none⟩ _).setCell ⟨w.heap.size + 1, 8, none⟩ _).setCell ⟨w.heap.size + 1 + 1, 0, none⟩ _).setCell ⟨w.heap.size + 1 + 1, 1, none⟩ _).setCell ⟨w.heap.size + 1 + 1, 2, none⟩ _).setCell ⟨w.heap.size + 1 + 1, 3, none⟩ _).setCell ⟨w.heap.size + 1 + 1, 4, none⟩ _ = V
  have hV8 : V = putRow (putRow w0 (w.heap.size + 1) 0 [.int .u8 0, .int .u16 0, .bool false, .int .u8 0, .int .u8 0, .int .u32 0, .int .u32 0, .slice none 0 0, .slice none 0 0]) (w.heap.size + 1 + 1) 0 [.int .u8 0, .int .u32 0, .int .u32 0, .int .u16 0, .int .u16 0] := hV.symm
  have hbY : But (fun b => b = w.heap.size + 1) w0 (putRow w0 (w.heap.size + 1) 0 [.int .u8 0, .int .u16 0, .bool false, .int .u8 0, .int .u8 0, .int .u32 0, .int .u32 0, .slice none 0 0, .slice none 0 0]) := putRow_but (E := fun b => b = w.heap.size + 1) (n := w.heap.size + 1) rfl _ _ _ _ (But.refl _ _)
  have pY := putRow_all ([.int .u8 0, .int .u16 0, .bool false, .int .u8 0, .int .u8 0, .int .u32 0, .int .u32 0, .slice none 0 0, .slice none 0 0] : List Value) rX rfl
  have sY := (hbY.block (w.heap.size + 1 + 1) (Array.getElem?_eq_some_iff.1 sX).1 (by omega)).trans sX
  generalize putRow w0 (w.heap.size + 1) 0 [.int .u8 0, .int .u16 0, .bool false, .int .u8 0, .int .u8 0, .int .u32 0, .int .u32 0, .slice none 0 0, .slice none 0 0] = Y at *
  have hbV : But (fun b => b = w.heap.size + 1 + 1) Y V := by rw [hV8]; exact putRow_but (E := fun b => b = w.heap.size + 1 + 1) (n := w.heap.size + 1 + 1) rfl _ _ _ _ (But.refl _ _)
  have qV := putRow_all ([.int .u8 0, .int .u32 0, .int .u32 0, .int .u16 0, .int .u16 0] : List Value) sY rfl
  rw [← hV8] at qV
  have pV := (hbV.block (w.heap.size + 1) (Array.getElem?_eq_some_iff.1 pY).1 (by omega)).trans pY
  clear hV8 kX fX kS fS
  have PV := block_cell pV
  have QV := block_cell qV
  have hwV : Below w.heap.size w V := (hwX.trans (hbY.below hwX.size (fun k hk e => by omega))).trans (hbV.below (Nat.le_trans hwX.size hbY.size) (fun k hk e => by omega))
  exact bodyPost_ret (v := .tuple #[.agg #[.int .u8 0, .int .u16 0, .bool false, .int .u8 0, .int .u8 0, .int .u32 0, .int .u32 0, .slice none 0 0, .slice none 0 0], .agg #[.int .u8 0, .int .u32 0, .int .u32 0, .int .u16 0, .int .u16 0], .int .i64 12]) (by simp [results, Tryd.results35, go_sem, PV, QV]) rfl ⟨hwV, rin_mk _ _ _ _ _ _ _ _ _ _ _ _ _ _ _⟩

set_option maxHeartbeats 4000000 in
theorem rinner_bad (tos id ttl src dst : Int) (keep : Bool) (so sd : Value) (zd : List Int) (w : World) (hB : Mt.By zd) (hI : Rd w.heap.size w sd zd) (hl : zd.length ≤ 1099511627776) (hbad : pie 1 zd ≠ 0 ∨ erb (zd[0]?.getD 0) = false ∨ rde true (zd.drop 8) ≠ 0) : Calls Tryd.prog 35 #[.agg #[.int .u8 tos, .int .u16 id, .bool keep, .int .u8 ttl, .int .u8 1, .int .u32 src, .int .u32 dst, so, sd]] w fun e w' => Below w.heap.size w w' ∧ rin (.agg #[.int .u8 0, .int .u32 0, .int .u32 0, .int .u16 0, .int .u16 0]) (que 1 zd) e := by
  obtain ⟨ad, cd, rfl, _, _⟩ := hI.slice
  have hb0 : Below w.heap.size w (((w.alloc (.cells #[.int .u8 tos, .int .u16 id, .bool keep, .int .u8 ttl, .int .u8 1, .int .u32 src, .int .u32 dst, so, .slice ad zd.length cd] 26)).alloc (.cells #[.int .u8 0, .int .u16 0, .bool false, .int .u8 0, .int .u8 0, .int .u32 0, .int .u32 0, .slice none 0 0, .slice none 0 0] 26)).alloc (.cells #[.int .u8 0, .int .u32 0, .int .u32 0, .int .u16 0, .int .u16 0] 28)) := ((((Below.refl _ _).alloc (Nat.le_refl _) _).alloc (by simp) _).alloc (by simp <;> omega) _)
  have r0 : (((w.alloc (.cells #[.int .u8 tos, .int .u16 id, .bool keep, .int .u8 ttl, .int .u8 1, .int .u32 src, .int .u32 dst, so, .slice ad zd.length cd] 26)).alloc (.cells #[.int .u8 0, .int .u16 0, .bool false, .int .u8 0, .int .u8 0, .int .u32 0, .int .u32 0, .slice none 0 0, .slice none 0 0] 26)).alloc (.cells #[.int .u8 0, .int .u32 0, .int .u32 0, .int .u16 0, .int .u16 0] 28)).heap[w.heap.size + 1]? = some (.cells #[.int .u8 0, .int .u16 0, .bool false, .int .u8 0, .int .u8 0, .int .u32 0, .int .u32 0, .slice none 0 0, .slice none 0 0] 26) := by
    have := heap_alloc_new (w.alloc (.cells #[.int .u8 tos, .int .u16 id, .bool keep, .int .u8 ttl, .int .u8 1, .int .u32 src, .int .u32 dst, so, .slice ad zd.length cd] 26)) (.cells #[.int .u8 0, .int .u16 0, .bool false, .int .u8 0, .int .u8 0, .int .u32 0, .int .u32 0, .slice none 0 0, .slice none 0 0] 26)
    rw [World.size_alloc] at this
    exact (Below.heap_alloc _ _ _ (by simp)).trans this
  have s0 : (((w.alloc (.cells #[.int .u8 tos, .int .u16 id, .bool keep, .int .u8 ttl, .int .u8 1, .int .u32 src, .int .u32 dst, so, .slice ad zd.length cd] 26)).alloc (.cells #[.int .u8 0, .int .u16 0, .bool false, .int .u8 0, .int .u8 0, .int .u32 0, .int .u32 0, .slice none 0 0, .slice none 0 0] 26)).alloc (.cells #[.int .u8 0, .int .u32 0, .int .u32 0, .int .u16 0, .int .u16 0] 28)).heap[w.heap.size + 1 + 1]? = some (.cells #[.int .u8 0, .int .u32 0, .int .u32 0, .int .u16 0, .int .u16 0] 28) := by
    have := heap_alloc_new ((w.alloc (.cells #[.int .u8 tos, .int .u16 id, .bool keep, .int .u8 ttl, .int .u8 1, .int .u32 src, .int .u32 dst, so, .slice ad zd.length cd] 26)).alloc (.cells #[.int .u8 0, .int .u16 0, .bool false, .int .u8 0, .int .u8 0, .int .u32 0, .int .u32 0, .slice none 0 0, .slice none 0 0] 26)) (.cells #[.int .u8 0, .int .u32 0, .int .u32 0, .int .u16 0, .int .u16 0] 28)
    simpa only [World.size_alloc] using this
  have R0 := hide r0
  have S0 := hide s0
  clear r0 s0
  go_enter Tryd.func35, Tryd.ntmps35
  go_wp2_with fail
  generalize (((w.alloc (.cells #[.int .u8 tos, .int .u16 id, .bool keep, .int .u8 ttl, .int .u8 1, .int .u32 src, .int .u32 dst, so, .slice ad zd.length cd] 26)).alloc (.cells #[.int .u8 0, .int .u16 0, .bool false, .int .u8 0, .int .u8 0, .int .u32 0, .int .u32 0, .slice none 0 0, .slice none 0 0] 26)).alloc (.cells #[.int .u8 0, .int .u32 0, .int .u32 0, .int .u16 0, .int .u16 0] 28)) = w0 at *
  refine (rparseIcmp_any tos id ttl 1 src dst keep _ _ zd w0 hB ((hI.below hb0).mono hb0.size) hl).mono ?_
  rintro e w1 ⟨hb1, ⟨hf, rfl⟩ | ⟨hf, a1, c1, rfl, hO⟩⟩
  · rw [show zm.toArray = #[.int .u8 0, .int .u8 0, .int .u32 0, .slice none 0 0] from rfl]
    have HQ : Hid (que 1 zd = pie 1 zd) := if_pos hf
    generalize hpu : pie 1 zd = f at *
    have hne : (f != 0) = true := by simp [hf]
    clear hpu hf hbad
    have la : Later w1 (w1.alloc (.cells #[.int .u8 0, .int .u8 0, .int .u32 0, .slice none 0 0] 49)) := (Below.refl _ _).alloc (Nat.le_refl _) _
    have l1 := Later.trans hb1 la
    have rX := later_keep l1 R0.out
    have sX := later_keep l1 S0.out
    have hwX := hb0.trans (l1.mono hb0.size)
    have kX := block_cell rX
    have fX := block_frozen rX
    have kS := block_cell sX
    have fS := block_frozen sX
    go_wp2_with fail
    generalize w1.alloc (.cells #[.int .u8 0, .int .u8 0, .int .u32 0, .slice none 0 0] 49) = W at *
    generalize hV : (((((((((((((W.setCell ⟨w.heap.size + 1, 0, none⟩ _).setCell ⟨w.heap.size + 1, 1, none⟩ _).setCell ⟨w.heap.size + 1, 2, none⟩ _).setCell ⟨w.heap.size + 1, 3, none⟩ _).setCell ⟨w.heap.size + 1, 4, none⟩ _).setCell ⟨w.heap.size + 1, 5, none⟩ _).setCell ⟨w.heap.size + 1, 6, none⟩ _).setCell ⟨w.heap.size + 1, 7, none⟩ _).setCell ⟨w.heap.size + 1, 8, none⟩ _).setCell ⟨w.heap.size + 1 + 1, 0, none⟩ _).setCell ⟨w.heap.size + 1 + 1, 1, none⟩ _).setCell ⟨w.heap.size + 1 + 1, 2, none⟩ _).setCell ⟨w.heap.size + 1 + 1, 3, none⟩ _).setCell ⟨w.heap.size + 1 + 1, 4, none⟩ _ = V
    have hV8 : V = putRow (putRow W (w.heap.size + 1) 0 [.int .u8 0, .int .u16 0, .bool false, .int .u8 0, .int .u8 0, .int .u32 0, .int .u32 0, .slice none 0 0, .slice none 0 0]) (w.heap.size + 1 + 1) 0 [.int .u8 0, .int .u32 0, .int .u32 0, .int .u16 0, .int .u16 0] := hV.symm
    have hbY : But (fun b => b = w.heap.size + 1) W (putRow W (w.heap.size + 1) 0 [.int .u8 0, .int .u16 0, .bool false, .int .u8 0, .int .u8 0, .int .u32 0, .int .u32 0, .slice none 0 0, .slice none 0 0]) := putRow_but (E := fun b => b = w.heap.size + 1) (n := w.heap.size + 1) rfl _ _ _ _ (But.refl _ _)
    have pY := putRow_all ([.int .u8 0, .int .u16 0, .bool false, .int .u8 0, .int .u8 0, .int .u32 0, .int .u32 0, .slice none 0 0, .slice none 0 0] : List Value) rX rfl
    have sY := (hbY.block (w.heap.size + 1 + 1) (Array.getElem?_eq_some_iff.1 sX).1 (by omega)).trans sX
    generalize putRow W (w.heap.size + 1) 0 [.int .u8 0, .int .u16 0, .bool false, .int .u8 0, .int .u8 0, .int .u32 0, .int .u32 0, .slice none 0 0, .slice none 0 0] = Y at *
    have hbV : But (fun b => b = w.heap.size + 1 + 1) Y V := by rw [hV8]; exact putRow_but (E := fun b => b = w.heap.size + 1 + 1) (n := w.heap.size + 1 + 1) rfl _ _ _ _ (But.refl _ _)
    have qV := putRow_all ([.int .u8 0, .int .u32 0, .int .u32 0, .int .u16 0, .int .u16 0] : List Value) sY rfl
    rw [← hV8] at qV
    have pV := (hbV.block (w.heap.size + 1) (Array.getElem?_eq_some_iff.1 pY).1 (by omega)).trans pY
    clear hV8 kX fX kS fS
    have PV := block_cell pV
    have QV := block_cell qV
    have hwV : Below w.heap.size w V := (hwX.trans (hbY.below hwX.size (fun k hk e => by omega))).trans (hbV.below (Nat.le_trans hwX.size hbY.size) (fun k hk e => by omega))
    exact bodyPost_ret (v := .tuple #[.agg #[.int .u8 0, .int .u16 0, .bool false, .int .u8 0, .int .u8 0, .int .u32 0, .int .u32 0, .slice none 0 0, .slice none 0 0], .agg #[.int .u8 0, .int .u32 0, .int .u32 0, .int .u16 0, .int .u16 0], .int .i64 f]) (by simp [results, Tryd.results35, go_sem, PV, QV]) rfl ⟨hwV, by rw [HQ.out]; exact rin_mk _ _ _ _ _ _ _ _ _ _ _ _ _ _ _⟩
  · have HPF := hide hf
    clear hf
    have la : Later w1 (w1.alloc (.cells #[.int .u8 (zd[0]?.getD 0), .int .u8 (zd[1]?.getD 0), .int .u32 (wat4 zd 4), .slice a1 (zd.length - 8) c1] 49)) := (Below.refl _ _).alloc (Nat.le_refl _) _
    have l1 := Later.trans hb1 la
    have mW := heap_alloc_new w1 (.cells #[.int .u8 (zd[0]?.getD 0), .int .u8 (zd[1]?.getD 0), .int .u32 (wat4 zd 4), .slice a1 (zd.length - 8) c1] 49)
    have rW := later_keep l1 R0.out
    have sW := later_keep l1 S0.out
    have hwW := hb0.trans (l1.mono hb0.size)
    have DW := hO.ck (CK.of la)
    go_wp2_with fail
    generalize w1.alloc (.cells #[.int .u8 (zd[0]?.getD 0), .int .u8 (zd[1]?.getD 0), .int .u32 (wat4 zd 4), .slice a1 (zd.length - 8) c1] 49) = W at *
    generalize w1.heap.size = gm at *
    refine (risError_any (zd[0]?.getD 0) (zd[1]?.getD 0) (wat4 zd 4) _ W).mono ?_
    have HER : Hid (erb (zd[0]?.getD 0) = (zd[0]?.getD 0 == 3 || (zd[0]?.getD 0 == 11 || zd[0]?.getD 0 == 12))) := rfl
    generalize (zd[0]?.getD 0 == 3 || (zd[0]?.getD 0 == 11 || zd[0]?.getD 0 == 12)) = bq at *
    rintro e w2 ⟨rfl, hb2⟩
    have l2 : Later W w2 := hb2
    have r2 := later_keep l2 rW
    have s2 := later_keep l2 sW
    have hw2 := hwW.trans (hb2.mono hwW.size)
    cases bq with
    | false =>
      have HQ : Hid (que 1 zd = 12) := by show _ = _; unfold que; rw [if_neg (fun h => h HPF.out), if_pos HER.out]
      clear hbad
      have rX := r2
      have sX := s2
      have hwX := hw2
      have kX := block_cell rX
      have fX := block_frozen rX
      have kS := block_cell sX
      have fS := block_frozen sX
      go_wp2_with fail
      generalize hV : (((((((((((((w2.setCell ⟨w.heap.size + 1, 0, none⟩ _).setCell ⟨w.heap.size + 1, 1, none⟩ _).setCell ⟨w.heap.size + 1, 2, none⟩ _).setCell ⟨w.heap.size + 1, 3, none⟩ _).setCell ⟨w.heap.size + 1, 4, none⟩ _).setCell ⟨w.heap.size + 1, 5, none⟩ _).setCell ⟨w.heap.size + 1, 6, none⟩ _).setCell ⟨w.heap.size + 1, 7, none⟩ _).setCell ⟨w.heap.size + 1, 8, none⟩ _).setCell ⟨w.heap.size + 1 + 1, 0, none⟩ _).setCell ⟨w.heap.size + 1 + 1, 1, none⟩ _).setCell ⟨w.heap.size + 1 + 1, 2, none⟩ _).setCell ⟨w.heap.size + 1 + 1, 3, none⟩ _).setCell ⟨w.heap.size + 1 + 1, 4, none⟩ _ = V
      have hV8 : V = putRow (putRow w2 (w.heap.size + 1) 0 [.int .u8 0, .int .u16 0, .bool false, .int .u8 0, .int .u8 0, .int .u32 0, .int .u32 0, .slice none 0 0, .slice none 0 0]) (w.heap.size + 1 + 1) 0 [.int .u8 0, .int .u32 0, .int .u32 0, .int .u16 0, .int .u16 0] := hV.symm
      have hbY : But (fun b => b = w.heap.size + 1) w2 (putRow w2 (w.heap.size + 1) 0 [.int .u8 0, .int .u16 0, .bool false, .int .u8 0, .int .u8 0, .int .u32 0, .int .u32 0, .slice none 0 0, .slice none 0 0]) := putRow_but (E := fun b => b = w.heap.size + 1) (n := w.heap.size + 1) rfl _ _ _ _ (But.refl _ _)
      have pY := putRow_all ([.int .u8 0, .int .u16 0, .bool false, .int .u8 0, .int .u8 0, .int .u32 0, .int .u32 0, .slice none 0 0, .slice none 0 0] : List Value) rX rfl
      have sY := (hbY.block (w.heap.size + 1 + 1) (Array.getElem?_eq_some_iff.1 sX).1 (by omega)).trans sX
      generalize putRow w2 (w.heap.size + 1) 0 [.int .u8 0, .int .u16 0, .bool false, .int .u8 0, .int .u8 0, .int .u32 0, .int .u32 0, .slice none 0 0, .slice none 0 0] = Y at *
      have hbV : But (fun b => b = w.heap.size + 1 + 1) Y V := by rw [hV8]; exact putRow_but (E := fun b => b = w.heap.size + 1 + 1) (n := w.heap.size + 1 + 1) rfl _ _ _ _ (But.refl _ _)
      have qV := putRow_all ([.int .u8 0, .int .u32 0, .int .u32 0, .int .u16 0, .int .u16 0] : List Value) sY rfl
      rw [← hV8] at qV
      have pV := (hbV.block (w.heap.size + 1) (Array.getElem?_eq_some_iff.1 pY).1 (by omega)).trans pY
      clear hV8 kX fX kS fS
      have PV := block_cell pV
      have QV := block_cell qV
      have hwV : Below w.heap.size w V := (hwX.trans (hbY.below hwX.size (fun k hk e => by omega))).trans (hbV.below (Nat.le_trans hwX.size hbY.size) (fun k hk e => by omega))
      exact bodyPost_ret (v := .tuple #[.agg #[.int .u8 0, .int .u16 0, .bool false, .int .u8 0, .int .u8 0, .int .u32 0, .int .u32 0, .slice none 0 0, .slice none 0 0], .agg #[.int .u8 0, .int .u32 0, .int .u32 0, .int .u16 0, .int .u16 0], .int .i64 12]) (by simp [results, Tryd.results35, go_sem, PV, QV]) rfl ⟨hwV, by rw [HQ.out]; exact rin_mk _ _ _ _ _ _ _ _ _ _ _ _ _ _ _⟩
    | true =>
      have hrd : rde true (zd.drop 8) ≠ 0 := by
        rcases hbad with h | h | h
        · exact absurd HPF.out h
        · rw [HER.out] at h; cases h
        · exact h
      clear hbad
      have HQ : Hid (que 1 zd = rde true (zd.drop 8)) := by show _ = _; unfold que; rw [if_neg (fun h => h HPF.out), if_neg (by rw [HER.out]; decide), if_pos hrd]
      have km := block_cell (later_keep l2 mW)
      have D2 := DW.ck (CK.of l2)
      go_wp2_with fail
      clear km
      refine (rquote_any _ (zd.drop 8) w2 (hB.drop 8) (by simp; omega) D2.rd).mono ?_
      rintro e w3 ⟨hb3, ⟨hf3, rfl⟩ | ⟨hf3, _⟩⟩
      · rw [show zc.toArray = #[.int .u8 0, .int .u16 0, .bool false, .int .u8 0, .int .u8 0, .int .u32 0, .int .u32 0, .slice none 0 0, .slice none 0 0] from rfl]
        generalize hpu : rde true (zd.drop 8) = f at *
        have hne : (f != 0) = true := by simp [hrd]
        clear hpu hrd hf3
        have la3 : Later w3 (w3.alloc (.cells #[.int .u8 0, .int .u16 0, .bool false, .int .u8 0, .int .u8 0, .int .u32 0, .int .u32 0, .slice none 0 0, .slice none 0 0] 26)) := (Below.refl _ _).alloc (Nat.le_refl _) _
        have l3 := Later.trans hb3 la3
        have rX := later_keep l3 r2
        have sX := later_keep l3 s2
        have hwX := hw2.trans (l3.mono hw2.size)
        have kX := block_cell rX
        have fX := block_frozen rX
        have kS := block_cell sX
        have fS := block_frozen sX
        go_wp2_with fail
        generalize w3.alloc (.cells #[.int .u8 0, .int .u16 0, .bool false, .int .u8 0, .int .u8 0, .int .u32 0, .int .u32 0, .slice none 0 0, .slice none 0 0] 26) = W3 at *
        generalize hV : (((((((((((((W3.setCell ⟨w.heap.size + 1, 0, none⟩ _).setCell ⟨w.heap.size + 1, 1, none⟩ _).setCell ⟨w.heap.size + 1, 2, none⟩ _).setCell ⟨w.heap.size + 1, 3, none⟩ _).setCell ⟨w.heap.size + 1, 4, none⟩ _).setCell ⟨w.heap.size + 1, 5, none⟩ _).setCell ⟨w.heap.size + 1, 6, none⟩ _).setCell ⟨w.heap.size + 1, 7, none⟩ _).setCell ⟨w.heap.size + 1, 8, none⟩ _).setCell ⟨w.heap.size + 1 + 1, 0, none⟩ _).setCell ⟨w.heap.size + 1 + 1, 1, none⟩ _).setCell ⟨w.heap.size + 1 + 1, 2, none⟩ _).setCell ⟨w.heap.size + 1 + 1, 3, none⟩ _).setCell ⟨w.heap.size + 1 + 1, 4, none⟩ _ = V
        have hV8 : V = putRow (putRow W3 (w.heap.size + 1) 0 [.int .u8 0, .int .u16 0, .bool false, .int .u8 0, .int .u8 0, .int .u32 0, .int .u32 0, .slice none 0 0, .slice none 0 0]) (w.heap.size + 1 + 1) 0 [.int .u8 0, .int .u32 0, .int .u32 0, .int .u16 0, .int .u16 0] := hV.symm
        have hbY : But (fun b => b = w.heap.size + 1) W3 (putRow W3 (w.heap.size + 1) 0 [.int .u8 0, .int .u16 0, .bool false, .int .u8 0, .int .u8 0, .int .u32 0, .int .u32 0, .slice none 0 0, .slice none 0 0]) := putRow_but (E := fun b => b = w.heap.size + 1) (n := w.heap.size + 1) rfl _ _ _ _ (But.refl _ _)
        have pY := putRow_all ([.int .u8 0, .int .u16 0, .bool false, .int .u8 0, .int .u8 0, .int .u32 0, .int .u32 0, .slice none 0 0, .slice none 0 0] : List Value) rX rfl
        have sY := (hbY.block (w.heap.size + 1 + 1) (Array.getElem?_eq_some_iff.1 sX).1 (by omega)).trans sX
        generalize putRow W3 (w.heap.size + 1) 0 [.int .u8 0, .int .u16 0, .bool false, .int .u8 0, .int .u8 0, .int .u32 0, .int .u32 0, .slice none 0 0, .slice none 0 0] = Y at *
        have hbV : But (fun b => b = w.heap.size + 1 + 1) Y V := by rw [hV8]; exact putRow_but (E := fun b => b = w.heap.size + 1 + 1) (n := w.heap.size + 1 + 1) rfl _ _ _ _ (But.refl _ _)
        have qV := putRow_all ([.int .u8 0, .int .u32 0, .int .u32 0, .int .u16 0, .int .u16 0] : List Value) sY rfl
        rw [← hV8] at qV
        have pV := (hbV.block (w.heap.size + 1) (Array.getElem?_eq_some_iff.1 pY).1 (by omega)).trans pY
        clear hV8 kX fX kS fS
        have PV := block_cell pV
        have QV := block_cell qV
        have hwV : Below w.heap.size w V := (hwX.trans (hbY.below hwX.size (fun k hk e => by omega))).trans (hbV.below (Nat.le_trans hwX.size hbY.size) (fun k hk e => by omega))
        exact bodyPost_ret (v := .tuple #[.agg #[.int .u8 0, .int .u16 0, .bool false, .int .u8 0, .int .u8 0, .int .u32 0, .int .u32 0, .slice none 0 0, .slice none 0 0], .agg #[.int .u8 0, .int .u32 0, .int .u32 0, .int .u16 0, .int .u16 0], .int .i64 f]) (by simp [results, Tryd.results35, go_sem, PV, QV]) rfl ⟨hwV, by rw [HQ.out]; exact rin_mk _ _ _ _ _ _ _ _ _ _ _ _ _ _ _⟩
      · exact absurd hf3 hrd

set_option maxHeartbeats 8000000 in
theorem rinner_tcp (pr : Int) (tos id ttl src dst : Int) (keep : Bool) (so sd : Value) (zd : List Int) (w : World) (hB : Mt.By zd) (hI : Rd w.heap.size w sd zd) (hl : zd.length ≤ 1099511627776) (hpi : pie 1 zd = 0) (her : erb (zd[0]?.getD 0) = true) (hrd : rde true (zd.drop 8) = 0) (hpr : (zd.drop 8)[9]?.getD 0 = pr) (h8 : 8 ≤ (qdt (zd.drop 8)).length) (hld : (qdt (zd.drop 8)).length ≤ 140737488355328) (hp : pr = 6) : Calls Tryd.prog 35 #[.agg #[.int .u8 tos, .int .u16 id, .bool keep, .int .u8 ttl, .int .u8 1, .int .u32 src, .int .u32 dst, so, sd]] w fun e w' => Below w.heap.size w w' ∧ rin (.agg #[.int .u8 pr, .int .u32 (wat4 (zd.drop 8) 12), .int .u32 (wat4 (zd.drop 8) 16), .int .u16 (getAt2 (qdt (zd.drop 8)) 0), .int .u16 (getAt2 (qdt (zd.drop 8)) 2)]) 0 e := by
  obtain ⟨ad, cd, rfl, _, _⟩ := hI.slice
  have hb0 : Below w.heap.size w (((w.alloc (.cells #[.int .u8 tos, .int .u16 id, .bool keep, .int .u8 ttl, .int .u8 1, .int .u32 src, .int .u32 dst, so, .slice ad zd.length cd] 26)).alloc (.cells #[.int .u8 0, .int .u16 0, .bool false, .int .u8 0, .int .u8 0, .int .u32 0, .int .u32 0, .slice none 0 0, .slice none 0 0] 26)).alloc (.cells #[.int .u8 0, .int .u32 0, .int .u32 0, .int .u16 0, .int .u16 0] 28)) := ((((Below.refl _ _).alloc (Nat.le_refl _) _).alloc (by simp) _).alloc (by simp <;> omega) _)
  have r0 : (((w.alloc (.cells #[.int .u8 tos, .int .u16 id, .bool keep, .int .u8 ttl, .int .u8 1, .int .u32 src, .int .u32 dst, so, .slice ad zd.length cd] 26)).alloc (.cells #[.int .u8 0, .int .u16 0, .bool false, .int .u8 0, .int .u8 0, .int .u32 0, .int .u32 0, .slice none 0 0, .slice none 0 0] 26)).alloc (.cells #[.int .u8 0, .int .u32 0, .int .u32 0, .int .u16 0, .int .u16 0] 28)).heap[w.heap.size + 1]? = some (.cells #[.int .u8 0, .int .u16 0, .bool false, .int .u8 0, .int .u8 0, .int .u32 0, .int .u32 0, .slice none 0 0, .slice none 0 0] 26) := by
    have := heap_alloc_new (w.alloc (.cells #[.int .u8 tos, .int .u16 id, .bool keep, .int .u8 ttl, .int .u8 1, .int .u32 src, .int .u32 dst, so, .slice ad zd.length cd] 26)) (.cells #[.int .u8 0, .int .u16 0, .bool false, .int .u8 0, .int .u8 0, .int .u32 0, .int .u32 0, .slice none 0 0, .slice none 0 0] 26)
    rw [World.size_alloc] at this
    exact (Below.heap_alloc _ _ _ (by simp)).trans this
  have s0 : (((w.alloc (.cells #[.int .u8 tos, .int .u16 id, .bool keep, .int .u8 ttl, .int .u8 1, .int .u32 src, .int .u32 dst, so, .slice ad zd.length cd] 26)).alloc (.cells #[.int .u8 0, .int .u16 0, .bool false, .int .u8 0, .int .u8 0, .int .u32 0, .int .u32 0, .slice none 0 0, .slice none 0 0] 26)).alloc (.cells #[.int .u8 0, .int .u32 0, .int .u32 0, .int .u16 0, .int .u16 0] 28)).heap[w.heap.size + 1 + 1]? = some (.cells #[.int .u8 0, .int .u32 0, .int .u32 0, .int .u16 0, .int .u16 0] 28) := by
    have := heap_alloc_new ((w.alloc (.cells #[.int .u8 tos, .int .u16 id, .bool keep, .int .u8 ttl, .int .u8 1, .int .u32 src, .int .u32 dst, so, .slice ad zd.length cd] 26)).alloc (.cells #[.int .u8 0, .int .u16 0, .bool false, .int .u8 0, .int .u8 0, .int .u32 0, .int .u32 0, .slice none 0 0, .slice none 0 0] 26)) (.cells #[.int .u8 0, .int .u32 0, .int .u32 0, .int .u16 0, .int .u16 0] 28)
    simpa only [World.size_alloc] using this
  have R0 := hide r0
  have S0 := hide s0
  clear r0 s0
  go_enter Tryd.func35, Tryd.ntmps35
  go_wp2_with fail
  generalize (((w.alloc (.cells #[.int .u8 tos, .int .u16 id, .bool keep, .int .u8 ttl, .int .u8 1, .int .u32 src, .int .u32 dst, so, .slice ad zd.length cd] 26)).alloc (.cells #[.int .u8 0, .int .u16 0, .bool false, .int .u8 0, .int .u8 0, .int .u32 0, .int .u32 0, .slice none 0 0, .slice none 0 0] 26)).alloc (.cells #[.int .u8 0, .int .u32 0, .int .u32 0, .int .u16 0, .int .u16 0] 28)) = w0 at *
  refine (rparseIcmp_any tos id ttl 1 src dst keep _ _ zd w0 hB ((hI.below hb0).mono hb0.size) hl).mono ?_
  rintro e w1 ⟨hb1, ⟨hf, rfl⟩ | ⟨hf, a1, c1, rfl, hO⟩⟩
  · exact absurd hpi hf
  · clear hf
    have la : Later w1 (w1.alloc (.cells #[.int .u8 (zd[0]?.getD 0), .int .u8 (zd[1]?.getD 0), .int .u32 (wat4 zd 4), .slice a1 (zd.length - 8) c1] 49)) := (Below.refl _ _).alloc (Nat.le_refl _) _
    have l1 := Later.trans hb1 la
    have mW := heap_alloc_new w1 (.cells #[.int .u8 (zd[0]?.getD 0), .int .u8 (zd[1]?.getD 0), .int .u32 (wat4 zd 4), .slice a1 (zd.length - 8) c1] 49)
    have rW := later_keep l1 R0.out
    have sW := later_keep l1 S0.out
    have hwW := hb0.trans (l1.mono hb0.size)
    have DW := hO.ck (CK.of la)
    go_wp2_with fail
    generalize w1.alloc (.cells #[.int .u8 (zd[0]?.getD 0), .int .u8 (zd[1]?.getD 0), .int .u32 (wat4 zd 4), .slice a1 (zd.length - 8) c1] 49) = W at *
    generalize w1.heap.size = gm at *
    refine (risError_any (zd[0]?.getD 0) (zd[1]?.getD 0) (wat4 zd 4) _ W).mono ?_
    rw [show (zd[0]?.getD 0 == 3 || (zd[0]?.getD 0 == 11 || zd[0]?.getD 0 == 12)) = true from her]
    rintro e w2 ⟨rfl, hb2⟩
    have l2 : Later W w2 := hb2
    have r2 := later_keep l2 rW
    have s2 := later_keep l2 sW
    have hw2 := hwW.trans (hb2.mono hwW.size)
    have km := block_cell (later_keep l2 mW)
    have D2 := DW.ck (CK.of l2)
    go_wp2_with fail
    clear km
    refine (rquote_any _ (zd.drop 8) w2 (hB.drop 8) (by simp; omega) D2.rd).mono ?_
    rintro e w3 ⟨hb3, ⟨hf3, _⟩ | ⟨_, qo, qs0, rfl, hO3, hD3⟩⟩
    · exact absurd hrd hf3
    obtain ⟨b7, c7, rfl, _, _⟩ := hO3.slice
    obtain ⟨b8, c8, rfl, hc8, hc9⟩ := hD3.slice
    have hBq := By_qdt (hB.drop 8)
    unfold pkt
    have HPR := hide hpr
    rw [hpr]
    clear hpr hpi her hrd
    generalize (zd.drop 8)[1]?.getD 0 = q1 at *
    generalize wat (zd.drop 8) 4 = q2 at *
    generalize decide (16384 ≤ wat (zd.drop 8) 6 % 32768) = q3 at *
    generalize (zd.drop 8)[8]?.getD 0 = q4 at *
    generalize hqs : wat4 (zd.drop 8) 12 = qs at *
    generalize hqd : wat4 (zd.drop 8) 16 = qd at *
    have HQS := hide hqs
    have HQD := hide hqd
    clear hqs hqd
    generalize (((zd.drop 8).take (hl4 (zd.drop 8)).toNat).drop 20).length = l7 at *
    clear hO3
    rw [show ((zd.drop 8).take (ral true (zd.drop 8)).toNat).drop (hl4 (zd.drop 8)).toNat = qdt (zd.drop 8) from rfl] at hD3 hc8 ⊢
    generalize hdq : qdt (zd.drop 8) = dq at *
    have HDQ := hide hdq
    clear hdq
    have la3 : Later w3 (w3.alloc (.cells #[.int .u8 q1, .int .u16 q2, .bool q3, .int .u8 q4, .int .u8 pr, .int .u32 qs, .int .u32 qd, .slice b7 l7 c7, .slice b8 dq.length c8] 26)) := (Below.refl _ _).alloc (Nat.le_refl _) _
    have lb3 : Later (w3.alloc (.cells #[.int .u8 q1, .int .u16 q2, .bool q3, .int .u8 q4, .int .u8 pr, .int .u32 qs, .int .u32 qd, .slice b7 l7 c7, .slice b8 dq.length c8] 26)) ((w3.alloc (.cells #[.int .u8 q1, .int .u16 q2, .bool q3, .int .u8 q4, .int .u8 pr, .int .u32 qs, .int .u32 qd, .slice b7 l7 c7, .slice b8 dq.length c8] 26)).alloc (.cells #[.int .u8 pr, .int .u32 qs, .int .u32 qd, .int .u16 0, .int .u16 0] 28)) := (Below.refl _ _).alloc (Nat.le_refl _) _
    have lab := la3.trans lb3
    have l3 := Later.trans hb3 lab
    have qk := later_keep lb3 (heap_alloc_new w3 (.cells #[.int .u8 q1, .int .u16 q2, .bool q3, .int .u8 q4, .int .u8 pr, .int .u32 qs, .int .u32 qd, .slice b7 l7 c7, .slice b8 dq.length c8] 26))
    have tk := heap_alloc_new (w3.alloc (.cells #[.int .u8 q1, .int .u16 q2, .bool q3, .int .u8 q4, .int .u8 pr, .int .u32 qs, .int .u32 qd, .slice b7 l7 c7, .slice b8 dq.length c8] 26)) (.cells #[.int .u8 pr, .int .u32 qs, .int .u32 qd, .int .u16 0, .int .u16 0] 28)
    rw [World.size_alloc] at tk
    have r3 := later_keep l3 r2
    have s3 := later_keep l3 s2
    have hw3 := hw2.trans (l3.mono hw2.size)
    have D3 := hD3.ck (CK.of lab)
    have hgq : w.heap.size + 1 + 1 < w3.heap.size := Nat.lt_of_lt_of_le (Array.getElem?_eq_some_iff.1 s2).1 hb3.size
    clear D2 hD3
    have HLQ : Hid (8 ≤ dq.length) := h8
    have hq6 : (pr == 6) = true := by simp [hp]
    have hq17 : (pr == 17) = false := by simp [hp]
    have HP := hide hp
    clear hp
    have kq := block_cell qk
    go_upto_region 16 with fail
    generalize (w3.alloc (.cells #[.int .u8 q1, .int .u16 q2, .bool q3, .int .u8 q4, .int .u8 pr, .int .u32 qs, .int .u32 qd, .slice b7 l7 c7, .slice b8 dq.length c8] 26)).alloc (.cells #[.int .u8 pr, .int .u32 qs, .int .u32 qd, .int .u16 0, .int .u16 0] 28) = w4 at *
    generalize w3.heap.size = gq at *
    clear hq6 hq17 kq
    refine anyT_begin (R := But (fun b => b = gq + 1)) 10 rfl (by kernel_rfl) ?_
    have ld : Later w4 w4.drew := Later.drew w4
    have qWd := later_keep ld qk
    have tWd := later_keep ld tk
    have DWd := D3.ck (CK.of ld)
    generalize w4.drew = Wd at *
    have ha : ∀ v1, But (fun b => b = gq + 1) Wd v1 → ∀ i, v1.cell? ⟨gq, i, none⟩ = #[Value.int .u8 q1, .int .u16 q2, .bool q3, .int .u8 q4, .int .u8 pr, .int .u32 qs, .int .u32 qd, .slice b7 l7 c7, .slice b8 dq.length c8][i]? := fun v1 h => block_cell ((h.block gq (Array.getElem?_eq_some_iff.1 qWd).1 (by omega)).trans qWd)
    refine anyT_val (But.pre _) 0 rfl (by kernel_rfl) (by kernel_rfl) (by kernel_rfl) (fun _ _ _ _ h => h) rfl ?_; apply Exists.intro; refine ⟨fun v1 hv1 => ?_, ?_⟩; (· (go_simp; rfl)); simp only [Act.put, List.setIfInBounds_toArray, List.set_cons_zero, List.set_cons_succ]
    refine anyT_val (But.pre _) 1 rfl (by kernel_rfl) (by kernel_rfl) (by kernel_rfl) (fun _ _ _ _ h => h) rfl ?_; apply Exists.intro; refine ⟨fun v1 hv1 => ?_, ?_⟩; (· (go_simp; rfl)); simp only [Act.put, List.setIfInBounds_toArray, List.set_cons_zero, List.set_cons_succ]
    refine anyT_val (But.pre _) 3 rfl (by kernel_rfl) (by kernel_rfl) (by kernel_rfl) (fun _ _ _ _ h => h) rfl ?_; apply Exists.intro; refine ⟨fun v1 hv1 => ?_, ?_⟩; (· (go_simp; rfl)); simp only [Act.put, List.setIfInBounds_toArray, List.set_cons_zero, List.set_cons_succ]
    refine anyT_val (But.pre _) 4 rfl (by kernel_rfl) (by kernel_rfl) (by kernel_rfl) (fun _ _ _ _ h => h) rfl ?_; apply Exists.intro; refine ⟨fun v1 hv1 => ?_, ?_⟩; (· (go_simp; rfl)); simp only [Act.put, List.setIfInBounds_toArray, List.set_cons_zero, List.set_cons_succ]
    clear ha
    refine anyT_one 2 rfl (by kernel_rfl) rfl ?_
    refine wp_enter 53 #[.slice b8 dq.length c8, .int .i64 0] (by go_simp) ?_
    refine (rget16_at _ dq hBq 0 (by omega) hld Wd DWd.rd).mono ?_
    rintro e W5 ⟨rfl, nW5, eW5⟩
    have lW5 : Later Wd W5 := by rw [eW5]; exact below_draw (Later.refl Wd) nW5
    clear eW5
    have tW5 := later_keep lW5 tWd
    have DW5 := DWd.ck (CK.of lW5)
    refine ⟨But.of lW5, ?_⟩
    simp only [Act.put, List.setIfInBounds_toArray, List.set_cons_zero, List.set_cons_succ]
    refine anyT_val (But.pre _) 6 rfl (by kernel_rfl) (by kernel_rfl) (by kernel_rfl) (fun _ _ _ _ h => h) rfl ?_; apply Exists.intro; refine ⟨fun v1 hv1 => ?_, ?_⟩; (· (go_simp; rfl)); simp only [Act.put, List.setIfInBounds_toArray, List.set_cons_zero, List.set_cons_succ]
    refine anyT_one 5 rfl (by kernel_rfl) rfl ?_
    refine wp_enter 53 #[.slice b8 dq.length c8, .int .i64 2] (by go_simp) ?_
    refine (rget16_at _ dq hBq 2 (by omega) hld W5 DW5.rd).mono ?_
    rintro e W6 ⟨rfl, nW6, eW6⟩
    have lW6 : Later W5 W6 := by rw [eW6]; exact below_draw (Later.refl W5) nW6
    clear eW6
    have tW6 := later_keep lW6 tW5
    have DW6 := DW5.ck (CK.of lW6)
    refine ⟨But.of lW6, ?_⟩
    simp only [Act.put, List.setIfInBounds_toArray, List.set_cons_zero, List.set_cons_succ]
    generalize hg0 : getAt2 dq 0 = g0 at *
    generalize hg2 : getAt2 dq 2 = g2 at *
    have HG0 := hide hg0
    have HG2 := hide hg2
    clear hg0 hg2
    have kx := block_cell tW6
    have fx := block_frozen tW6
    refine anyT_one 7 rfl (by kernel_rfl) rfl ?_
    unfold Oper.wp
    go_simp
    generalize hV : W6.setCell ⟨gq + 1, 3, none⟩ _ = V7
    have tV := heap_set1 tW6 3 (.int .u16 g0)
    rw [hV] at tV
    have hbV7 : But (fun b => b = gq + 1) W6 V7 := by rw [← hV]; exact (But.refl (fun b => b = gq + 1) _).setCell (p := ⟨gq + 1, 3, none⟩) rfl _
    refine ⟨hbV7, ?_⟩
    clear hV kx fx
    simp only [List.setIfInBounds_toArray, List.set_cons_zero, List.set_cons_succ] at tV
    refine anyT_val (But.pre _) 8 rfl (by kernel_rfl) (by kernel_rfl) (by kernel_rfl) (fun _ _ _ _ h => h) rfl ?_; apply Exists.intro; refine ⟨fun v1 hv1 => ?_, ?_⟩; (· (go_simp; rfl)); simp only [Act.put, List.setIfInBounds_toArray, List.set_cons_zero, List.set_cons_succ]
    have kx := block_cell tV
    have fx := block_frozen tV
    refine anyT_one 9 rfl (by kernel_rfl) rfl ?_
    unfold Oper.wp
    go_simp
    generalize hV : V7.setCell ⟨gq + 1, 4, none⟩ _ = V8
    have tN := heap_set1 tV 4 (.int .u16 g2)
    rw [hV] at tN
    have hbV8 : But (fun b => b = gq + 1) V7 V8 := by rw [← hV]; exact (But.refl (fun b => b = gq + 1) _).setCell (p := ⟨gq + 1, 4, none⟩) rfl _
    refine ⟨hbV8, ?_⟩
    clear hV kx fx
    simp only [List.setIfInBounds_toArray, List.set_cons_zero, List.set_cons_succ] at tN
    refine anyT_done (by kernel_rfl) ?_
    have hbN : But (fun b => b = gq + 1) w4 V8 := (But.of (ld.trans (lW5.trans lW6))).trans (hbV7.trans hbV8)
    have qN := (hbN.block gq (Array.getElem?_eq_some_iff.1 qk).1 (by omega)).trans qk
    have rN := (hbN.block (w.heap.size + 1) (Array.getElem?_eq_some_iff.1 r3).1 (by omega)).trans r3
    have sN := (hbN.block (w.heap.size + 1 + 1) (Array.getElem?_eq_some_iff.1 s3).1 (by omega)).trans s3
    have hwN : Below w.heap.size w V8 := hw3.trans (hbN.below hw3.size (fun k hk e => by omega))
    clear ld
    go_upto_region 26 with fail
    refine anyT_begin (R := But (fun b => b = w.heap.size + 1 ∨ b = w.heap.size + 1 + 1)) 5 rfl (by kernel_rfl) ?_
    have ld : Later V8 V8.drew := Later.drew V8
    have qd0 := later_keep ld qN
    have td0 := later_keep ld tN
    have rd0 := later_keep ld rN
    have sd0 := later_keep ld sN
    have hwd := hwN.trans (ld.mono hwN.size)
    generalize V8.drew = Wd at *
    have ha : ∀ v1, But (fun b => b = w.heap.size + 1 ∨ b = w.heap.size + 1 + 1) Wd v1 → ∀ i, v1.cell? ⟨gq, i, none⟩ = #[Value.int .u8 q1, .int .u16 q2, .bool q3, .int .u8 q4, .int .u8 pr, .int .u32 qs, .int .u32 qd, .slice b7 l7 c7, .slice b8 dq.length c8][i]? := fun v1 h => block_cell ((h.block gq (Array.getElem?_eq_some_iff.1 qd0).1 (by omega)).trans qd0)
    have hb : ∀ v1, But (fun b => b = w.heap.size + 1 ∨ b = w.heap.size + 1 + 1) Wd v1 → ∀ i, v1.cell? ⟨gq + 1, i, none⟩ = #[Value.int .u8 pr, .int .u32 qs, .int .u32 qd, .int .u16 g0, .int .u16 g2][i]? := fun v1 h => block_cell ((h.block (gq + 1) (Array.getElem?_eq_some_iff.1 td0).1 (by omega)).trans td0)
    refine anyT_val (But.pre _) 0 rfl (by kernel_rfl) (by kernel_rfl) (by kernel_rfl) (fun _ _ _ _ h => h) rfl ?_; apply Exists.intro; refine ⟨fun v1 hv1 => ?_, ?_⟩; (· (go_simp; rfl)); simp only [Act.put, List.setIfInBounds_toArray, List.set_cons_zero, List.set_cons_succ]
    refine anyT_val (But.pre _) 1 rfl (by kernel_rfl) (by kernel_rfl) (by kernel_rfl) (fun _ _ _ _ h => h) rfl ?_; apply Exists.intro; refine ⟨fun v1 hv1 => ?_, ?_⟩; (· (go_simp; rfl)); simp only [Act.put, List.setIfInBounds_toArray, List.set_cons_zero, List.set_cons_succ]
    clear ha hb
    have kx := block_cell rd0
    have fx := block_frozen rd0
    refine anyT_one 2 rfl (by kernel_rfl) rfl ?_
    unfold Oper.wp
    go_simp
    generalize hV1 : ((((((((Wd.setCell ⟨w.heap.size + 1, 0, none⟩ _).setCell ⟨w.heap.size + 1, 1, none⟩ _).setCell ⟨w.heap.size + 1, 2, none⟩ _).setCell ⟨w.heap.size + 1, 3, none⟩ _).setCell ⟨w.heap.size + 1, 4, none⟩ _).setCell ⟨w.heap.size + 1, 5, none⟩ _).setCell ⟨w.heap.size + 1, 6, none⟩ _).setCell ⟨w.heap.size + 1, 7, none⟩ _).setCell ⟨w.heap.size + 1, 8, none⟩ _ = Y0
    have hV9 : Y0 = putRow Wd (w.heap.size + 1) 0 [.int .u8 q1, .int .u16 q2, .bool q3, .int .u8 q4, .int .u8 pr, .int .u32 qs, .int .u32 qd, .slice b7 l7 c7, .slice b8 dq.length c8] := hV1.symm
    have hbY0 : But (fun b => b = w.heap.size + 1) Wd Y0 := by rw [hV9]; exact putRow_but (E := fun b => b = w.heap.size + 1) (n := w.heap.size + 1) rfl _ _ _ _ (But.refl _ _)
    have hbY1 : But (fun b => b = w.heap.size + 1 ∨ b = w.heap.size + 1 + 1) Wd Y0 := by rw [hV9]; exact putRow_but (E := fun b => b = w.heap.size + 1 ∨ b = w.heap.size + 1 + 1) (n := w.heap.size + 1) (.inl rfl) _ _ _ _ (But.refl _ _)
    have pY0 := putRow_all ([.int .u8 q1, .int .u16 q2, .bool q3, .int .u8 q4, .int .u8 pr, .int .u32 qs, .int .u32 qd, .slice b7 l7 c7, .slice b8 dq.length c8] : List Value) rd0 rfl
    rw [← hV9] at pY0
    have sY0 := (hbY0.block (w.heap.size + 1 + 1) (Array.getElem?_eq_some_iff.1 sd0).1 (by omega)).trans sd0
    refine ⟨hbY1, ?_⟩
    clear hV1 hV9 kx fx
    have kx := block_cell sY0
    have fx := block_frozen sY0
    refine anyT_one 3 rfl (by kernel_rfl) rfl ?_
    unfold Oper.wp
    go_simp
    generalize hV2 : ((((Y0.setCell ⟨w.heap.size + 1 + 1, 0, none⟩ _).setCell ⟨w.heap.size + 1 + 1, 1, none⟩ _).setCell ⟨w.heap.size + 1 + 1, 2, none⟩ _).setCell ⟨w.heap.size + 1 + 1, 3, none⟩ _).setCell ⟨w.heap.size + 1 + 1, 4, none⟩ _ = V
    have hV8 : V = putRow Y0 (w.heap.size + 1 + 1) 0 [.int .u8 pr, .int .u32 qs, .int .u32 qd, .int .u16 g0, .int .u16 g2] := hV2.symm
    have hbV : But (fun b => b = w.heap.size + 1 + 1) Y0 V := by rw [hV8]; exact putRow_but (E := fun b => b = w.heap.size + 1 + 1) (n := w.heap.size + 1 + 1) rfl _ _ _ _ (But.refl _ _)
    have hbV1 : But (fun b => b = w.heap.size + 1 ∨ b = w.heap.size + 1 + 1) Y0 V := by rw [hV8]; exact putRow_but (E := fun b => b = w.heap.size + 1 ∨ b = w.heap.size + 1 + 1) (n := w.heap.size + 1 + 1) (.inr rfl) _ _ _ _ (But.refl _ _)
    have qV := putRow_all ([.int .u8 pr, .int .u32 qs, .int .u32 qd, .int .u16 g0, .int .u16 g2] : List Value) sY0 rfl
    rw [← hV8] at qV
    have pV := (hbV.block (w.heap.size + 1) (Array.getElem?_eq_some_iff.1 pY0).1 (by omega)).trans pY0
    refine ⟨hbV1, ?_⟩
    clear hV2 hV8 kx fx
    refine anyT_one 4 rfl (by kernel_rfl) rfl ?_
    unfold Oper.wp
    go_simp
    refine ⟨But.refl _ _, ?_⟩
    refine anyT_done (by kernel_rfl) ?_
    have PV := block_cell pV
    have QV := block_cell qV
    have hwV : Below w.heap.size w V := (hwd.trans (hbY0.below hwd.size (fun k hk e => by omega))).trans (hbV.below (Nat.le_trans hwd.size hbY0.size) (fun k hk e => by omega))
    go_wp2_with fail
    exact bodyPost_ret (v := .tuple #[.agg #[.int .u8 q1, .int .u16 q2, .bool q3, .int .u8 q4, .int .u8 pr, .int .u32 qs, .int .u32 qd, .slice b7 l7 c7, .slice b8 dq.length c8], .agg #[.int .u8 pr, .int .u32 qs, .int .u32 qd, .int .u16 g0, .int .u16 g2], .int .i64 0]) (by simp [results, Tryd.results35, go_sem, PV, QV]) rfl ⟨hwV, by rw [HDQ.out, HG0.out, HG2.out, HQS.out, HQD.out]; exact rin_mk _ _ _ _ _ _ _ _ _ _ _ _ _ _ _⟩

set_option maxHeartbeats 8000000 in
theorem rinner_udp (pr : Int) (tos id ttl src dst : Int) (keep : Bool) (so sd : Value) (zd : List Int) (w : World) (hB : Mt.By zd) (hI : Rd w.heap.size w sd zd) (hl : zd.length ≤ 1099511627776) (hpi : pie 1 zd = 0) (her : erb (zd[0]?.getD 0) = true) (hrd : rde true (zd.drop 8) = 0) (hpr : (zd.drop 8)[9]?.getD 0 = pr) (h8 : 8 ≤ (qdt (zd.drop 8)).length) (hld : (qdt (zd.drop 8)).length ≤ 140737488355328) (hp : pr = 17) : Calls Tryd.prog 35 #[.agg #[.int .u8 tos, .int .u16 id, .bool keep, .int .u8 ttl, .int .u8 1, .int .u32 src, .int .u32 dst, so, sd]] w fun e w' => Below w.heap.size w w' ∧ rin (.agg #[.int .u8 pr, .int .u32 (wat4 (zd.drop 8) 12), .int .u32 (wat4 (zd.drop 8) 16), .int .u16 (getAt2 (qdt (zd.drop 8)) 0), .int .u16 (getAt2 (qdt (zd.drop 8)) 2)]) 0 e := by
  obtain ⟨ad, cd, rfl, _, _⟩ := hI.slice
  have hb0 : Below w.heap.size w (((w.alloc (.cells #[.int .u8 tos, .int .u16 id, .bool keep, .int .u8 ttl, .int .u8 1, .int .u32 src, .int .u32 dst, so, .slice ad zd.length cd] 26)).alloc (.cells #[.int .u8 0, .int .u16 0, .bool false, .int .u8 0, .int .u8 0, .int .u32 0, .int .u32 0, .slice none 0 0, .slice none 0 0] 26)).alloc (.cells #[.int .u8 0, .int .u32 0, .int .u32 0, .int .u16 0, .int .u16 0] 28)) := ((((Below.refl _ _).alloc (Nat.le_refl _) _).alloc (by simp) _).alloc (by simp <;> omega) _)
  have r0 : (((w.alloc (.cells #[.int .u8 tos, .int .u16 id, .bool keep, .int .u8 ttl, .int .u8 1, .int .u32 src, .int .u32 dst, so, .slice ad zd.length cd] 26)).alloc (.cells #[.int .u8 0, .int .u16 0, .bool false, .int .u8 0, .int .u8 0, .int .u32 0, .int .u32 0, .slice none 0 0, .slice none 0 0] 26)).alloc (.cells #[.int .u8 0, .int .u32 0, .int .u32 0, .int .u16 0, .int .u16 0] 28)).heap[w.heap.size + 1]? = some (.cells #[.int .u8 0, .int .u16 0, .bool false, .int .u8 0, .int .u8 0, .int .u32 0, .int .u32 0, .slice none 0 0, .slice none 0 0] 26) := by
    have := heap_alloc_new (w.alloc (.cells #[.int .u8 tos, .int .u16 id, .bool keep, .int .u8 ttl, .int .u8 1, .int .u32 src, .int .u32 dst, so, .slice ad zd.length cd] 26)) (.cells #[.int .u8 0, .int .u16 0, .bool false, .int .u8 0, .int .u8 0, .int .u32 0, .int .u32 0, .slice none 0 0, .slice none 0 0] 26)
    rw [World.size_alloc] at this
    exact (Below.heap_alloc _ _ _ (by simp)).trans this
  have s0 : (((w.alloc (.cells #[.int .u8 tos, .int .u16 id, .bool keep, .int .u8 ttl, .int .u8 1, .int .u32 src, .int .u32 dst, so, .slice ad zd.length cd] 26)).alloc (.cells #[.int .u8 0, .int .u16 0, .bool false, .int .u8 0, .int .u8 0, .int .u32 0, .int .u32 0, .slice none 0 0, .slice none 0 0] 26)).alloc (.cells #[.int .u8 0, .int .u32 0, .int .u32 0, .int .u16 0, .int .u16 0] 28)).heap[w.heap.size + 1 + 1]? = some (.cells #[.int .u8 0, .int .u32 0, .int .u32 0, .int .u16 0, .int .u16 0] 28) := by
    have := heap_alloc_new ((w.alloc (.cells #[.int .u8 tos, .int .u16 id, .bool keep, .int .u8 ttl, .int .u8 1, .int .u32 src, .int .u32 dst, so, .slice ad zd.length cd] 26)).alloc (.cells #[.int .u8 0, .int .u16 0, .bool false, .int .u8 0, .int .u8 0, .int .u32 0, .int .u32 0, .slice none 0 0, .slice none 0 0] 26)) (.cells #[.int .u8 0, .int .u32 0, .int .u32 0, .int .u16 0, .int .u16 0] 28)
    simpa only [World.size_alloc] using this
  have R0 := hide r0
  have S0 := hide s0
  clear r0 s0
  go_enter Tryd.func35, Tryd.ntmps35
  go_wp2_with fail
  generalize (((w.alloc (.cells #[.int .u8 tos, .int .u16 id, .bool keep, .int .u8 ttl, .int .u8 1, .int .u32 src, .int .u32 dst, so, .slice ad zd.length cd] 26)).alloc (.cells #[.int .u8 0, .int .u16 0, .bool false, .int .u8 0, .int .u8 0, .int .u32 0, .int .u32 0, .slice none 0 0, .slice none 0 0] 26)).alloc (.cells #[.int .u8 0, .int .u32 0, .int .u32 0, .int .u16 0, .int .u16 0] 28)) = w0 at *
  refine (rparseIcmp_any tos id ttl 1 src dst keep _ _ zd w0 hB ((hI.below hb0).mono hb0.size) hl).mono ?_
  rintro e w1 ⟨hb1, ⟨hf, rfl⟩ | ⟨hf, a1, c1, rfl, hO⟩⟩
  · exact absurd hpi hf
  · clear hf
    have la : Later w1 (w1.alloc (.cells #[.int .u8 (zd[0]?.getD 0), .int .u8 (zd[1]?.getD 0), .int .u32 (wat4 zd 4), .slice a1 (zd.length - 8) c1] 49)) := (Below.refl _ _).alloc (Nat.le_refl _) _
    have l1 := Later.trans hb1 la
    have mW := heap_alloc_new w1 (.cells #[.int .u8 (zd[0]?.getD 0), .int .u8 (zd[1]?.getD 0), .int .u32 (wat4 zd 4), .slice a1 (zd.length - 8) c1] 49)
    have rW := later_keep l1 R0.out
    have sW := later_keep l1 S0.out
    have hwW := hb0.trans (l1.mono hb0.size)
    have DW := hO.ck (CK.of la)
    go_wp2_with fail
    generalize w1.alloc (.cells #[.int .u8 (zd[0]?.getD 0), .int .u8 (zd[1]?.getD 0), .int .u32 (wat4 zd 4), .slice a1 (zd.length - 8) c1] 49) = W at *
    generalize w1.heap.size = gm at *
    refine (risError_any (zd[0]?.getD 0) (zd[1]?.getD 0) (wat4 zd 4) _ W).mono ?_
    rw [show (zd[0]?.getD 0 == 3 || (zd[0]?.getD 0 == 11 || zd[0]?.getD 0 == 12)) = true from her]
    rintro e w2 ⟨rfl, hb2⟩
    have l2 : Later W w2 := hb2
    have r2 := later_keep l2 rW
    have s2 := later_keep l2 sW
    have hw2 := hwW.trans (hb2.mono hwW.size)
    have km := block_cell (later_keep l2 mW)
    have D2 := DW.ck (CK.of l2)
    go_wp2_with fail
    clear km
    refine (rquote_any _ (zd.drop 8) w2 (hB.drop 8) (by simp; omega) D2.rd).mono ?_
    rintro e w3 ⟨hb3, ⟨hf3, _⟩ | ⟨_, qo, qs0, rfl, hO3, hD3⟩⟩
    · exact absurd hrd hf3
    obtain ⟨b7, c7, rfl, _, _⟩ := hO3.slice
    obtain ⟨b8, c8, rfl, hc8, hc9⟩ := hD3.slice
    have hBq := By_qdt (hB.drop 8)
    unfold pkt
    have HPR := hide hpr
    rw [hpr]
    clear hpr hpi her hrd
    generalize (zd.drop 8)[1]?.getD 0 = q1 at *
    generalize wat (zd.drop 8) 4 = q2 at *
    generalize decide (16384 ≤ wat (zd.drop 8) 6 % 32768) = q3 at *
    generalize (zd.drop 8)[8]?.getD 0 = q4 at *
    generalize hqs : wat4 (zd.drop 8) 12 = qs at *
    generalize hqd : wat4 (zd.drop 8) 16 = qd at *
    have HQS := hide hqs
    have HQD := hide hqd
    clear hqs hqd
    generalize (((zd.drop 8).take (hl4 (zd.drop 8)).toNat).drop 20).length = l7 at *
    clear hO3
    rw [show ((zd.drop 8).take (ral true (zd.drop 8)).toNat).drop (hl4 (zd.drop 8)).toNat = qdt (zd.drop 8) from rfl] at hD3 hc8 ⊢
    generalize hdq : qdt (zd.drop 8) = dq at *
    have HDQ := hide hdq
    clear hdq
    have la3 : Later w3 (w3.alloc (.cells #[.int .u8 q1, .int .u16 q2, .bool q3, .int .u8 q4, .int .u8 pr, .int .u32 qs, .int .u32 qd, .slice b7 l7 c7, .slice b8 dq.length c8] 26)) := (Below.refl _ _).alloc (Nat.le_refl _) _
    have lb3 : Later (w3.alloc (.cells #[.int .u8 q1, .int .u16 q2, .bool q3, .int .u8 q4, .int .u8 pr, .int .u32 qs, .int .u32 qd, .slice b7 l7 c7, .slice b8 dq.length c8] 26)) ((w3.alloc (.cells #[.int .u8 q1, .int .u16 q2, .bool q3, .int .u8 q4, .int .u8 pr, .int .u32 qs, .int .u32 qd, .slice b7 l7 c7, .slice b8 dq.length c8] 26)).alloc (.cells #[.int .u8 pr, .int .u32 qs, .int .u32 qd, .int .u16 0, .int .u16 0] 28)) := (Below.refl _ _).alloc (Nat.le_refl _) _
    have lab := la3.trans lb3
    have l3 := Later.trans hb3 lab
    have qk := later_keep lb3 (heap_alloc_new w3 (.cells #[.int .u8 q1, .int .u16 q2, .bool q3, .int .u8 q4, .int .u8 pr, .int .u32 qs, .int .u32 qd, .slice b7 l7 c7, .slice b8 dq.length c8] 26))
    have tk := heap_alloc_new (w3.alloc (.cells #[.int .u8 q1, .int .u16 q2, .bool q3, .int .u8 q4, .int .u8 pr, .int .u32 qs, .int .u32 qd, .slice b7 l7 c7, .slice b8 dq.length c8] 26)) (.cells #[.int .u8 pr, .int .u32 qs, .int .u32 qd, .int .u16 0, .int .u16 0] 28)
    rw [World.size_alloc] at tk
    have r3 := later_keep l3 r2
    have s3 := later_keep l3 s2
    have hw3 := hw2.trans (l3.mono hw2.size)
    have D3 := hD3.ck (CK.of lab)
    have hgq : w.heap.size + 1 + 1 < w3.heap.size := Nat.lt_of_lt_of_le (Array.getElem?_eq_some_iff.1 s2).1 hb3.size
    clear D2 hD3
    have HLQ : Hid (8 ≤ dq.length) := h8
    have hq6 : (pr == 6) = false := by simp [hp]
    have hq17 : (pr == 17) = true := by simp [hp]
    have HP := hide hp
    clear hp
    have kq := block_cell qk
    go_upto_region 16 with fail
    generalize (w3.alloc (.cells #[.int .u8 q1, .int .u16 q2, .bool q3, .int .u8 q4, .int .u8 pr, .int .u32 qs, .int .u32 qd, .slice b7 l7 c7, .slice b8 dq.length c8] 26)).alloc (.cells #[.int .u8 pr, .int .u32 qs, .int .u32 qd, .int .u16 0, .int .u16 0] 28) = w4 at *
    generalize w3.heap.size = gq at *
    clear hq6 hq17 kq
    refine anyT_begin (R := But (fun b => b = gq + 1)) 10 rfl (by kernel_rfl) ?_
    have ld : Later w4 w4.drew := Later.drew w4
    have qWd := later_keep ld qk
    have tWd := later_keep ld tk
    have DWd := D3.ck (CK.of ld)
    generalize w4.drew = Wd at *
    have ha : ∀ v1, But (fun b => b = gq + 1) Wd v1 → ∀ i, v1.cell? ⟨gq, i, none⟩ = #[Value.int .u8 q1, .int .u16 q2, .bool q3, .int .u8 q4, .int .u8 pr, .int .u32 qs, .int .u32 qd, .slice b7 l7 c7, .slice b8 dq.length c8][i]? := fun v1 h => block_cell ((h.block gq (Array.getElem?_eq_some_iff.1 qWd).1 (by omega)).trans qWd)
    refine anyT_val (But.pre _) 0 rfl (by kernel_rfl) (by kernel_rfl) (by kernel_rfl) (fun _ _ _ _ h => h) rfl ?_; apply Exists.intro; refine ⟨fun v1 hv1 => ?_, ?_⟩; (· (go_simp; rfl)); simp only [Act.put, List.setIfInBounds_toArray, List.set_cons_zero, List.set_cons_succ]
    refine anyT_val (But.pre _) 1 rfl (by kernel_rfl) (by kernel_rfl) (by kernel_rfl) (fun _ _ _ _ h => h) rfl ?_; apply Exists.intro; refine ⟨fun v1 hv1 => ?_, ?_⟩; (· (go_simp; rfl)); simp only [Act.put, List.setIfInBounds_toArray, List.set_cons_zero, List.set_cons_succ]
    refine anyT_val (But.pre _) 3 rfl (by kernel_rfl) (by kernel_rfl) (by kernel_rfl) (fun _ _ _ _ h => h) rfl ?_; apply Exists.intro; refine ⟨fun v1 hv1 => ?_, ?_⟩; (· (go_simp; rfl)); simp only [Act.put, List.setIfInBounds_toArray, List.set_cons_zero, List.set_cons_succ]
    refine anyT_val (But.pre _) 4 rfl (by kernel_rfl) (by kernel_rfl) (by kernel_rfl) (fun _ _ _ _ h => h) rfl ?_; apply Exists.intro; refine ⟨fun v1 hv1 => ?_, ?_⟩; (· (go_simp; rfl)); simp only [Act.put, List.setIfInBounds_toArray, List.set_cons_zero, List.set_cons_succ]
    clear ha
    refine anyT_one 2 rfl (by kernel_rfl) rfl ?_
    refine wp_enter 53 #[.slice b8 dq.length c8, .int .i64 0] (by go_simp) ?_
    refine (rget16_at _ dq hBq 0 (by omega) hld Wd DWd.rd).mono ?_
    rintro e W5 ⟨rfl, nW5, eW5⟩
    have lW5 : Later Wd W5 := by rw [eW5]; exact below_draw (Later.refl Wd) nW5
    clear eW5
    have tW5 := later_keep lW5 tWd
    have DW5 := DWd.ck (CK.of lW5)
    refine ⟨But.of lW5, ?_⟩
    simp only [Act.put, List.setIfInBounds_toArray, List.set_cons_zero, List.set_cons_succ]
    refine anyT_val (But.pre _) 6 rfl (by kernel_rfl) (by kernel_rfl) (by kernel_rfl) (fun _ _ _ _ h => h) rfl ?_; apply Exists.intro; refine ⟨fun v1 hv1 => ?_, ?_⟩; (· (go_simp; rfl)); simp only [Act.put, List.setIfInBounds_toArray, List.set_cons_zero, List.set_cons_succ]
    refine anyT_one 5 rfl (by kernel_rfl) rfl ?_
    refine wp_enter 53 #[.slice b8 dq.length c8, .int .i64 2] (by go_simp) ?_
    refine (rget16_at _ dq hBq 2 (by omega) hld W5 DW5.rd).mono ?_
    rintro e W6 ⟨rfl, nW6, eW6⟩
    have lW6 : Later W5 W6 := by rw [eW6]; exact below_draw (Later.refl W5) nW6
    clear eW6
    have tW6 := later_keep lW6 tW5
    have DW6 := DW5.ck (CK.of lW6)
    refine ⟨But.of lW6, ?_⟩
    simp only [Act.put, List.setIfInBounds_toArray, List.set_cons_zero, List.set_cons_succ]
    generalize hg0 : getAt2 dq 0 = g0 at *
    generalize hg2 : getAt2 dq 2 = g2 at *
    have HG0 := hide hg0
    have HG2 := hide hg2
    clear hg0 hg2
    have kx := block_cell tW6
    have fx := block_frozen tW6
    refine anyT_one 7 rfl (by kernel_rfl) rfl ?_
    unfold Oper.wp
    go_simp
    generalize hV : W6.setCell ⟨gq + 1, 3, none⟩ _ = V7
    have tV := heap_set1 tW6 3 (.int .u16 g0)
    rw [hV] at tV
    have hbV7 : But (fun b => b = gq + 1) W6 V7 := by rw [← hV]; exact (But.refl (fun b => b = gq + 1) _).setCell (p := ⟨gq + 1, 3, none⟩) rfl _
    refine ⟨hbV7, ?_⟩
    clear hV kx fx
    simp only [List.setIfInBounds_toArray, List.set_cons_zero, List.set_cons_succ] at tV
    refine anyT_val (But.pre _) 8 rfl (by kernel_rfl) (by kernel_rfl) (by kernel_rfl) (fun _ _ _ _ h => h) rfl ?_; apply Exists.intro; refine ⟨fun v1 hv1 => ?_, ?_⟩; (· (go_simp; rfl)); simp only [Act.put, List.setIfInBounds_toArray, List.set_cons_zero, List.set_cons_succ]
    have kx := block_cell tV
    have fx := block_frozen tV
    refine anyT_one 9 rfl (by kernel_rfl) rfl ?_
    unfold Oper.wp
    go_simp
    generalize hV : V7.setCell ⟨gq + 1, 4, none⟩ _ = V8
    have tN := heap_set1 tV 4 (.int .u16 g2)
    rw [hV] at tN
    have hbV8 : But (fun b => b = gq + 1) V7 V8 := by rw [← hV]; exact (But.refl (fun b => b = gq + 1) _).setCell (p := ⟨gq + 1, 4, none⟩) rfl _
    refine ⟨hbV8, ?_⟩
    clear hV kx fx
    simp only [List.setIfInBounds_toArray, List.set_cons_zero, List.set_cons_succ] at tN
    refine anyT_done (by kernel_rfl) ?_
    have hbN : But (fun b => b = gq + 1) w4 V8 := (But.of (ld.trans (lW5.trans lW6))).trans (hbV7.trans hbV8)
    have qN := (hbN.block gq (Array.getElem?_eq_some_iff.1 qk).1 (by omega)).trans qk
    have rN := (hbN.block (w.heap.size + 1) (Array.getElem?_eq_some_iff.1 r3).1 (by omega)).trans r3
    have sN := (hbN.block (w.heap.size + 1 + 1) (Array.getElem?_eq_some_iff.1 s3).1 (by omega)).trans s3
    have hwN : Below w.heap.size w V8 := hw3.trans (hbN.below hw3.size (fun k hk e => by omega))
    clear ld
    go_upto_region 26 with fail
    refine anyT_begin (R := But (fun b => b = w.heap.size + 1 ∨ b = w.heap.size + 1 + 1)) 5 rfl (by kernel_rfl) ?_
    have ld : Later V8 V8.drew := Later.drew V8
    have qd0 := later_keep ld qN
    have td0 := later_keep ld tN
    have rd0 := later_keep ld rN
    have sd0 := later_keep ld sN
    have hwd := hwN.trans (ld.mono hwN.size)
    generalize V8.drew = Wd at *
    have ha : ∀ v1, But (fun b => b = w.heap.size + 1 ∨ b = w.heap.size + 1 + 1) Wd v1 → ∀ i, v1.cell? ⟨gq, i, none⟩ = #[Value.int .u8 q1, .int .u16 q2, .bool q3, .int .u8 q4, .int .u8 pr, .int .u32 qs, .int .u32 qd, .slice b7 l7 c7, .slice b8 dq.length c8][i]? := fun v1 h => block_cell ((h.block gq (Array.getElem?_eq_some_iff.1 qd0).1 (by omega)).trans qd0)
    have hb : ∀ v1, But (fun b => b = w.heap.size + 1 ∨ b = w.heap.size + 1 + 1) Wd v1 → ∀ i, v1.cell? ⟨gq + 1, i, none⟩ = #[Value.int .u8 pr, .int .u32 qs, .int .u32 qd, .int .u16 g0, .int .u16 g2][i]? := fun v1 h => block_cell ((h.block (gq + 1) (Array.getElem?_eq_some_iff.1 td0).1 (by omega)).trans td0)
    refine anyT_val (But.pre _) 0 rfl (by kernel_rfl) (by kernel_rfl) (by kernel_rfl) (fun _ _ _ _ h => h) rfl ?_; apply Exists.intro; refine ⟨fun v1 hv1 => ?_, ?_⟩; (· (go_simp; rfl)); simp only [Act.put, List.setIfInBounds_toArray, List.set_cons_zero, List.set_cons_succ]
    refine anyT_val (But.pre _) 1 rfl (by kernel_rfl) (by kernel_rfl) (by kernel_rfl) (fun _ _ _ _ h => h) rfl ?_; apply Exists.intro; refine ⟨fun v1 hv1 => ?_, ?_⟩; (· (go_simp; rfl)); simp only [Act.put, List.setIfInBounds_toArray, List.set_cons_zero, List.set_cons_succ]
    clear ha hb
    have kx := block_cell rd0
    have fx := block_frozen rd0
    refine anyT_one 2 rfl (by kernel_rfl) rfl ?_
    unfold Oper.wp
    go_simp
    generalize hV1 : ((((((((Wd.setCell ⟨w.heap.size + 1, 0, none⟩ _).setCell ⟨w.heap.size + 1, 1, none⟩ _).setCell ⟨w.heap.size + 1, 2, none⟩ _).setCell ⟨w.heap.size + 1, 3, none⟩ _).setCell ⟨w.heap.size + 1, 4, none⟩ _).setCell ⟨w.heap.size + 1, 5, none⟩ _).setCell ⟨w.heap.size + 1, 6, none⟩ _).setCell ⟨w.heap.size + 1, 7, none⟩ _).setCell ⟨w.heap.size + 1, 8, none⟩ _ = Y0
    have hV9 : Y0 = putRow Wd (w.heap.size + 1) 0 [.int .u8 q1, .int .u16 q2, .bool q3, .int .u8 q4, .int .u8 pr, .int .u32 qs, .int .u32 qd, .slice b7 l7 c7, .slice b8 dq.length c8] := hV1.symm
    have hbY0 : But (fun b => b = w.heap.size + 1) Wd Y0 := by rw [hV9]; exact putRow_but (E := fun b => b = w.heap.size + 1) (n := w.heap.size + 1) rfl _ _ _ _ (But.refl _ _)
    have hbY1 : But (fun b => b = w.heap.size + 1 ∨ b = w.heap.size + 1 + 1) Wd Y0 := by rw [hV9]; exact putRow_but (E := fun b => b = w.heap.size + 1 ∨ b = w.heap.size + 1 + 1) (n := w.heap.size + 1) (.inl rfl) _ _ _ _ (But.refl _ _)
    have pY0 := putRow_all ([.int .u8 q1, .int .u16 q2, .bool q3, .int .u8 q4, .int .u8 pr, .int .u32 qs, .int .u32 qd, .slice b7 l7 c7, .slice b8 dq.length c8] : List Value) rd0 rfl
    rw [← hV9] at pY0
    have sY0 := (hbY0.block (w.heap.size + 1 + 1) (Array.getElem?_eq_some_iff.1 sd0).1 (by omega)).trans sd0
    refine ⟨hbY1, ?_⟩
    clear hV1 hV9 kx fx
    have kx := block_cell sY0
    have fx := block_frozen sY0
    refine anyT_one 3 rfl (by kernel_rfl) rfl ?_
    unfold Oper.wp
    go_simp
    generalize hV2 : ((((Y0.setCell ⟨w.heap.size + 1 + 1, 0, none⟩ _).setCell ⟨w.heap.size + 1 + 1, 1, none⟩ _).setCell ⟨w.heap.size + 1 + 1, 2, none⟩ _).setCell ⟨w.heap.size + 1 + 1, 3, none⟩ _).setCell ⟨w.heap.size + 1 + 1, 4, none⟩ _ = V
    have hV8 : V = putRow Y0 (w.heap.size + 1 + 1) 0 [.int .u8 pr, .int .u32 qs, .int .u32 qd, .int .u16 g0, .int .u16 g2] := hV2.symm
    have hbV : But (fun b => b = w.heap.size + 1 + 1) Y0 V := by rw [hV8]; exact putRow_but (E := fun b => b = w.heap.size + 1 + 1) (n := w.heap.size + 1 + 1) rfl _ _ _ _ (But.refl _ _)
    have hbV1 : But (fun b => b = w.heap.size + 1 ∨ b = w.heap.size + 1 + 1) Y0 V := by rw [hV8]; exact putRow_but (E := fun b => b = w.heap.size + 1 ∨ b = w.heap.size + 1 + 1) (n := w.heap.size + 1 + 1) (.inr rfl) _ _ _ _ (But.refl _ _)
    have qV := putRow_all ([.int .u8 pr, .int .u32 qs, .int .u32 qd, .int .u16 g0, .int .u16 g2] : List Value) sY0 rfl
    rw [← hV8] at qV
    have pV := (hbV.block (w.heap.size + 1) (Array.getElem?_eq_some_iff.1 pY0).1 (by omega)).trans pY0
    refine ⟨hbV1, ?_⟩
    clear hV2 hV8 kx fx
    refine anyT_one 4 rfl (by kernel_rfl) rfl ?_
    unfold Oper.wp
    go_simp
    refine ⟨But.refl _ _, ?_⟩
    refine anyT_done (by kernel_rfl) ?_
    have PV := block_cell pV
    have QV := block_cell qV
    have hwV : Below w.heap.size w V := (hwd.trans (hbY0.below hwd.size (fun k hk e => by omega))).trans (hbV.below (Nat.le_trans hwd.size hbY0.size) (fun k hk e => by omega))
    go_wp2_with fail
    exact bodyPost_ret (v := .tuple #[.agg #[.int .u8 q1, .int .u16 q2, .bool q3, .int .u8 q4, .int .u8 pr, .int .u32 qs, .int .u32 qd, .slice b7 l7 c7, .slice b8 dq.length c8], .agg #[.int .u8 pr, .int .u32 qs, .int .u32 qd, .int .u16 g0, .int .u16 g2], .int .i64 0]) (by simp [results, Tryd.results35, go_sem, PV, QV]) rfl ⟨hwV, by rw [HDQ.out, HG0.out, HG2.out, HQS.out, HQD.out]; exact rin_mk _ _ _ _ _ _ _ _ _ _ _ _ _ _ _⟩
end Go.Proofs.YtojoaidnkljcpaaDoor

/- The document's Inner: messages, frames, others. -/
namespace Go.Proofs.YtojoaidnkljcpaaDoor
open Go.RowKit Go.Shelf
set_option maxRecDepth 100000
set_option linter.unusedVariables false
set_option linter.unusedSimpArgs false

set_option maxHeartbeats 8000000 in
theorem rinner_icmp (pr : Int) (tos id ttl src dst : Int) (keep : Bool) (so sd : Value) (zd : List Int) (w : World) (hB : Mt.By zd) (hI : Rd w.heap.size w sd zd) (hl : zd.length ≤ 1099511627776) (hpi : pie 1 zd = 0) (her : erb (zd[0]?.getD 0) = true) (hrd : rde true (zd.drop 8) = 0) (hpr : (zd.drop 8)[9]?.getD 0 = pr) (h8 : 8 ≤ (qdt (zd.drop 8)).length) (hld : (qdt (zd.drop 8)).length ≤ 140737488355328) (hp : pr = 1) (hec : ecb ((qdt (zd.drop 8))[0]?.getD 0) ((qdt (zd.drop 8))[1]?.getD 0) = true) : Calls Tryd.prog 35 #[.agg #[.int .u8 tos, .int .u16 id, .bool keep, .int .u8 ttl, .int .u8 1, .int .u32 src, .int .u32 dst, so, sd]] w fun e w' => Below w.heap.size w w' ∧ rin (.agg #[.int .u8 pr, .int .u32 (wat4 (zd.drop 8) 12), .int .u32 (wat4 (zd.drop 8) 16), .int .u16 (getAt2 (qdt (zd.drop 8)) 4), .int .u16 (getAt2 (qdt (zd.drop 8)) 4)]) 0 e := by
  have hd1 : (qdt (zd.drop 8))[1]?.getD 0 = 0 := by unfold ecb at hec; simp at hec; exact hec.2
  have hd0 : (qdt (zd.drop 8))[0]?.getD 0 = 8 ∨ (qdt (zd.drop 8))[0]?.getD 0 = 0 := by unfold ecb at hec; simp at hec; exact hec.1
  clear hec
  obtain ⟨e0v, he0⟩ : ∃ e0v, (qdt (zd.drop 8))[0]?.getD 0 = e0v := ⟨_, rfl⟩
  have HD1 := hide hd1
  have HD0 := hide hd0
  clear hd1 hd0 he0
  obtain ⟨ad, cd, rfl, _, _⟩ := hI.slice
  have hb0 : Below w.heap.size w (((w.alloc (.cells #[.int .u8 tos, .int .u16 id, .bool keep, .int .u8 ttl, .int .u8 1, .int .u32 src, .int .u32 dst, so, .slice ad zd.length cd] 26)).alloc (.cells #[.int .u8 0, .int .u16 0, .bool false, .int .u8 0, .int .u8 0, .int .u32 0, .int .u32 0, .slice none 0 0, .slice none 0 0] 26)).alloc (.cells #[.int .u8 0, .int .u32 0, .int .u32 0, .int .u16 0, .int .u16 0] 28)) := ((((Below.refl _ _).alloc (Nat.le_refl _) _).alloc (by simp) _).alloc (by simp <;> omega) _)
  have r0 : (((w.alloc (.cells #[.int .u8 tos, .int .u16 id, .bool keep, .int .u8 ttl, .int .u8 1, .int .u32 src, .int .u32 dst, so, .slice ad zd.length cd] 26)).alloc (.cells #[.int .u8 0, .int .u16 0, .bool false, .int .u8 0, .int .u8 0, .int .u32 0, .int .u32 0, .slice none 0 0, .slice none 0 0] 26)).alloc (.cells #[.int .u8 0, .int .u32 0, .int .u32 0, .int .u16 0, .int .u16 0] 28)).heap[w.heap.size + 1]? = some (.cells #[.int .u8 0, .int .u16 0, .bool false, .int .u8 0, .int .u8 0, .int .u32 0, .int .u32 0, .slice none 0 0, .slice none 0 0] 26) := by
    have := heap_alloc_new (w.alloc (.cells #[.int .u8 tos, .int .u16 id, .bool keep, .int .u8 ttl, .int .u8 1, .int .u32 src, .int .u32 dst, so, .slice ad zd.length cd] 26)) (.cells #[.int .u8 0, .int .u16 0, .bool false, .int .u8 0, .int .u8 0, .int .u32 0, .int .u32 0, .slice none 0 0, .slice none 0 0] 26)
    rw [World.size_alloc] at this
    exact (Below.heap_alloc _ _ _ (by simp)).trans this
  have s0 : (((w.alloc (.cells #[.int .u8 tos, .int .u16 id, .bool keep, .int .u8 ttl, .int .u8 1, .int .u32 src, .int .u32 dst, so, .slice ad zd.length cd] 26)).alloc (.cells #[.int .u8 0, .int .u16 0, .bool false, .int .u8 0, .int .u8 0, .int .u32 0, .int .u32 0, .slice none 0 0, .slice none 0 0] 26)).alloc (.cells #[.int .u8 0, .int .u32 0, .int .u32 0, .int .u16 0, .int .u16 0] 28)).heap[w.heap.size + 1 + 1]? = some (.cells #[.int .u8 0, .int .u32 0, .int .u32 0, .int .u16 0, .int .u16 0] 28) := by
    have := heap_alloc_new ((w.alloc (.cells #[.int .u8 tos, .int .u16 id, .bool keep, .int .u8 ttl, .int .u8 1, .int .u32 src, .int .u32 dst, so, .slice ad zd.length cd] 26)).alloc (.cells #[.int .u8 0, .int .u16 0, .bool false, .int .u8 0, .int .u8 0, .int .u32 0, .int .u32 0, .slice none 0 0, .slice none 0 0] 26)) (.cells #[.int .u8 0, .int .u32 0, .int .u32 0, .int .u16 0, .int .u16 0] 28)
    simpa only [World.size_alloc] using this
  have R0 := hide r0
  have S0 := hide s0
  clear r0 s0
  go_enter Tryd.func35, Tryd.ntmps35
  go_wp2_with fail
  generalize (((w.alloc (.cells #[.int .u8 tos, .int .u16 id, .bool keep, .int .u8 ttl, .int .u8 1, .int .u32 src, .int .u32 dst, so, .slice ad zd.length cd] 26)).alloc (.cells #[.int .u8 0, .int .u16 0, .bool false, .int .u8 0, .int .u8 0, .int .u32 0, .int .u32 0, .slice none 0 0, .slice none 0 0] 26)).alloc (.cells #[.int .u8 0, .int .u32 0, .int .u32 0, .int .u16 0, .int .u16 0] 28)) = w0 at *
  refine (rparseIcmp_any tos id ttl 1 src dst keep _ _ zd w0 hB ((hI.below hb0).mono hb0.size) hl).mono ?_
  rintro e w1 ⟨hb1, ⟨hf, rfl⟩ | ⟨hf, a1, c1, rfl, hO⟩⟩
  · exact absurd hpi hf
  · clear hf
    have la : Later w1 (w1.alloc (.cells #[.int .u8 (zd[0]?.getD 0), .int .u8 (zd[1]?.getD 0), .int .u32 (wat4 zd 4), .slice a1 (zd.length - 8) c1] 49)) := (Below.refl _ _).alloc (Nat.le_refl _) _
    have l1 := Later.trans hb1 la
    have mW := heap_alloc_new w1 (.cells #[.int .u8 (zd[0]?.getD 0), .int .u8 (zd[1]?.getD 0), .int .u32 (wat4 zd 4), .slice a1 (zd.length - 8) c1] 49)
    have rW := later_keep l1 R0.out
    have sW := later_keep l1 S0.out
    have hwW := hb0.trans (l1.mono hb0.size)
    have DW := hO.ck (CK.of la)
    go_wp2_with fail
    generalize w1.alloc (.cells #[.int .u8 (zd[0]?.getD 0), .int .u8 (zd[1]?.getD 0), .int .u32 (wat4 zd 4), .slice a1 (zd.length - 8) c1] 49) = W at *
    generalize w1.heap.size = gm at *
    refine (risError_any (zd[0]?.getD 0) (zd[1]?.getD 0) (wat4 zd 4) _ W).mono ?_
    rw [show (zd[0]?.getD 0 == 3 || (zd[0]?.getD 0 == 11 || zd[0]?.getD 0 == 12)) = true from her]
    rintro e w2 ⟨rfl, hb2⟩
    have l2 : Later W w2 := hb2
    have r2 := later_keep l2 rW
    have s2 := later_keep l2 sW
    have hw2 := hwW.trans (hb2.mono hwW.size)
    have km := block_cell (later_keep l2 mW)
    have D2 := DW.ck (CK.of l2)
    go_wp2_with fail
    clear km
    refine (rquote_any _ (zd.drop 8) w2 (hB.drop 8) (by simp; omega) D2.rd).mono ?_
    rintro e w3 ⟨hb3, ⟨hf3, _⟩ | ⟨_, qo, qs0, rfl, hO3, hD3⟩⟩
    · exact absurd hrd hf3
    obtain ⟨b7, c7, rfl, _, _⟩ := hO3.slice
    obtain ⟨b8, c8, rfl, hc8, hc9⟩ := hD3.slice
    have hBq := By_qdt (hB.drop 8)
    unfold pkt
    have HPR := hide hpr
    rw [hpr]
    clear hpr hpi her hrd
    generalize (zd.drop 8)[1]?.getD 0 = q1 at *
    generalize wat (zd.drop 8) 4 = q2 at *
    generalize decide (16384 ≤ wat (zd.drop 8) 6 % 32768) = q3 at *
    generalize (zd.drop 8)[8]?.getD 0 = q4 at *
    generalize hqs : wat4 (zd.drop 8) 12 = qs at *
    generalize hqd : wat4 (zd.drop 8) 16 = qd at *
    have HQS := hide hqs
    have HQD := hide hqd
    clear hqs hqd
    generalize (((zd.drop 8).take (hl4 (zd.drop 8)).toNat).drop 20).length = l7 at *
    clear hO3
    rw [show ((zd.drop 8).take (ral true (zd.drop 8)).toNat).drop (hl4 (zd.drop 8)).toNat = qdt (zd.drop 8) from rfl] at hD3 hc8 ⊢
    generalize hdq : qdt (zd.drop 8) = dq at *
    have HDQ := hide hdq
    clear hdq
    have la3 : Later w3 (w3.alloc (.cells #[.int .u8 q1, .int .u16 q2, .bool q3, .int .u8 q4, .int .u8 pr, .int .u32 qs, .int .u32 qd, .slice b7 l7 c7, .slice b8 dq.length c8] 26)) := (Below.refl _ _).alloc (Nat.le_refl _) _
    have lb3 : Later (w3.alloc (.cells #[.int .u8 q1, .int .u16 q2, .bool q3, .int .u8 q4, .int .u8 pr, .int .u32 qs, .int .u32 qd, .slice b7 l7 c7, .slice b8 dq.length c8] 26)) ((w3.alloc (.cells #[.int .u8 q1, .int .u16 q2, .bool q3, .int .u8 q4, .int .u8 pr, .int .u32 qs, .int .u32 qd, .slice b7 l7 c7, .slice b8 dq.length c8] 26)).alloc (.cells #[.int .u8 pr, .int .u32 qs, .int .u32 qd, .int .u16 0, .int .u16 0] 28)) := (Below.refl _ _).alloc (Nat.le_refl _) _
    have lab := la3.trans lb3
    have l3 := Later.trans hb3 lab
    have qk := later_keep lb3 (heap_alloc_new w3 (.cells #[.int .u8 q1, .int .u16 q2, .bool q3, .int .u8 q4, .int .u8 pr, .int .u32 qs, .int .u32 qd, .slice b7 l7 c7, .slice b8 dq.length c8] 26))
    have tk := heap_alloc_new (w3.alloc (.cells #[.int .u8 q1, .int .u16 q2, .bool q3, .int .u8 q4, .int .u8 pr, .int .u32 qs, .int .u32 qd, .slice b7 l7 c7, .slice b8 dq.length c8] 26)) (.cells #[.int .u8 pr, .int .u32 qs, .int .u32 qd, .int .u16 0, .int .u16 0] 28)
    rw [World.size_alloc] at tk
    have r3 := later_keep l3 r2
    have s3 := later_keep l3 s2
    have hw3 := hw2.trans (l3.mono hw2.size)
    have D3 := hD3.ck (CK.of lab)
    have hgq : w.heap.size + 1 + 1 < w3.heap.size := Nat.lt_of_lt_of_le (Array.getElem?_eq_some_iff.1 s2).1 hb3.size
    clear D2 hD3
    have HLQ : Hid (8 ≤ dq.length) := h8
    have hq6 : (pr == 6) = false := by simp [hp]
    have hq17 : (pr == 17) = false := by simp [hp]
    have hq1 : (pr == 1) = true := by simp [hp]
    have hq47 : (pr == 47) = false := by simp [hp]
    have HP := hide hp
    clear hp
    have kq := block_cell qk
    go_upto_region 18 with fail
    generalize (w3.alloc (.cells #[.int .u8 q1, .int .u16 q2, .bool q3, .int .u8 q4, .int .u8 pr, .int .u32 qs, .int .u32 qd, .slice b7 l7 c7, .slice b8 dq.length c8] 26)).alloc (.cells #[.int .u8 pr, .int .u32 qs, .int .u32 qd, .int .u16 0, .int .u16 0] 28) = w4 at *
    generalize w3.heap.size = gq at *
    have h8q := HLQ.out
    have h8i : (8 : Int) ≤ dq.length := by omega
    obtain ⟨g8, rfl, _, _, hcs, _⟩ := D3.at (by omega)
    have kd0 := (hcs 0 (by omega)).1
    have kd1 := (hcs 1 (by omega)).1
    clear hcs
    rw [show dq[1]?.getD 0 = 0 from HD1.out] at kd1
    have hor : dq[0]?.getD 0 = 8 ∨ dq[0]?.getD 0 = 0 := HD0.out
    rcases hor with h0 | h0
    · rw [h0] at kd0
      clear h0
      go_upto_region 20 with fail
      clear hq6 hq17 hq1 hq47 kq
      clear kd0 kd1
      have kq := block_cell qk
      go_wp2_with fail
      clear kq
      refine (rget16_at _ dq hBq 4 (by omega) hld w4 D3.rd).mono ?_
      rintro e W5 ⟨rfl, n5, e5⟩
      have l5 : Later w4 W5 := by rw [e5]; exact below_draw (Later.refl w4) n5
      clear e5
      have t5 := later_keep l5 tk
      generalize hg4 : getAt2 dq 4 = g4 at *
      have HG4 := hide hg4
      clear hg4
      have kx := block_cell t5
      have fx := block_frozen t5
      go_upto_region 21 with fail
      generalize hV : W5.setCell ⟨gq + 1, 3, none⟩ _ = V7
      have tV := heap_set1 t5 3 (.int .u16 g4)
      rw [hV] at tV
      have hbV7 : But (fun b => b = gq + 1) W5 V7 := by rw [← hV]; exact (But.refl (fun b => b = gq + 1) _).setCell (p := ⟨gq + 1, 3, none⟩) rfl _
      clear hV kx fx
      simp only [List.setIfInBounds_toArray, List.set_cons_zero, List.set_cons_succ] at tV
      have kx := block_cell tV
      have fx := block_frozen tV
      go_upto_region 26 with fail
      generalize hV : V7.setCell ⟨gq + 1, 4, none⟩ _ = V8
      have tN := heap_set1 tV 4 (.int .u16 g4)
      rw [hV] at tN
      have hbV8 : But (fun b => b = gq + 1) V7 V8 := by rw [← hV]; exact (But.refl (fun b => b = gq + 1) _).setCell (p := ⟨gq + 1, 4, none⟩) rfl _
      clear hV kx fx
      simp only [List.setIfInBounds_toArray, List.set_cons_zero, List.set_cons_succ] at tN
      have hbN : But (fun b => b = gq + 1) w4 V8 := (But.of l5).trans (hbV7.trans hbV8)
      have qN := (hbN.block gq (Array.getElem?_eq_some_iff.1 qk).1 (by omega)).trans qk
      have rN := (hbN.block (w.heap.size + 1) (Array.getElem?_eq_some_iff.1 r3).1 (by omega)).trans r3
      have sN := (hbN.block (w.heap.size + 1 + 1) (Array.getElem?_eq_some_iff.1 s3).1 (by omega)).trans s3
      have hwN : Below w.heap.size w V8 := hw3.trans (hbN.below hw3.size (fun k hk e => by omega))
      refine anyT_begin (R := But (fun b => b = w.heap.size + 1 ∨ b = w.heap.size + 1 + 1)) 5 rfl (by kernel_rfl) ?_
      have ld : Later V8 V8.drew := Later.drew V8
      have qd0 := later_keep ld qN
      have td0 := later_keep ld tN
      have rd0 := later_keep ld rN
      have sd0 := later_keep ld sN
      have hwd := hwN.trans (ld.mono hwN.size)
      generalize V8.drew = Wd at *
      have ha : ∀ v1, But (fun b => b = w.heap.size + 1 ∨ b = w.heap.size + 1 + 1) Wd v1 → ∀ i, v1.cell? ⟨gq, i, none⟩ = #[Value.int .u8 q1, .int .u16 q2, .bool q3, .int .u8 q4, .int .u8 pr, .int .u32 qs, .int .u32 qd, .slice b7 l7 c7, .slice (some ⟨g8, 0, none⟩) dq.length c8][i]? := fun v1 h => block_cell ((h.block gq (Array.getElem?_eq_some_iff.1 qd0).1 (by omega)).trans qd0)
      have hb : ∀ v1, But (fun b => b = w.heap.size + 1 ∨ b = w.heap.size + 1 + 1) Wd v1 → ∀ i, v1.cell? ⟨gq + 1, i, none⟩ = #[Value.int .u8 pr, .int .u32 qs, .int .u32 qd, .int .u16 g4, .int .u16 g4][i]? := fun v1 h => block_cell ((h.block (gq + 1) (Array.getElem?_eq_some_iff.1 td0).1 (by omega)).trans td0)
      refine anyT_val (But.pre _) 0 rfl (by kernel_rfl) (by kernel_rfl) (by kernel_rfl) (fun _ _ _ _ h => h) rfl ?_; apply Exists.intro; refine ⟨fun v1 hv1 => ?_, ?_⟩; (· (go_simp; rfl)); simp only [Act.put, List.setIfInBounds_toArray, List.set_cons_zero, List.set_cons_succ]
      refine anyT_val (But.pre _) 1 rfl (by kernel_rfl) (by kernel_rfl) (by kernel_rfl) (fun _ _ _ _ h => h) rfl ?_; apply Exists.intro; refine ⟨fun v1 hv1 => ?_, ?_⟩; (· (go_simp; rfl)); simp only [Act.put, List.setIfInBounds_toArray, List.set_cons_zero, List.set_cons_succ]
      clear ha hb
      have kx := block_cell rd0
      have fx := block_frozen rd0
      refine anyT_one 2 rfl (by kernel_rfl) rfl ?_
      unfold Oper.wp
      go_simp
      generalize hV1 : ((((((((Wd.setCell ⟨w.heap.size + 1, 0, none⟩ _).setCell ⟨w.heap.size + 1, 1, none⟩ _).setCell ⟨w.heap.size + 1, 2, none⟩ _).setCell ⟨w.heap.size + 1, 3, none⟩ _).setCell ⟨w.heap.size + 1, 4, none⟩ _).setCell ⟨w.heap.size + 1, 5, none⟩ _).setCell ⟨w.heap.size + 1, 6, none⟩ _).setCell ⟨w.heap.size + 1, 7, none⟩ _).setCell ⟨w.heap.size + 1, 8, none⟩ _ = Y0
      have hV9 : Y0 = putRow Wd (w.heap.size + 1) 0 [.int .u8 q1, .int .u16 q2, .bool q3, .int .u8 q4, .int .u8 pr, .int .u32 qs, .int .u32 qd, .slice b7 l7 c7, .slice (some ⟨g8, 0, none⟩) dq.length c8] := hV1.symm
      have hbY0 : But (fun b => b = w.heap.size + 1) Wd Y0 := by rw [hV9]; exact putRow_but (E := fun b => b = w.heap.size + 1) (n := w.heap.size + 1) rfl _ _ _ _ (But.refl _ _)
      have hbY1 : But (fun b => b = w.heap.size + 1 ∨ b = w.heap.size + 1 + 1) Wd Y0 := by rw [hV9]; exact putRow_but (E := fun b => b = w.heap.size + 1 ∨ b = w.heap.size + 1 + 1) (n := w.heap.size + 1) (.inl rfl) _ _ _ _ (But.refl _ _)
      have pY0 := putRow_all ([.int .u8 q1, .int .u16 q2, .bool q3, .int .u8 q4, .int .u8 pr, .int .u32 qs, .int .u32 qd, .slice b7 l7 c7, .slice (some ⟨g8, 0, none⟩) dq.length c8] : List Value) rd0 rfl
      rw [← hV9] at pY0
      have sY0 := (hbY0.block (w.heap.size + 1 + 1) (Array.getElem?_eq_some_iff.1 sd0).1 (by omega)).trans sd0
      refine ⟨hbY1, ?_⟩
      clear hV1 hV9 kx fx
      have kx := block_cell sY0
      have fx := block_frozen sY0
      refine anyT_one 3 rfl (by kernel_rfl) rfl ?_
      unfold Oper.wp
      go_simp
      generalize hV2 : ((((Y0.setCell ⟨w.heap.size + 1 + 1, 0, none⟩ _).setCell ⟨w.heap.size + 1 + 1, 1, none⟩ _).setCell ⟨w.heap.size + 1 + 1, 2, none⟩ _).setCell ⟨w.heap.size + 1 + 1, 3, none⟩ _).setCell ⟨w.heap.size + 1 + 1, 4, none⟩ _ = V
      have hV8 : V = putRow Y0 (w.heap.size + 1 + 1) 0 [.int .u8 pr, .int .u32 qs, .int .u32 qd, .int .u16 g4, .int .u16 g4] := hV2.symm
      have hbV : But (fun b => b = w.heap.size + 1 + 1) Y0 V := by rw [hV8]; exact putRow_but (E := fun b => b = w.heap.size + 1 + 1) (n := w.heap.size + 1 + 1) rfl _ _ _ _ (But.refl _ _)
      have hbV1 : But (fun b => b = w.heap.size + 1 ∨ b = w.heap.size + 1 + 1) Y0 V := by rw [hV8]; exact putRow_but (E := fun b => b = w.heap.size + 1 ∨ b = w.heap.size + 1 + 1) (n := w.heap.size + 1 + 1) (.inr rfl) _ _ _ _ (But.refl _ _)
      have qV := putRow_all ([.int .u8 pr, .int .u32 qs, .int .u32 qd, .int .u16 g4, .int .u16 g4] : List Value) sY0 rfl
      rw [← hV8] at qV
      have pV := (hbV.block (w.heap.size + 1) (Array.getElem?_eq_some_iff.1 pY0).1 (by omega)).trans pY0
      refine ⟨hbV1, ?_⟩
      clear hV2 hV8 kx fx
      refine anyT_one 4 rfl (by kernel_rfl) rfl ?_
      unfold Oper.wp
      go_simp
      refine ⟨But.refl _ _, ?_⟩
      refine anyT_done (by kernel_rfl) ?_
      have PV := block_cell pV
      have QV := block_cell qV
      have hwV : Below w.heap.size w V := (hwd.trans (hbY0.below hwd.size (fun k hk e => by omega))).trans (hbV.below (Nat.le_trans hwd.size hbY0.size) (fun k hk e => by omega))
      go_wp2_with fail
      exact bodyPost_ret (v := .tuple #[.agg #[.int .u8 q1, .int .u16 q2, .bool q3, .int .u8 q4, .int .u8 pr, .int .u32 qs, .int .u32 qd, .slice b7 l7 c7, .slice (some ⟨g8, 0, none⟩) dq.length c8], .agg #[.int .u8 pr, .int .u32 qs, .int .u32 qd, .int .u16 g4, .int .u16 g4], .int .i64 0]) (by simp [results, Tryd.results35, go_sem, PV, QV]) rfl ⟨hwV, by rw [HDQ.out, HG4.out, HQS.out, HQD.out]; exact rin_mk _ _ _ _ _ _ _ _ _ _ _ _ _ _ _⟩
    · rw [h0] at kd0
      clear h0
      go_upto_region 20 with fail
      clear hq6 hq17 hq1 hq47 kq
      clear kd0 kd1
      have kq := block_cell qk
      go_wp2_with fail
      clear kq
      refine (rget16_at _ dq hBq 4 (by omega) hld w4 D3.rd).mono ?_
      rintro e W5 ⟨rfl, n5, e5⟩
      have l5 : Later w4 W5 := by rw [e5]; exact below_draw (Later.refl w4) n5
      clear e5
      have t5 := later_keep l5 tk
      generalize hg4 : getAt2 dq 4 = g4 at *
      have HG4 := hide hg4
      clear hg4
      have kx := block_cell t5
      have fx := block_frozen t5
      go_upto_region 21 with fail
      generalize hV : W5.setCell ⟨gq + 1, 3, none⟩ _ = V7
      have tV := heap_set1 t5 3 (.int .u16 g4)
      rw [hV] at tV
      have hbV7 : But (fun b => b = gq + 1) W5 V7 := by rw [← hV]; exact (But.refl (fun b => b = gq + 1) _).setCell (p := ⟨gq + 1, 3, none⟩) rfl _
      clear hV kx fx
      simp only [List.setIfInBounds_toArray, List.set_cons_zero, List.set_cons_succ] at tV
      have kx := block_cell tV
      have fx := block_frozen tV
      go_upto_region 26 with fail
      generalize hV : V7.setCell ⟨gq + 1, 4, none⟩ _ = V8
      have tN := heap_set1 tV 4 (.int .u16 g4)
      rw [hV] at tN
      have hbV8 : But (fun b => b = gq + 1) V7 V8 := by rw [← hV]; exact (But.refl (fun b => b = gq + 1) _).setCell (p := ⟨gq + 1, 4, none⟩) rfl _
      clear hV kx fx
      simp only [List.setIfInBounds_toArray, List.set_cons_zero, List.set_cons_succ] at tN
      have hbN : But (fun b => b = gq + 1) w4 V8 := (But.of l5).trans (hbV7.trans hbV8)
      have qN := (hbN.block gq (Array.getElem?_eq_some_iff.1 qk).1 (by omega)).trans qk
      have rN := (hbN.block (w.heap.size + 1) (Array.getElem?_eq_some_iff.1 r3).1 (by omega)).trans r3
      have sN := (hbN.block (w.heap.size + 1 + 1) (Array.getElem?_eq_some_iff.1 s3).1 (by omega)).trans s3
      have hwN : Below w.heap.size w V8 := hw3.trans (hbN.below hw3.size (fun k hk e => by omega))
      refine anyT_begin (R := But (fun b => b = w.heap.size + 1 ∨ b = w.heap.size + 1 + 1)) 5 rfl (by kernel_rfl) ?_
      have ld : Later V8 V8.drew := Later.drew V8
      have qd0 := later_keep ld qN
      have td0 := later_keep ld tN
      have rd0 := later_keep ld rN
      have sd0 := later_keep ld sN
      have hwd := hwN.trans (ld.mono hwN.size)
      generalize V8.drew = Wd at *
      have ha : ∀ v1, But (fun b => b = w.heap.size + 1 ∨ b = w.heap.size + 1 + 1) Wd v1 → ∀ i, v1.cell? ⟨gq, i, none⟩ = #[Value.int .u8 q1, .int .u16 q2, .bool q3, .int .u8 q4, .int .u8 pr, .int .u32 qs, .int .u32 qd, .slice b7 l7 c7, .slice (some ⟨g8, 0, none⟩) dq.length c8][i]? := fun v1 h => block_cell ((h.block gq (Array.getElem?_eq_some_iff.1 qd0).1 (by omega)).trans qd0)
      have hb : ∀ v1, But (fun b => b = w.heap.size + 1 ∨ b = w.heap.size + 1 + 1) Wd v1 → ∀ i, v1.cell? ⟨gq + 1, i, none⟩ = #[Value.int .u8 pr, .int .u32 qs, .int .u32 qd, .int .u16 g4, .int .u16 g4][i]? := fun v1 h => block_cell ((h.block (gq + 1) (Array.getElem?_eq_some_iff.1 td0).1 (by omega)).trans td0)
      refine anyT_val (But.pre _) 0 rfl (by kernel_rfl) (by kernel_rfl) (by kernel_rfl) (fun _ _ _ _ h => h) rfl ?_; apply Exists.intro; refine ⟨fun v1 hv1 => ?_, ?_⟩; (· (go_simp; rfl)); simp only [Act.put, List.setIfInBounds_toArray, List.set_cons_zero, List.set_cons_succ]
      refine anyT_val (But.pre _) 1 rfl (by kernel_rfl) (by kernel_rfl) (by kernel_rfl) (fun _ _ _ _ h => h) rfl ?_; apply Exists.intro; refine ⟨fun v1 hv1 => ?_, ?_⟩; (· (go_simp; rfl)); simp only [Act.put, List.setIfInBounds_toArray, List.set_cons_zero, List.set_cons_succ]
      clear ha hb
      have kx := block_cell rd0
      have fx := block_frozen rd0
      refine anyT_one 2 rfl (by kernel_rfl) rfl ?_
      unfold Oper.wp
      go_simp
      generalize hV1 : ((((((((Wd.setCell ⟨w.heap.size + 1, 0, none⟩ _).setCell ⟨w.heap.size + 1, 1, none⟩ _).setCell ⟨w.heap.size + 1, 2, none⟩ _).setCell ⟨w.heap.size + 1, 3, none⟩ _).setCell ⟨w.heap.size + 1, 4, none⟩ _).setCell ⟨w.heap.size + 1, 5, none⟩ _).setCell ⟨w.heap.size + 1, 6, none⟩ _).setCell ⟨w.heap.size + 1, 7, none⟩ _).setCell ⟨w.heap.size + 1, 8, none⟩ _ = Y0
      have hV9 : Y0 = putRow Wd (w.heap.size + 1) 0 [.int .u8 q1, .int .u16 q2, .bool q3, .int .u8 q4, .int .u8 pr, .int .u32 qs, .int .u32 qd, .slice b7 l7 c7, .slice (some ⟨g8, 0, none⟩) dq.length c8] := hV1.symm
      have hbY0 : But (fun b => b = w.heap.size + 1) Wd Y0 := by rw [hV9]; exact putRow_but (E := fun b => b = w.heap.size + 1) (n := w.heap.size + 1) rfl _ _ _ _ (But.refl _ _)
      have hbY1 : But (fun b => b = w.heap.size + 1 ∨ b = w.heap.size + 1 + 1) Wd Y0 := by rw [hV9]; exact putRow_but (E := fun b => b = w.heap.size + 1 ∨ b = w.heap.size + 1 + 1) (n := w.heap.size + 1) (.inl rfl) _ _ _ _ (But.refl _ _)
      have pY0 := putRow_all ([.int .u8 q1, .int .u16 q2, .bool q3, .int .u8 q4, .int .u8 pr, .int .u32 qs, .int .u32 qd, .slice b7 l7 c7, .slice (some ⟨g8, 0, none⟩) dq.length c8] : List Value) rd0 rfl
      rw [← hV9] at pY0
      have sY0 := (hbY0.block (w.heap.size + 1 + 1) (Array.getElem?_eq_some_iff.1 sd0).1 (by omega)).trans sd0
      refine ⟨hbY1, ?_⟩
      clear hV1 hV9 kx fx
      have kx := block_cell sY0
      have fx := block_frozen sY0
      refine anyT_one 3 rfl (by kernel_rfl) rfl ?_
      unfold Oper.wp
      go_simp
      generalize hV2 : ((((Y0.setCell ⟨w.heap.size + 1 + 1, 0, none⟩ _).setCell ⟨w.heap.size + 1 + 1, 1, none⟩ _).setCell ⟨w.heap.size + 1 + 1, 2, none⟩ _).setCell ⟨w.heap.size + 1 + 1, 3, none⟩ _).setCell ⟨w.heap.size + 1 + 1, 4, none⟩ _ = V
      have hV8 : V = putRow Y0 (w.heap.size + 1 + 1) 0 [.int .u8 pr, .int .u32 qs, .int .u32 qd, .int .u16 g4, .int .u16 g4] := hV2.symm
      have hbV : But (fun b => b = w.heap.size + 1 + 1) Y0 V := by rw [hV8]; exact putRow_but (E := fun b => b = w.heap.size + 1 + 1) (n := w.heap.size + 1 + 1) rfl _ _ _ _ (But.refl _ _)
      have hbV1 : But (fun b => b = w.heap.size + 1 ∨ b = w.heap.size + 1 + 1) Y0 V := by rw [hV8]; exact putRow_but (E := fun b => b = w.heap.size + 1 ∨ b = w.heap.size + 1 + 1) (n := w.heap.size + 1 + 1) (.inr rfl) _ _ _ _ (But.refl _ _)
      have qV := putRow_all ([.int .u8 pr, .int .u32 qs, .int .u32 qd, .int .u16 g4, .int .u16 g4] : List Value) sY0 rfl
      rw [← hV8] at qV
      have pV := (hbV.block (w.heap.size + 1) (Array.getElem?_eq_some_iff.1 pY0).1 (by omega)).trans pY0
      refine ⟨hbV1, ?_⟩
      clear hV2 hV8 kx fx
      refine anyT_one 4 rfl (by kernel_rfl) rfl ?_
      unfold Oper.wp
      go_simp
      refine ⟨But.refl _ _, ?_⟩
      refine anyT_done (by kernel_rfl) ?_
      have PV := block_cell pV
      have QV := block_cell qV
      have hwV : Below w.heap.size w V := (hwd.trans (hbY0.below hwd.size (fun k hk e => by omega))).trans (hbV.below (Nat.le_trans hwd.size hbY0.size) (fun k hk e => by omega))
      go_wp2_with fail
      exact bodyPost_ret (v := .tuple #[.agg #[.int .u8 q1, .int .u16 q2, .bool q3, .int .u8 q4, .int .u8 pr, .int .u32 qs, .int .u32 qd, .slice b7 l7 c7, .slice (some ⟨g8, 0, none⟩) dq.length c8], .agg #[.int .u8 pr, .int .u32 qs, .int .u32 qd, .int .u16 g4, .int .u16 g4], .int .i64 0]) (by simp [results, Tryd.results35, go_sem, PV, QV]) rfl ⟨hwV, by rw [HDQ.out, HG4.out, HQS.out, HQD.out]; exact rin_mk _ _ _ _ _ _ _ _ _ _ _ _ _ _ _⟩

set_option maxHeartbeats 8000000 in
theorem rinner_noecho (pr : Int) (tos id ttl src dst : Int) (keep : Bool) (so sd : Value) (zd : List Int) (w : World) (hB : Mt.By zd) (hI : Rd w.heap.size w sd zd) (hl : zd.length ≤ 1099511627776) (hpi : pie 1 zd = 0) (her : erb (zd[0]?.getD 0) = true) (hrd : rde true (zd.drop 8) = 0) (hpr : (zd.drop 8)[9]?.getD 0 = pr) (h8 : 8 ≤ (qdt (zd.drop 8)).length) (hld : (qdt (zd.drop 8)).length ≤ 140737488355328) (hp : pr = 1) (hec : ecb ((qdt (zd.drop 8))[0]?.getD 0) ((qdt (zd.drop 8))[1]?.getD 0) = false) : Calls Tryd.prog 35 #[.agg #[.int .u8 tos, .int .u16 id, .bool keep, .int .u8 ttl, .int .u8 1, .int .u32 src, .int .u32 dst, so, sd]] w fun e w' => Below w.heap.size w w' ∧ rin (.agg #[.int .u8 0, .int .u32 0, .int .u32 0, .int .u16 0, .int .u16 0]) 12 e := by
  have HEC := hide hec
  clear hec
  obtain ⟨ad, cd, rfl, _, _⟩ := hI.slice
  have hb0 : Below w.heap.size w (((w.alloc (.cells #[.int .u8 tos, .int .u16 id, .bool keep, .int .u8 ttl, .int .u8 1, .int .u32 src, .int .u32 dst, so, .slice ad zd.length cd] 26)).alloc (.cells #[.int .u8 0, .int .u16 0, .bool false, .int .u8 0, .int .u8 0, .int .u32 0, .int .u32 0, .slice none 0 0, .slice none 0 0] 26)).alloc (.cells #[.int .u8 0, .int .u32 0, .int .u32 0, .int .u16 0, .int .u16 0] 28)) := ((((Below.refl _ _).alloc (Nat.le_refl _) _).alloc (by simp) _).alloc (by simp <;> omega) _)
  have r0 : (((w.alloc (.cells #[.int .u8 tos, .int .u16 id, .bool keep, .int .u8 ttl, .int .u8 1, .int .u32 src, .int .u32 dst, so, .slice ad zd.length cd] 26)).alloc (.cells #[.int .u8 0, .int .u16 0, .bool false, .int .u8 0, .int .u8 0, .int .u32 0, .int .u32 0, .slice none 0 0, .slice none 0 0] 26)).alloc (.cells #[.int .u8 0, .int .u32 0, .int .u32 0, .int .u16 0, .int .u16 0] 28)).heap[w.heap.size + 1]? = some (.cells #[.int .u8 0, .int .u16 0, .bool false, .int .u8 0, .int .u8 0, .int .u32 0, .int .u32 0, .slice none 0 0, .slice none 0 0] 26) := by
    have := heap_alloc_new (w.alloc (.cells #[.int .u8 tos, .int .u16 id, .bool keep, .int .u8 ttl, .int .u8 1, .int .u32 src, .int .u32 dst, so, .slice ad zd.length cd] 26)) (.cells #[.int .u8 0, .int .u16 0, .bool false, .int .u8 0, .int .u8 0, .int .u32 0, .int .u32 0, .slice none 0 0, .slice none 0 0] 26)
    rw [World.size_alloc] at this
    exact (Below.heap_alloc _ _ _ (by simp)).trans this
  have s0 : (((w.alloc (.cells #[.int .u8 tos, .int .u16 id, .bool keep, .int .u8 ttl, .int .u8 1, .int .u32 src, .int .u32 dst, so, .slice ad zd.length cd] 26)).alloc (.cells #[.int .u8 0, .int .u16 0, .bool false, .int .u8 0, .int .u8 0, .int .u32 0, .int .u32 0, .slice none 0 0, .slice none 0 0] 26)).alloc (.cells #[.int .u8 0, .int .u32 0, .int .u32 0, .int .u16 0, .int .u16 0] 28)).heap[w.heap.size + 1 + 1]? = some (.cells #[.int .u8 0, .int .u32 0, .int .u32 0, .int .u16 0, .int .u16 0] 28) := by
    have := heap_alloc_new ((w.alloc (.cells #[.int .u8 tos, .int .u16 id, .bool keep, .int .u8 ttl, .int .u8 1, .int .u32 src, .int .u32 dst, so, .slice ad zd.length cd] 26)).alloc (.cells #[.int .u8 0, .int .u16 0, .bool false, .int .u8 0, .int .u8 0, .int .u32 0, .int .u32 0, .slice none 0 0, .slice none 0 0] 26)) (.cells #[.int .u8 0, .int .u32 0, .int .u32 0, .int .u16 0, .int .u16 0] 28)
    simpa only [World.size_alloc] using this
  have R0 := hide r0
  have S0 := hide s0
  clear r0 s0
  go_enter Tryd.func35, Tryd.ntmps35
  go_wp2_with fail
  generalize (((w.alloc (.cells #[.int .u8 tos, .int .u16 id, .bool keep, .int .u8 ttl, .int .u8 1, .int .u32 src, .int .u32 dst, so, .slice ad zd.length cd] 26)).alloc (.cells #[.int .u8 0, .int .u16 0, .bool false, .int .u8 0, .int .u8 0, .int .u32 0, .int .u32 0, .slice none 0 0, .slice none 0 0] 26)).alloc (.cells #[.int .u8 0, .int .u32 0, .int .u32 0, .int .u16 0, .int .u16 0] 28)) = w0 at *
  refine (rparseIcmp_any tos id ttl 1 src dst keep _ _ zd w0 hB ((hI.below hb0).mono hb0.size) hl).mono ?_
  rintro e w1 ⟨hb1, ⟨hf, rfl⟩ | ⟨hf, a1, c1, rfl, hO⟩⟩
  · exact absurd hpi hf
  · clear hf
    have la : Later w1 (w1.alloc (.cells #[.int .u8 (zd[0]?.getD 0), .int .u8 (zd[1]?.getD 0), .int .u32 (wat4 zd 4), .slice a1 (zd.length - 8) c1] 49)) := (Below.refl _ _).alloc (Nat.le_refl _) _
    have l1 := Later.trans hb1 la
    have mW := heap_alloc_new w1 (.cells #[.int .u8 (zd[0]?.getD 0), .int .u8 (zd[1]?.getD 0), .int .u32 (wat4 zd 4), .slice a1 (zd.length - 8) c1] 49)
    have rW := later_keep l1 R0.out
    have sW := later_keep l1 S0.out
    have hwW := hb0.trans (l1.mono hb0.size)
    have DW := hO.ck (CK.of la)
    go_wp2_with fail
    generalize w1.alloc (.cells #[.int .u8 (zd[0]?.getD 0), .int .u8 (zd[1]?.getD 0), .int .u32 (wat4 zd 4), .slice a1 (zd.length - 8) c1] 49) = W at *
    generalize w1.heap.size = gm at *
    refine (risError_any (zd[0]?.getD 0) (zd[1]?.getD 0) (wat4 zd 4) _ W).mono ?_
    rw [show (zd[0]?.getD 0 == 3 || (zd[0]?.getD 0 == 11 || zd[0]?.getD 0 == 12)) = true from her]
    rintro e w2 ⟨rfl, hb2⟩
    have l2 : Later W w2 := hb2
    have r2 := later_keep l2 rW
    have s2 := later_keep l2 sW
    have hw2 := hwW.trans (hb2.mono hwW.size)
    have km := block_cell (later_keep l2 mW)
    have D2 := DW.ck (CK.of l2)
    go_wp2_with fail
    clear km
    refine (rquote_any _ (zd.drop 8) w2 (hB.drop 8) (by simp; omega) D2.rd).mono ?_
    rintro e w3 ⟨hb3, ⟨hf3, _⟩ | ⟨_, qo, qs0, rfl, hO3, hD3⟩⟩
    · exact absurd hrd hf3
    obtain ⟨b7, c7, rfl, _, _⟩ := hO3.slice
    obtain ⟨b8, c8, rfl, hc8, hc9⟩ := hD3.slice
    have hBq := By_qdt (hB.drop 8)
    unfold pkt
    have HPR := hide hpr
    rw [hpr]
    clear hpr hpi her hrd
    generalize (zd.drop 8)[1]?.getD 0 = q1 at *
    generalize wat (zd.drop 8) 4 = q2 at *
    generalize decide (16384 ≤ wat (zd.drop 8) 6 % 32768) = q3 at *
    generalize (zd.drop 8)[8]?.getD 0 = q4 at *
    generalize hqs : wat4 (zd.drop 8) 12 = qs at *
    generalize hqd : wat4 (zd.drop 8) 16 = qd at *
    have HQS := hide hqs
    have HQD := hide hqd
    clear hqs hqd
    generalize (((zd.drop 8).take (hl4 (zd.drop 8)).toNat).drop 20).length = l7 at *
    clear hO3
    rw [show ((zd.drop 8).take (ral true (zd.drop 8)).toNat).drop (hl4 (zd.drop 8)).toNat = qdt (zd.drop 8) from rfl] at hD3 hc8 ⊢
    generalize hdq : qdt (zd.drop 8) = dq at *
    have HDQ := hide hdq
    clear hdq
    have la3 : Later w3 (w3.alloc (.cells #[.int .u8 q1, .int .u16 q2, .bool q3, .int .u8 q4, .int .u8 pr, .int .u32 qs, .int .u32 qd, .slice b7 l7 c7, .slice b8 dq.length c8] 26)) := (Below.refl _ _).alloc (Nat.le_refl _) _
    have lb3 : Later (w3.alloc (.cells #[.int .u8 q1, .int .u16 q2, .bool q3, .int .u8 q4, .int .u8 pr, .int .u32 qs, .int .u32 qd, .slice b7 l7 c7, .slice b8 dq.length c8] 26)) ((w3.alloc (.cells #[.int .u8 q1, .int .u16 q2, .bool q3, .int .u8 q4, .int .u8 pr, .int .u32 qs, .int .u32 qd, .slice b7 l7 c7, .slice b8 dq.length c8] 26)).alloc (.cells #[.int .u8 pr, .int .u32 qs, .int .u32 qd, .int .u16 0, .int .u16 0] 28)) := (Below.refl _ _).alloc (Nat.le_refl _) _
    have lab := la3.trans lb3
    have l3 := Later.trans hb3 lab
    have qk := later_keep lb3 (heap_alloc_new w3 (.cells #[.int .u8 q1, .int .u16 q2, .bool q3, .int .u8 q4, .int .u8 pr, .int .u32 qs, .int .u32 qd, .slice b7 l7 c7, .slice b8 dq.length c8] 26))
    have tk := heap_alloc_new (w3.alloc (.cells #[.int .u8 q1, .int .u16 q2, .bool q3, .int .u8 q4, .int .u8 pr, .int .u32 qs, .int .u32 qd, .slice b7 l7 c7, .slice b8 dq.length c8] 26)) (.cells #[.int .u8 pr, .int .u32 qs, .int .u32 qd, .int .u16 0, .int .u16 0] 28)
    rw [World.size_alloc] at tk
    have r3 := later_keep l3 r2
    have s3 := later_keep l3 s2
    have hw3 := hw2.trans (l3.mono hw2.size)
    have D3 := hD3.ck (CK.of lab)
    have hgq : w.heap.size + 1 + 1 < w3.heap.size := Nat.lt_of_lt_of_le (Array.getElem?_eq_some_iff.1 s2).1 hb3.size
    clear D2 hD3
    have HLQ : Hid (8 ≤ dq.length) := h8
    have hq6 : (pr == 6) = false := by simp [hp]
    have hq17 : (pr == 17) = false := by simp [hp]
    have hq1 : (pr == 1) = true := by simp [hp]
    have hq47 : (pr == 47) = false := by simp [hp]
    have HP := hide hp
    clear hp
    have kq := block_cell qk
    go_upto_region 18 with fail
    generalize (w3.alloc (.cells #[.int .u8 q1, .int .u16 q2, .bool q3, .int .u8 q4, .int .u8 pr, .int .u32 qs, .int .u32 qd, .slice b7 l7 c7, .slice b8 dq.length c8] 26)).alloc (.cells #[.int .u8 pr, .int .u32 qs, .int .u32 qd, .int .u16 0, .int .u16 0] 28) = w4 at *
    generalize w3.heap.size = gq at *
    have h8q := HLQ.out
    have h8i : (8 : Int) ≤ dq.length := by omega
    obtain ⟨g8, rfl, _, _, hcs, _⟩ := D3.at (by omega)
    have kd0 := (hcs 0 (by omega)).1
    have kd1 := (hcs 1 (by omega)).1
    clear hcs
    have hec : ecb (dq[0]?.getD 0) (dq[1]?.getD 0) = false := HEC.out
    generalize dq[0]?.getD 0 = d0 at *
    generalize dq[1]?.getD 0 = d1 at *
    have rw4 := r3
    have sw4 := s3
    have hww4 := hw3
    by_cases h80 : d0 = 8 ∨ d0 = 0
    · have h1 : (d1 != 0) = true := by
        unfold ecb at hec
        rcases h80 with rfl | rfl <;> simpa using hec
      clear hec HEC
      rcases h80 with rfl | rfl
      · have rX := r3
        have sX := s3
        have hwX := hw3
        go_upto_region 19 with fail
        clear hq6 hq17 hq1 hq47 kq
        have kX := block_cell rX
        have fX := block_frozen rX
        have kS := block_cell sX
        have fS := block_frozen sX
        go_wp2_with fail
        generalize hV : (((((((((((((w4.setCell ⟨w.heap.size + 1, 0, none⟩ _).setCell ⟨w.heap.size + 1, 1, none⟩ _).setCell ⟨w.heap.size + 1, 2, none⟩ _).setCell ⟨w.heap.size + 1, 3, none⟩ _).setCell ⟨w.heap.size + 1, 4, none⟩ _).setCell ⟨w.heap.size + 1, 5, none⟩ _).setCell ⟨w.heap.size + 1, 6, none⟩ _).setCell ⟨w.heap.size + 1, 7, none⟩ _).setCell ⟨w.heap.size + 1, 8, none⟩ _).setCell ⟨w.heap.size + 1 + 1, 0, none⟩ _).setCell ⟨w.heap.size + 1 + 1, 1, none⟩ _).setCell ⟨w.heap.size + 1 + 1, 2, none⟩ _).setCell ⟨w.heap.size + 1 + 1, 3, none⟩ _).setCell ⟨w.heap.size + 1 + 1, 4, none⟩ _ = V
        have hV8 : V = putRow (putRow w4 (w.heap.size + 1) 0 [.int .u8 0, .int .u16 0, .bool false, .int .u8 0, .int .u8 0, .int .u32 0, .int .u32 0, .slice none 0 0, .slice none 0 0]) (w.heap.size + 1 + 1) 0 [.int .u8 0, .int .u32 0, .int .u32 0, .int .u16 0, .int .u16 0] := hV.symm
        have hbY : But (fun b => b = w.heap.size + 1) w4 (putRow w4 (w.heap.size + 1) 0 [.int .u8 0, .int .u16 0, .bool false, .int .u8 0, .int .u8 0, .int .u32 0, .int .u32 0, .slice none 0 0, .slice none 0 0]) := putRow_but (E := fun b => b = w.heap.size + 1) (n := w.heap.size + 1) rfl _ _ _ _ (But.refl _ _)
        have pY := putRow_all ([.int .u8 0, .int .u16 0, .bool false, .int .u8 0, .int .u8 0, .int .u32 0, .int .u32 0, .slice none 0 0, .slice none 0 0] : List Value) rX rfl
        have sY := (hbY.block (w.heap.size + 1 + 1) (Array.getElem?_eq_some_iff.1 sX).1 (by omega)).trans sX
        generalize putRow w4 (w.heap.size + 1) 0 [.int .u8 0, .int .u16 0, .bool false, .int .u8 0, .int .u8 0, .int .u32 0, .int .u32 0, .slice none 0 0, .slice none 0 0] = Y at *
        have hbV : But (fun b => b = w.heap.size + 1 + 1) Y V := by rw [hV8]; exact putRow_but (E := fun b => b = w.heap.size + 1 + 1) (n := w.heap.size + 1 + 1) rfl _ _ _ _ (But.refl _ _)
        have qV := putRow_all ([.int .u8 0, .int .u32 0, .int .u32 0, .int .u16 0, .int .u16 0] : List Value) sY rfl
        rw [← hV8] at qV
        have pV := (hbV.block (w.heap.size + 1) (Array.getElem?_eq_some_iff.1 pY).1 (by omega)).trans pY
        clear hV8 kX fX kS fS
        have PV := block_cell pV
        have QV := block_cell qV
        have hwV : Below w.heap.size w V := (hwX.trans (hbY.below hwX.size (fun k hk e => by omega))).trans (hbV.below (Nat.le_trans hwX.size hbY.size) (fun k hk e => by omega))
        exact bodyPost_ret (v := .tuple #[.agg #[.int .u8 0, .int .u16 0, .bool false, .int .u8 0, .int .u8 0, .int .u32 0, .int .u32 0, .slice none 0 0, .slice none 0 0], .agg #[.int .u8 0, .int .u32 0, .int .u32 0, .int .u16 0, .int .u16 0], .int .i64 12]) (by simp [results, Tryd.results35, go_sem, PV, QV]) rfl ⟨hwV, rin_mk _ _ _ _ _ _ _ _ _ _ _ _ _ _ _⟩
      · have rX := r3
        have sX := s3
        have hwX := hw3
        go_upto_region 19 with fail
        clear hq6 hq17 hq1 hq47 kq
        have kX := block_cell rX
        have fX := block_frozen rX
        have kS := block_cell sX
        have fS := block_frozen sX
        go_wp2_with fail
        generalize hV : (((((((((((((w4.setCell ⟨w.heap.size + 1, 0, none⟩ _).setCell ⟨w.heap.size + 1, 1, none⟩ _).setCell ⟨w.heap.size + 1, 2, none⟩ _).setCell ⟨w.heap.size + 1, 3, none⟩ _).setCell ⟨w.heap.size + 1, 4, none⟩ _).setCell ⟨w.heap.size + 1, 5, none⟩ _).setCell ⟨w.heap.size + 1, 6, none⟩ _).setCell ⟨w.heap.size + 1, 7, none⟩ _).setCell ⟨w.heap.size + 1, 8, none⟩ _).setCell ⟨w.heap.size + 1 + 1, 0, none⟩ _).setCell ⟨w.heap.size + 1 + 1, 1, none⟩ _).setCell ⟨w.heap.size + 1 + 1, 2, none⟩ _).setCell ⟨w.heap.size + 1 + 1, 3, none⟩ _).setCell ⟨w.heap.size + 1 + 1, 4, none⟩ _ = V
        have hV8 : V = putRow (putRow w4 (w.heap.size + 1) 0 [.int .u8 0, .int .u16 0, .bool false, .int .u8 0, .int .u8 0, .int .u32 0, .int .u32 0, .slice none 0 0, .slice none 0 0]) (w.heap.size + 1 + 1) 0 [.int .u8 0, .int .u32 0, .int .u32 0, .int .u16 0, .int .u16 0] := hV.symm
        have hbY : But (fun b => b = w.heap.size + 1) w4 (putRow w4 (w.heap.size + 1) 0 [.int .u8 0, .int .u16 0, .bool false, .int .u8 0, .int .u8 0, .int .u32 0, .int .u32 0, .slice none 0 0, .slice none 0 0]) := putRow_but (E := fun b => b = w.heap.size + 1) (n := w.heap.size + 1) rfl _ _ _ _ (But.refl _ _)
        have pY := putRow_all ([.int .u8 0, .int .u16 0, .bool false, .int .u8 0, .int .u8 0, .int .u32 0, .int .u32 0, .slice none 0 0, .slice none 0 0] : List Value) rX rfl
        have sY := (hbY.block (w.heap.size + 1 + 1) (Array.getElem?_eq_some_iff.1 sX).1 (by omega)).trans sX
        generalize putRow w4 (w.heap.size + 1) 0 [.int .u8 0, .int .u16 0, .bool false, .int .u8 0, .int .u8 0, .int .u32 0, .int .u32 0, .slice none 0 0, .slice none 0 0] = Y at *
        have hbV : But (fun b => b = w.heap.size + 1 + 1) Y V := by rw [hV8]; exact putRow_but (E := fun b => b = w.heap.size + 1 + 1) (n := w.heap.size + 1 + 1) rfl _ _ _ _ (But.refl _ _)
        have qV := putRow_all ([.int .u8 0, .int .u32 0, .int .u32 0, .int .u16 0, .int .u16 0] : List Value) sY rfl
        rw [← hV8] at qV
        have pV := (hbV.block (w.heap.size + 1) (Array.getElem?_eq_some_iff.1 pY).1 (by omega)).trans pY
        clear hV8 kX fX kS fS
        have PV := block_cell pV
        have QV := block_cell qV
        have hwV : Below w.heap.size w V := (hwX.trans (hbY.below hwX.size (fun k hk e => by omega))).trans (hbV.below (Nat.le_trans hwX.size hbY.size) (fun k hk e => by omega))
        exact bodyPost_ret (v := .tuple #[.agg #[.int .u8 0, .int .u16 0, .bool false, .int .u8 0, .int .u8 0, .int .u32 0, .int .u32 0, .slice none 0 0, .slice none 0 0], .agg #[.int .u8 0, .int .u32 0, .int .u32 0, .int .u16 0, .int .u16 0], .int .i64 12]) (by simp [results, Tryd.results35, go_sem, PV, QV]) rfl ⟨hwV, rin_mk _ _ _ _ _ _ _ _ _ _ _ _ _ _ _⟩
    · have h1 : (d0 != 8) = true := by simp; omega
      have h2 : (d0 != 0) = true := by simp; omega
      clear hec HEC h80
      have rX := r3
      have sX := s3
      have hwX := hw3
      go_upto_region 19 with fail
      clear hq6 hq17 hq1 hq47 kq
      have kX := block_cell rX
      have fX := block_frozen rX
      have kS := block_cell sX
      have fS := block_frozen sX
      go_wp2_with fail
      generalize hV : (((((((((((((w4.setCell ⟨w.heap.size + 1, 0, none⟩ _).setCell ⟨w.heap.size + 1, 1, none⟩ _).setCell ⟨w.heap.size + 1, 2, none⟩ _).setCell ⟨w.heap.size + 1, 3, none⟩ _).setCell ⟨w.heap.size + 1, 4, none⟩ _).setCell ⟨w.heap.size + 1, 5, none⟩ _).setCell ⟨w.heap.size + 1, 6, none⟩ _).setCell ⟨w.heap.size + 1, 7, none⟩ _).setCell ⟨w.heap.size + 1, 8, none⟩ _).setCell ⟨w.heap.size + 1 + 1, 0, none⟩ _).setCell ⟨w.heap.size + 1 + 1, 1, none⟩ _).setCell ⟨w.heap.size + 1 + 1, 2, none⟩ _).setCell ⟨w.heap.size + 1 + 1, 3, none⟩ _).setCell ⟨w.heap.size + 1 + 1, 4, none⟩ _ = V
      have hV8 : V = putRow (putRow w4 (w.heap.size + 1) 0 [.int .u8 0, .int .u16 0, .bool false, .int .u8 0, .int .u8 0, .int .u32 0, .int .u32 0, .slice none 0 0, .slice none 0 0]) (w.heap.size + 1 + 1) 0 [.int .u8 0, .int .u32 0, .int .u32 0, .int .u16 0, .int .u16 0] := hV.symm
      have hbY : But (fun b => b = w.heap.size + 1) w4 (putRow w4 (w.heap.size + 1) 0 [.int .u8 0, .int .u16 0, .bool false, .int .u8 0, .int .u8 0, .int .u32 0, .int .u32 0, .slice none 0 0, .slice none 0 0]) := putRow_but (E := fun b => b = w.heap.size + 1) (n := w.heap.size + 1) rfl _ _ _ _ (But.refl _ _)
      have pY := putRow_all ([.int .u8 0, .int .u16 0, .bool false, .int .u8 0, .int .u8 0, .int .u32 0, .int .u32 0, .slice none 0 0, .slice none 0 0] : List Value) rX rfl
      have sY := (hbY.block (w.heap.size + 1 + 1) (Array.getElem?_eq_some_iff.1 sX).1 (by omega)).trans sX
      generalize putRow w4 (w.heap.size + 1) 0 [.int .u8 0, .int .u16 0, .bool false, .int .u8 0, .int .u8 0, .int .u32 0, .int .u32 0, .slice none 0 0, .slice none 0 0] = Y at *
      have hbV : But (fun b => b = w.heap.size + 1 + 1) Y V := by rw [hV8]; exact putRow_but (E := fun b => b = w.heap.size + 1 + 1) (n := w.heap.size + 1 + 1) rfl _ _ _ _ (But.refl _ _)
      have qV := putRow_all ([.int .u8 0, .int .u32 0, .int .u32 0, .int .u16 0, .int .u16 0] : List Value) sY rfl
      rw [← hV8] at qV
      have pV := (hbV.block (w.heap.size + 1) (Array.getElem?_eq_some_iff.1 pY).1 (by omega)).trans pY
      clear hV8 kX fX kS fS
      have PV := block_cell pV
      have QV := block_cell qV
      have hwV : Below w.heap.size w V := (hwX.trans (hbY.below hwX.size (fun k hk e => by omega))).trans (hbV.below (Nat.le_trans hwX.size hbY.size) (fun k hk e => by omega))
      exact bodyPost_ret (v := .tuple #[.agg #[.int .u8 0, .int .u16 0, .bool false, .int .u8 0, .int .u8 0, .int .u32 0, .int .u32 0, .slice none 0 0, .slice none 0 0], .agg #[.int .u8 0, .int .u32 0, .int .u32 0, .int .u16 0, .int .u16 0], .int .i64 12]) (by simp [results, Tryd.results35, go_sem, PV, QV]) rfl ⟨hwV, rin_mk _ _ _ _ _ _ _ _ _ _ _ _ _ _ _⟩

set_option maxHeartbeats 8000000 in
theorem rinner_gre (pr : Int) (tos id ttl src dst : Int) (keep : Bool) (so sd : Value) (zd : List Int) (w : World) (hB : Mt.By zd) (hI : Rd w.heap.size w sd zd) (hl : zd.length ≤ 1099511627776) (hpi : pie 1 zd = 0) (her : erb (zd[0]?.getD 0) = true) (hrd : rde true (zd.drop 8) = 0) (hpr : (zd.drop 8)[9]?.getD 0 = pr) (h8 : 8 ≤ (qdt (zd.drop 8)).length) (hld : (qdt (zd.drop 8)).length ≤ 140737488355328) (hp : pr = 47) : Calls Tryd.prog 35 #[.agg #[.int .u8 tos, .int .u16 id, .bool keep, .int .u8 ttl, .int .u8 1, .int .u32 src, .int .u32 dst, so, sd]] w fun e w' => Below w.heap.size w w' ∧ ((rin (.agg #[.int .u8 pr, .int .u32 (wat4 (zd.drop 8) 12), .int .u32 (wat4 (zd.drop 8) 16), .int .u16 (0), .int .u16 (getAt2 (qdt (zd.drop 8)) 6)]) 0 e ∧ bgz (qdt (zd.drop 8)) ≠ 4) ∨ (rin (.agg #[.int .u8 0, .int .u32 0, .int .u32 0, .int .u16 0, .int .u16 0]) 4 e ∧ bgz (qdt (zd.drop 8)) = 4)) := by
  obtain ⟨ad, cd, rfl, _, _⟩ := hI.slice
  have hb0 : Below w.heap.size w (((w.alloc (.cells #[.int .u8 tos, .int .u16 id, .bool keep, .int .u8 ttl, .int .u8 1, .int .u32 src, .int .u32 dst, so, .slice ad zd.length cd] 26)).alloc (.cells #[.int .u8 0, .int .u16 0, .bool false, .int .u8 0, .int .u8 0, .int .u32 0, .int .u32 0, .slice none 0 0, .slice none 0 0] 26)).alloc (.cells #[.int .u8 0, .int .u32 0, .int .u32 0, .int .u16 0, .int .u16 0] 28)) := ((((Below.refl _ _).alloc (Nat.le_refl _) _).alloc (by simp) _).alloc (by simp <;> omega) _)
  have r0 : (((w.alloc (.cells #[.int .u8 tos, .int .u16 id, .bool keep, .int .u8 ttl, .int .u8 1, .int .u32 src, .int .u32 dst, so, .slice ad zd.length cd] 26)).alloc (.cells #[.int .u8 0, .int .u16 0, .bool false, .int .u8 0, .int .u8 0, .int .u32 0, .int .u32 0, .slice none 0 0, .slice none 0 0] 26)).alloc (.cells #[.int .u8 0, .int .u32 0, .int .u32 0, .int .u16 0, .int .u16 0] 28)).heap[w.heap.size + 1]? = some (.cells #[.int .u8 0, .int .u16 0, .bool false, .int .u8 0, .int .u8 0, .int .u32 0, .int .u32 0, .slice none 0 0, .slice none 0 0] 26) := by
    have := heap_alloc_new (w.alloc (.cells #[.int .u8 tos, .int .u16 id, .bool keep, .int .u8 ttl, .int .u8 1, .int .u32 src, .int .u32 dst, so, .slice ad zd.length cd] 26)) (.cells #[.int .u8 0, .int .u16 0, .bool false, .int .u8 0, .int .u8 0, .int .u32 0, .int .u32 0, .slice none 0 0, .slice none 0 0] 26)
    rw [World.size_alloc] at this
    exact (Below.heap_alloc _ _ _ (by simp)).trans this
  have s0 : (((w.alloc (.cells #[.int .u8 tos, .int .u16 id, .bool keep, .int .u8 ttl, .int .u8 1, .int .u32 src, .int .u32 dst, so, .slice ad zd.length cd] 26)).alloc (.cells #[.int .u8 0, .int .u16 0, .bool false, .int .u8 0, .int .u8 0, .int .u32 0, .int .u32 0, .slice none 0 0, .slice none 0 0] 26)).alloc (.cells #[.int .u8 0, .int .u32 0, .int .u32 0, .int .u16 0, .int .u16 0] 28)).heap[w.heap.size + 1 + 1]? = some (.cells #[.int .u8 0, .int .u32 0, .int .u32 0, .int .u16 0, .int .u16 0] 28) := by
    have := heap_alloc_new ((w.alloc (.cells #[.int .u8 tos, .int .u16 id, .bool keep, .int .u8 ttl, .int .u8 1, .int .u32 src, .int .u32 dst, so, .slice ad zd.length cd] 26)).alloc (.cells #[.int .u8 0, .int .u16 0, .bool false, .int .u8 0, .int .u8 0, .int .u32 0, .int .u32 0, .slice none 0 0, .slice none 0 0] 26)) (.cells #[.int .u8 0, .int .u32 0, .int .u32 0, .int .u16 0, .int .u16 0] 28)
    simpa only [World.size_alloc] using this
  have R0 := hide r0
  have S0 := hide s0
  clear r0 s0
  go_enter Tryd.func35, Tryd.ntmps35
  go_wp2_with fail
  generalize (((w.alloc (.cells #[.int .u8 tos, .int .u16 id, .bool keep, .int .u8 ttl, .int .u8 1, .int .u32 src, .int .u32 dst, so, .slice ad zd.length cd] 26)).alloc (.cells #[.int .u8 0, .int .u16 0, .bool false, .int .u8 0, .int .u8 0, .int .u32 0, .int .u32 0, .slice none 0 0, .slice none 0 0] 26)).alloc (.cells #[.int .u8 0, .int .u32 0, .int .u32 0, .int .u16 0, .int .u16 0] 28)) = w0 at *
  refine (rparseIcmp_any tos id ttl 1 src dst keep _ _ zd w0 hB ((hI.below hb0).mono hb0.size) hl).mono ?_
  rintro e w1 ⟨hb1, ⟨hf, rfl⟩ | ⟨hf, a1, c1, rfl, hO⟩⟩
  · exact absurd hpi hf
  · clear hf
    have la : Later w1 (w1.alloc (.cells #[.int .u8 (zd[0]?.getD 0), .int .u8 (zd[1]?.getD 0), .int .u32 (wat4 zd 4), .slice a1 (zd.length - 8) c1] 49)) := (Below.refl _ _).alloc (Nat.le_refl _) _
    have l1 := Later.trans hb1 la
    have mW := heap_alloc_new w1 (.cells #[.int .u8 (zd[0]?.getD 0), .int .u8 (zd[1]?.getD 0), .int .u32 (wat4 zd 4), .slice a1 (zd.length - 8) c1] 49)
    have rW := later_keep l1 R0.out
    have sW := later_keep l1 S0.out
    have hwW := hb0.trans (l1.mono hb0.size)
    have DW := hO.ck (CK.of la)
    go_wp2_with fail
    generalize w1.alloc (.cells #[.int .u8 (zd[0]?.getD 0), .int .u8 (zd[1]?.getD 0), .int .u32 (wat4 zd 4), .slice a1 (zd.length - 8) c1] 49) = W at *
    generalize w1.heap.size = gm at *
    refine (risError_any (zd[0]?.getD 0) (zd[1]?.getD 0) (wat4 zd 4) _ W).mono ?_
    rw [show (zd[0]?.getD 0 == 3 || (zd[0]?.getD 0 == 11 || zd[0]?.getD 0 == 12)) = true from her]
    rintro e w2 ⟨rfl, hb2⟩
    have l2 : Later W w2 := hb2
    have r2 := later_keep l2 rW
    have s2 := later_keep l2 sW
    have hw2 := hwW.trans (hb2.mono hwW.size)
    have km := block_cell (later_keep l2 mW)
    have D2 := DW.ck (CK.of l2)
    go_wp2_with fail
    clear km
    refine (rquote_any _ (zd.drop 8) w2 (hB.drop 8) (by simp; omega) D2.rd).mono ?_
    rintro e w3 ⟨hb3, ⟨hf3, _⟩ | ⟨_, qo, qs0, rfl, hO3, hD3⟩⟩
    · exact absurd hrd hf3
    obtain ⟨b7, c7, rfl, _, _⟩ := hO3.slice
    obtain ⟨b8, c8, rfl, hc8, hc9⟩ := hD3.slice
    have hBq := By_qdt (hB.drop 8)
    unfold pkt
    have HPR := hide hpr
    rw [hpr]
    clear hpr hpi her hrd
    generalize (zd.drop 8)[1]?.getD 0 = q1 at *
    generalize wat (zd.drop 8) 4 = q2 at *
    generalize decide (16384 ≤ wat (zd.drop 8) 6 % 32768) = q3 at *
    generalize (zd.drop 8)[8]?.getD 0 = q4 at *
    generalize hqs : wat4 (zd.drop 8) 12 = qs at *
    generalize hqd : wat4 (zd.drop 8) 16 = qd at *
    have HQS := hide hqs
    have HQD := hide hqd
    clear hqs hqd
    generalize (((zd.drop 8).take (hl4 (zd.drop 8)).toNat).drop 20).length = l7 at *
    clear hO3
    rw [show ((zd.drop 8).take (ral true (zd.drop 8)).toNat).drop (hl4 (zd.drop 8)).toNat = qdt (zd.drop 8) from rfl] at hD3 hc8 ⊢
    generalize hdq : qdt (zd.drop 8) = dq at *
    have HDQ := hide hdq
    clear hdq
    have la3 : Later w3 (w3.alloc (.cells #[.int .u8 q1, .int .u16 q2, .bool q3, .int .u8 q4, .int .u8 pr, .int .u32 qs, .int .u32 qd, .slice b7 l7 c7, .slice b8 dq.length c8] 26)) := (Below.refl _ _).alloc (Nat.le_refl _) _
    have lb3 : Later (w3.alloc (.cells #[.int .u8 q1, .int .u16 q2, .bool q3, .int .u8 q4, .int .u8 pr, .int .u32 qs, .int .u32 qd, .slice b7 l7 c7, .slice b8 dq.length c8] 26)) ((w3.alloc (.cells #[.int .u8 q1, .int .u16 q2, .bool q3, .int .u8 q4, .int .u8 pr, .int .u32 qs, .int .u32 qd, .slice b7 l7 c7, .slice b8 dq.length c8] 26)).alloc (.cells #[.int .u8 pr, .int .u32 qs, .int .u32 qd, .int .u16 0, .int .u16 0] 28)) := (Below.refl _ _).alloc (Nat.le_refl _) _
    have lab := la3.trans lb3
    have l3 := Later.trans hb3 lab
    have qk := later_keep lb3 (heap_alloc_new w3 (.cells #[.int .u8 q1, .int .u16 q2, .bool q3, .int .u8 q4, .int .u8 pr, .int .u32 qs, .int .u32 qd, .slice b7 l7 c7, .slice b8 dq.length c8] 26))
    have tk := heap_alloc_new (w3.alloc (.cells #[.int .u8 q1, .int .u16 q2, .bool q3, .int .u8 q4, .int .u8 pr, .int .u32 qs, .int .u32 qd, .slice b7 l7 c7, .slice b8 dq.length c8] 26)) (.cells #[.int .u8 pr, .int .u32 qs, .int .u32 qd, .int .u16 0, .int .u16 0] 28)
    rw [World.size_alloc] at tk
    have r3 := later_keep l3 r2
    have s3 := later_keep l3 s2
    have hw3 := hw2.trans (l3.mono hw2.size)
    have D3 := hD3.ck (CK.of lab)
    have hgq : w.heap.size + 1 + 1 < w3.heap.size := Nat.lt_of_lt_of_le (Array.getElem?_eq_some_iff.1 s2).1 hb3.size
    clear D2 hD3
    have HLQ : Hid (8 ≤ dq.length) := h8
    have hq6 : (pr == 6) = false := by simp [hp]
    have hq17 : (pr == 17) = false := by simp [hp]
    have hq1 : (pr == 1) = false := by simp [hp]
    have hq47 : (pr == 47) = true := by simp [hp]
    have HP := hide hp
    clear hp
    have kq := block_cell qk
    go_upto_region 23 with fail
    generalize (w3.alloc (.cells #[.int .u8 q1, .int .u16 q2, .bool q3, .int .u8 q4, .int .u8 pr, .int .u32 qs, .int .u32 qd, .slice b7 l7 c7, .slice b8 dq.length c8] 26)).alloc (.cells #[.int .u8 pr, .int .u32 qs, .int .u32 qd, .int .u16 0, .int .u16 0] 28) = w4 at *
    generalize w3.heap.size = gq at *
    clear hq6 hq17 hq1 hq47 kq
    have h8q := HLQ.out
    have kq := block_cell qk
    go_wp2_with fail
    clear kq
    refine (rbegin_any _ dq (by omega) w4 D3.rd).mono ?_
    have HBK : Hid (bgk (bgz dq) = (bgz dq != 4)) := rfl
    generalize hbk : bgk (bgz dq) = bk at *
    clear hbk
    rintro e W5 ⟨rfl, hb5⟩
    have l5 : Later w4 W5 := hb5
    have tW5 := later_keep l5 tk
    have qW5 := later_keep l5 qk
    have rW5 := later_keep l5 r3
    have sW5 := later_keep l5 s3
    have D5 := D3.ck (CK.of l5)
    have hwW5 := hw3.trans (l5.mono hw3.size)
    cases bk with
    | false =>
      have hb4 : bgz dq = 4 := by simpa using HBK.out
      have HB4 := hide hb4
      clear hb4
      have rX := rW5
      have sX := sW5
      have hwX := hwW5
      have kX := block_cell rX
      have fX := block_frozen rX
      have kS := block_cell sX
      have fS := block_frozen sX
      go_wp2_with fail
      generalize hV : (((((((((((((W5.setCell ⟨w.heap.size + 1, 0, none⟩ _).setCell ⟨w.heap.size + 1, 1, none⟩ _).setCell ⟨w.heap.size + 1, 2, none⟩ _).setCell ⟨w.heap.size + 1, 3, none⟩ _).setCell ⟨w.heap.size + 1, 4, none⟩ _).setCell ⟨w.heap.size + 1, 5, none⟩ _).setCell ⟨w.heap.size + 1, 6, none⟩ _).setCell ⟨w.heap.size + 1, 7, none⟩ _).setCell ⟨w.heap.size + 1, 8, none⟩ _).setCell ⟨w.heap.size + 1 + 1, 0, none⟩ _).setCell ⟨w.heap.size + 1 + 1, 1, none⟩ _).setCell ⟨w.heap.size + 1 + 1, 2, none⟩ _).setCell ⟨w.heap.size + 1 + 1, 3, none⟩ _).setCell ⟨w.heap.size + 1 + 1, 4, none⟩ _ = V
      have hV8 : V = putRow (putRow W5 (w.heap.size + 1) 0 [.int .u8 0, .int .u16 0, .bool false, .int .u8 0, .int .u8 0, .int .u32 0, .int .u32 0, .slice none 0 0, .slice none 0 0]) (w.heap.size + 1 + 1) 0 [.int .u8 0, .int .u32 0, .int .u32 0, .int .u16 0, .int .u16 0] := hV.symm
      have hbY : But (fun b => b = w.heap.size + 1) W5 (putRow W5 (w.heap.size + 1) 0 [.int .u8 0, .int .u16 0, .bool false, .int .u8 0, .int .u8 0, .int .u32 0, .int .u32 0, .slice none 0 0, .slice none 0 0]) := putRow_but (E := fun b => b = w.heap.size + 1) (n := w.heap.size + 1) rfl _ _ _ _ (But.refl _ _)
      have pY := putRow_all ([.int .u8 0, .int .u16 0, .bool false, .int .u8 0, .int .u8 0, .int .u32 0, .int .u32 0, .slice none 0 0, .slice none 0 0] : List Value) rX rfl
      have sY := (hbY.block (w.heap.size + 1 + 1) (Array.getElem?_eq_some_iff.1 sX).1 (by omega)).trans sX
      generalize putRow W5 (w.heap.size + 1) 0 [.int .u8 0, .int .u16 0, .bool false, .int .u8 0, .int .u8 0, .int .u32 0, .int .u32 0, .slice none 0 0, .slice none 0 0] = Y at *
      have hbV : But (fun b => b = w.heap.size + 1 + 1) Y V := by rw [hV8]; exact putRow_but (E := fun b => b = w.heap.size + 1 + 1) (n := w.heap.size + 1 + 1) rfl _ _ _ _ (But.refl _ _)
      have qV := putRow_all ([.int .u8 0, .int .u32 0, .int .u32 0, .int .u16 0, .int .u16 0] : List Value) sY rfl
      rw [← hV8] at qV
      have pV := (hbV.block (w.heap.size + 1) (Array.getElem?_eq_some_iff.1 pY).1 (by omega)).trans pY
      clear hV8 kX fX kS fS
      have PV := block_cell pV
      have QV := block_cell qV
      have hwV : Below w.heap.size w V := (hwX.trans (hbY.below hwX.size (fun k hk e => by omega))).trans (hbV.below (Nat.le_trans hwX.size hbY.size) (fun k hk e => by omega))
      exact bodyPost_ret (v := .tuple #[.agg #[.int .u8 0, .int .u16 0, .bool false, .int .u8 0, .int .u8 0, .int .u32 0, .int .u32 0, .slice none 0 0, .slice none 0 0], .agg #[.int .u8 0, .int .u32 0, .int .u32 0, .int .u16 0, .int .u16 0], .int .i64 4]) (by simp [results, Tryd.results35, go_sem, PV, QV]) rfl ⟨hwV, .inr ⟨rin_mk _ _ _ _ _ _ _ _ _ _ _ _ _ _ _, by rw [HDQ.out]; exact HB4.out⟩⟩
    | true =>
      have hb4 : bgz dq ≠ 4 := by simpa using HBK.out
      have HB4 := hide hb4
      clear hb4
      have kq := block_cell qW5
      go_wp2_with fail
      clear kq
      refine (rget16_at _ dq hBq 6 (by omega) hld W5 D5.rd).mono ?_
      rintro e W6 ⟨rfl, n6, e6⟩
      have l6 : Later W5 W6 := by rw [e6]; exact below_draw (Later.refl W5) n6
      clear e6
      have t6 := later_keep l6 tW5
      generalize hg6 : getAt2 dq 6 = g6 at *
      have HG6 := hide hg6
      clear hg6
      have kx := block_cell t6
      have fx := block_frozen t6
      go_upto_region 26 with fail
      generalize hV : W6.setCell ⟨gq + 1, 4, none⟩ _ = V8
      have tN := heap_set1 t6 4 (.int .u16 g6)
      rw [hV] at tN
      have hbV8 : But (fun b => b = gq + 1) W6 V8 := by rw [← hV]; exact (But.refl (fun b => b = gq + 1) _).setCell (p := ⟨gq + 1, 4, none⟩) rfl _
      clear hV kx fx
      simp only [List.setIfInBounds_toArray, List.set_cons_zero, List.set_cons_succ] at tN
      have hbN : But (fun b => b = gq + 1) w4 V8 := (But.of (l5.trans l6)).trans hbV8
      have qN := (hbN.block gq (Array.getElem?_eq_some_iff.1 qk).1 (by omega)).trans qk
      have rN := (hbN.block (w.heap.size + 1) (Array.getElem?_eq_some_iff.1 r3).1 (by omega)).trans r3
      have sN := (hbN.block (w.heap.size + 1 + 1) (Array.getElem?_eq_some_iff.1 s3).1 (by omega)).trans s3
      have hwN : Below w.heap.size w V8 := hw3.trans (hbN.below hw3.size (fun k hk e => by omega))
      refine anyT_begin (R := But (fun b => b = w.heap.size + 1 ∨ b = w.heap.size + 1 + 1)) 5 rfl (by kernel_rfl) ?_
      have ld : Later V8 V8.drew := Later.drew V8
      have qd0 := later_keep ld qN
      have td0 := later_keep ld tN
      have rd0 := later_keep ld rN
      have sd0 := later_keep ld sN
      have hwd := hwN.trans (ld.mono hwN.size)
      generalize V8.drew = Wd at *
      have ha : ∀ v1, But (fun b => b = w.heap.size + 1 ∨ b = w.heap.size + 1 + 1) Wd v1 → ∀ i, v1.cell? ⟨gq, i, none⟩ = #[Value.int .u8 q1, .int .u16 q2, .bool q3, .int .u8 q4, .int .u8 pr, .int .u32 qs, .int .u32 qd, .slice b7 l7 c7, .slice b8 dq.length c8][i]? := fun v1 h => block_cell ((h.block gq (Array.getElem?_eq_some_iff.1 qd0).1 (by omega)).trans qd0)
      have hb : ∀ v1, But (fun b => b = w.heap.size + 1 ∨ b = w.heap.size + 1 + 1) Wd v1 → ∀ i, v1.cell? ⟨gq + 1, i, none⟩ = #[Value.int .u8 pr, .int .u32 qs, .int .u32 qd, .int .u16 0, .int .u16 g6][i]? := fun v1 h => block_cell ((h.block (gq + 1) (Array.getElem?_eq_some_iff.1 td0).1 (by omega)).trans td0)
      refine anyT_val (But.pre _) 0 rfl (by kernel_rfl) (by kernel_rfl) (by kernel_rfl) (fun _ _ _ _ h => h) rfl ?_; apply Exists.intro; refine ⟨fun v1 hv1 => ?_, ?_⟩; (· (go_simp; rfl)); simp only [Act.put, List.setIfInBounds_toArray, List.set_cons_zero, List.set_cons_succ]
      refine anyT_val (But.pre _) 1 rfl (by kernel_rfl) (by kernel_rfl) (by kernel_rfl) (fun _ _ _ _ h => h) rfl ?_; apply Exists.intro; refine ⟨fun v1 hv1 => ?_, ?_⟩; (· (go_simp; rfl)); simp only [Act.put, List.setIfInBounds_toArray, List.set_cons_zero, List.set_cons_succ]
      clear ha hb
      have kx := block_cell rd0
      have fx := block_frozen rd0
      refine anyT_one 2 rfl (by kernel_rfl) rfl ?_
      unfold Oper.wp
      go_simp
      generalize hV1 : ((((((((Wd.setCell ⟨w.heap.size + 1, 0, none⟩ _).setCell ⟨w.heap.size + 1, 1, none⟩ _).setCell ⟨w.heap.size + 1, 2, none⟩ _).setCell ⟨w.heap.size + 1, 3, none⟩ _).setCell ⟨w.heap.size + 1, 4, none⟩ _).setCell ⟨w.heap.size + 1, 5, none⟩ _).setCell ⟨w.heap.size + 1, 6, none⟩ _).setCell ⟨w.heap.size + 1, 7, none⟩ _).setCell ⟨w.heap.size + 1, 8, none⟩ _ = Y0
      have hV9 : Y0 = putRow Wd (w.heap.size + 1) 0 [.int .u8 q1, .int .u16 q2, .bool q3, .int .u8 q4, .int .u8 pr, .int .u32 qs, .int .u32 qd, .slice b7 l7 c7, .slice b8 dq.length c8] := hV1.symm
      have hbY0 : But (fun b => b = w.heap.size + 1) Wd Y0 := by rw [hV9]; exact putRow_but (E := fun b => b = w.heap.size + 1) (n := w.heap.size + 1) rfl _ _ _ _ (But.refl _ _)
      have hbY1 : But (fun b => b = w.heap.size + 1 ∨ b = w.heap.size + 1 + 1) Wd Y0 := by rw [hV9]; exact putRow_but (E := fun b => b = w.heap.size + 1 ∨ b = w.heap.size + 1 + 1) (n := w.heap.size + 1) (.inl rfl) _ _ _ _ (But.refl _ _)
      have pY0 := putRow_all ([.int .u8 q1, .int .u16 q2, .bool q3, .int .u8 q4, .int .u8 pr, .int .u32 qs, .int .u32 qd, .slice b7 l7 c7, .slice b8 dq.length c8] : List Value) rd0 rfl
      rw [← hV9] at pY0
      have sY0 := (hbY0.block (w.heap.size + 1 + 1) (Array.getElem?_eq_some_iff.1 sd0).1 (by omega)).trans sd0
      refine ⟨hbY1, ?_⟩
      clear hV1 hV9 kx fx
      have kx := block_cell sY0
      have fx := block_frozen sY0
      refine anyT_one 3 rfl (by kernel_rfl) rfl ?_
      unfold Oper.wp
      go_simp
      generalize hV2 : ((((Y0.setCell ⟨w.heap.size + 1 + 1, 0, none⟩ _).setCell ⟨w.heap.size + 1 + 1, 1, none⟩ _).setCell ⟨w.heap.size + 1 + 1, 2, none⟩ _).setCell ⟨w.heap.size + 1 + 1, 3, none⟩ _).setCell ⟨w.heap.size + 1 + 1, 4, none⟩ _ = V
      have hV8 : V = putRow Y0 (w.heap.size + 1 + 1) 0 [.int .u8 pr, .int .u32 qs, .int .u32 qd, .int .u16 0, .int .u16 g6] := hV2.symm
      have hbV : But (fun b => b = w.heap.size + 1 + 1) Y0 V := by rw [hV8]; exact putRow_but (E := fun b => b = w.heap.size + 1 + 1) (n := w.heap.size + 1 + 1) rfl _ _ _ _ (But.refl _ _)
      have hbV1 : But (fun b => b = w.heap.size + 1 ∨ b = w.heap.size + 1 + 1) Y0 V := by rw [hV8]; exact putRow_but (E := fun b => b = w.heap.size + 1 ∨ b = w.heap.size + 1 + 1) (n := w.heap.size + 1 + 1) (.inr rfl) _ _ _ _ (But.refl _ _)
      have qV := putRow_all ([.int .u8 pr, .int .u32 qs, .int .u32 qd, .int .u16 0, .int .u16 g6] : List Value) sY0 rfl
      rw [← hV8] at qV
      have pV := (hbV.block (w.heap.size + 1) (Array.getElem?_eq_some_iff.1 pY0).1 (by omega)).trans pY0
      refine ⟨hbV1, ?_⟩
      clear hV2 hV8 kx fx
      refine anyT_one 4 rfl (by kernel_rfl) rfl ?_
      unfold Oper.wp
      go_simp
      refine ⟨But.refl _ _, ?_⟩
      refine anyT_done (by kernel_rfl) ?_
      have PV := block_cell pV
      have QV := block_cell qV
      have hwV : Below w.heap.size w V := (hwd.trans (hbY0.below hwd.size (fun k hk e => by omega))).trans (hbV.below (Nat.le_trans hwd.size hbY0.size) (fun k hk e => by omega))
      go_wp2_with fail
      exact bodyPost_ret (v := .tuple #[.agg #[.int .u8 q1, .int .u16 q2, .bool q3, .int .u8 q4, .int .u8 pr, .int .u32 qs, .int .u32 qd, .slice b7 l7 c7, .slice b8 dq.length c8], .agg #[.int .u8 pr, .int .u32 qs, .int .u32 qd, .int .u16 0, .int .u16 g6], .int .i64 0]) (by simp [results, Tryd.results35, go_sem, PV, QV]) rfl ⟨hwV, .inl ⟨by rw [HDQ.out, HG6.out, HQS.out, HQD.out]; exact rin_mk _ _ _ _ _ _ _ _ _ _ _ _ _ _ _, by rw [HDQ.out]; exact HB4.out⟩⟩

set_option maxHeartbeats 8000000 in
theorem rinner_other (pr : Int) (tos id ttl src dst : Int) (keep : Bool) (so sd : Value) (zd : List Int) (w : World) (hB : Mt.By zd) (hI : Rd w.heap.size w sd zd) (hl : zd.length ≤ 1099511627776) (hpi : pie 1 zd = 0) (her : erb (zd[0]?.getD 0) = true) (hrd : rde true (zd.drop 8) = 0) (hpr : (zd.drop 8)[9]?.getD 0 = pr) (h8 : 8 ≤ (qdt (zd.drop 8)).length) (hld : (qdt (zd.drop 8)).length ≤ 140737488355328) (hp : pr ≠ 6 ∧ pr ≠ 17 ∧ pr ≠ 1 ∧ pr ≠ 47) : Calls Tryd.prog 35 #[.agg #[.int .u8 tos, .int .u16 id, .bool keep, .int .u8 ttl, .int .u8 1, .int .u32 src, .int .u32 dst, so, sd]] w fun e w' => Below w.heap.size w w' ∧ rin (.agg #[.int .u8 0, .int .u32 0, .int .u32 0, .int .u16 0, .int .u16 0]) 12 e := by
  obtain ⟨ad, cd, rfl, _, _⟩ := hI.slice
  have hb0 : Below w.heap.size w (((w.alloc (.cells #[.int .u8 tos, .int .u16 id, .bool keep, .int .u8 ttl, .int .u8 1, .int .u32 src, .int .u32 dst, so, .slice ad zd.length cd] 26)).alloc (.cells #[.int .u8 0, .int .u16 0, .bool false, .int .u8 0, .int .u8 0, .int .u32 0, .int .u32 0, .slice none 0 0, .slice none 0 0] 26)).alloc (.cells #[.int .u8 0, .int .u32 0, .int .u32 0, .int .u16 0, .int .u16 0] 28)) := ((((Below.refl _ _).alloc (Nat.le_refl _) _).alloc (by simp) _).alloc (by simp <;> omega) _)
  have r0 : (((w.alloc (.cells #[.int .u8 tos, .int .u16 id, .bool keep, .int .u8 ttl, .int .u8 1, .int .u32 src, .int .u32 dst, so, .slice ad zd.length cd] 26)).alloc (.cells #[.int .u8 0, .int .u16 0, .bool false, .int .u8 0, .int .u8 0, .int .u32 0, .int .u32 0, .slice none 0 0, .slice none 0 0] 26)).alloc (.cells #[.int .u8 0, .int .u32 0, .int .u32 0, .int .u16 0, .int .u16 0] 28)).heap[w.heap.size + 1]? = some (.cells #[.int .u8 0, .int .u16 0, .bool false, .int .u8 0, .int .u8 0, .int .u32 0, .int .u32 0, .slice none 0 0, .slice none 0 0] 26) := by
    have := heap_alloc_new (w.alloc (.cells #[.int .u8 tos, .int .u16 id, .bool keep, .int .u8 ttl, .int .u8 1, .int .u32 src, .int .u32 dst, so, .slice ad zd.length cd] 26)) (.cells #[.int .u8 0, .int .u16 0, .bool false, .int .u8 0, .int .u8 0, .int .u32 0, .int .u32 0, .slice none 0 0, .slice none 0 0] 26)
    rw [World.size_alloc] at this
    exact (Below.heap_alloc _ _ _ (by simp)).trans this
  have s0 : (((w.alloc (.cells #[.int .u8 tos, .int .u16 id, .bool keep, .int .u8 ttl, .int .u8 1, .int .u32 src, .int .u32 dst, so, .slice ad zd.length cd] 26)).alloc (.cells #[.int .u8 0, .int .u16 0, .bool false, .int .u8 0, .int .u8 0, .int .u32 0, .int .u32 0, .slice none 0 0, .slice none 0 0] 26)).alloc (.cells #[.int .u8 0, .int .u32 0, .int .u32 0, .int .u16 0, .int .u16 0] 28)).heap[w.heap.size + 1 + 1]? = some (.cells #[.int .u8 0, .int .u32 0, .int .u32 0, .int .u16 0, .int .u16 0] 28) := by
    have := heap_alloc_new ((w.alloc (.cells #[.int .u8 tos, .int .u16 id, .bool keep, .int .u8 ttl, .int .u8 1, .int .u32 src, .int .u32 dst, so, .slice ad zd.length cd] 26)).alloc (.cells #[.int .u8 0, .int .u16 0, .bool false, .int .u8 0, .int .u8 0, .int .u32 0, .int .u32 0, .slice none 0 0, .slice none 0 0] 26)) (.cells #[.int .u8 0, .int .u32 0, .int .u32 0, .int .u16 0, .int .u16 0] 28)
    simpa only [World.size_alloc] using this
  have R0 := hide r0
  have S0 := hide s0
  clear r0 s0
  go_enter Tryd.func35, Tryd.ntmps35
  go_wp2_with fail
  generalize (((w.alloc (.cells #[.int .u8 tos, .int .u16 id, .bool keep, .int .u8 ttl, .int .u8 1, .int .u32 src, .int .u32 dst, so, .slice ad zd.length cd] 26)).alloc (.cells #[.int .u8 0, .int .u16 0, .bool false, .int .u8 0, .int .u8 0, .int .u32 0, .int .u32 0, .slice none 0 0, .slice none 0 0] 26)).alloc (.cells #[.int .u8 0, .int .u32 0, .int .u32 0, .int .u16 0, .int .u16 0] 28)) = w0 at *
  refine (rparseIcmp_any tos id ttl 1 src dst keep _ _ zd w0 hB ((hI.below hb0).mono hb0.size) hl).mono ?_
  rintro e w1 ⟨hb1, ⟨hf, rfl⟩ | ⟨hf, a1, c1, rfl, hO⟩⟩
  · exact absurd hpi hf
  · clear hf
    have la : Later w1 (w1.alloc (.cells #[.int .u8 (zd[0]?.getD 0), .int .u8 (zd[1]?.getD 0), .int .u32 (wat4 zd 4), .slice a1 (zd.length - 8) c1] 49)) := (Below.refl _ _).alloc (Nat.le_refl _) _
    have l1 := Later.trans hb1 la
    have mW := heap_alloc_new w1 (.cells #[.int .u8 (zd[0]?.getD 0), .int .u8 (zd[1]?.getD 0), .int .u32 (wat4 zd 4), .slice a1 (zd.length - 8) c1] 49)
    have rW := later_keep l1 R0.out
    have sW := later_keep l1 S0.out
    have hwW := hb0.trans (l1.mono hb0.size)
    have DW := hO.ck (CK.of la)
    go_wp2_with fail
    generalize w1.alloc (.cells #[.int .u8 (zd[0]?.getD 0), .int .u8 (zd[1]?.getD 0), .int .u32 (wat4 zd 4), .slice a1 (zd.length - 8) c1] 49) = W at *
    generalize w1.heap.size = gm at *
    refine (risError_any (zd[0]?.getD 0) (zd[1]?.getD 0) (wat4 zd 4) _ W).mono ?_
    rw [show (zd[0]?.getD 0 == 3 || (zd[0]?.getD 0 == 11 || zd[0]?.getD 0 == 12)) = true from her]
    rintro e w2 ⟨rfl, hb2⟩
    have l2 : Later W w2 := hb2
    have r2 := later_keep l2 rW
    have s2 := later_keep l2 sW
    have hw2 := hwW.trans (hb2.mono hwW.size)
    have km := block_cell (later_keep l2 mW)
    have D2 := DW.ck (CK.of l2)
    go_wp2_with fail
    clear km
    refine (rquote_any _ (zd.drop 8) w2 (hB.drop 8) (by simp; omega) D2.rd).mono ?_
    rintro e w3 ⟨hb3, ⟨hf3, _⟩ | ⟨_, qo, qs0, rfl, hO3, hD3⟩⟩
    · exact absurd hrd hf3
    obtain ⟨b7, c7, rfl, _, _⟩ := hO3.slice
    obtain ⟨b8, c8, rfl, hc8, hc9⟩ := hD3.slice
    have hBq := By_qdt (hB.drop 8)
    unfold pkt
    have HPR := hide hpr
    rw [hpr]
    clear hpr hpi her hrd
    generalize (zd.drop 8)[1]?.getD 0 = q1 at *
    generalize wat (zd.drop 8) 4 = q2 at *
    generalize decide (16384 ≤ wat (zd.drop 8) 6 % 32768) = q3 at *
    generalize (zd.drop 8)[8]?.getD 0 = q4 at *
    generalize hqs : wat4 (zd.drop 8) 12 = qs at *
    generalize hqd : wat4 (zd.drop 8) 16 = qd at *
    have HQS := hide hqs
    have HQD := hide hqd
    clear hqs hqd
    generalize (((zd.drop 8).take (hl4 (zd.drop 8)).toNat).drop 20).length = l7 at *
    clear hO3
    rw [show ((zd.drop 8).take (ral true (zd.drop 8)).toNat).drop (hl4 (zd.drop 8)).toNat = qdt (zd.drop 8) from rfl] at hD3 hc8 ⊢
    generalize hdq : qdt (zd.drop 8) = dq at *
    have HDQ := hide hdq
    clear hdq
    have la3 : Later w3 (w3.alloc (.cells #[.int .u8 q1, .int .u16 q2, .bool q3, .int .u8 q4, .int .u8 pr, .int .u32 qs, .int .u32 qd, .slice b7 l7 c7, .slice b8 dq.length c8] 26)) := (Below.refl _ _).alloc (Nat.le_refl _) _
    have lb3 : Later (w3.alloc (.cells #[.int .u8 q1, .int .u16 q2, .bool q3, .int .u8 q4, .int .u8 pr, .int .u32 qs, .int .u32 qd, .slice b7 l7 c7, .slice b8 dq.length c8] 26)) ((w3.alloc (.cells #[.int .u8 q1, .int .u16 q2, .bool q3, .int .u8 q4, .int .u8 pr, .int .u32 qs, .int .u32 qd, .slice b7 l7 c7, .slice b8 dq.length c8] 26)).alloc (.cells #[.int .u8 pr, .int .u32 qs, .int .u32 qd, .int .u16 0, .int .u16 0] 28)) := (Below.refl _ _).alloc (Nat.le_refl _) _
    have lab := la3.trans lb3
    have l3 := Later.trans hb3 lab
    have qk := later_keep lb3 (heap_alloc_new w3 (.cells #[.int .u8 q1, .int .u16 q2, .bool q3, .int .u8 q4, .int .u8 pr, .int .u32 qs, .int .u32 qd, .slice b7 l7 c7, .slice b8 dq.length c8] 26))
    have tk := heap_alloc_new (w3.alloc (.cells #[.int .u8 q1, .int .u16 q2, .bool q3, .int .u8 q4, .int .u8 pr, .int .u32 qs, .int .u32 qd, .slice b7 l7 c7, .slice b8 dq.length c8] 26)) (.cells #[.int .u8 pr, .int .u32 qs, .int .u32 qd, .int .u16 0, .int .u16 0] 28)
    rw [World.size_alloc] at tk
    have r3 := later_keep l3 r2
    have s3 := later_keep l3 s2
    have hw3 := hw2.trans (l3.mono hw2.size)
    have D3 := hD3.ck (CK.of lab)
    have hgq : w.heap.size + 1 + 1 < w3.heap.size := Nat.lt_of_lt_of_le (Array.getElem?_eq_some_iff.1 s2).1 hb3.size
    clear D2 hD3
    have HLQ : Hid (8 ≤ dq.length) := h8
    have hq6 : (pr == 6) = false := by simp [hp]
    have hq17 : (pr == 17) = false := by simp [hp]
    have hq1 : (pr == 1) = false := by simp [hp]
    have hq47 : (pr == 47) = false := by simp [hp]
    have HP := hide hp
    clear hp
    have kq := block_cell qk
    go_upto_region 13 with fail
    generalize (w3.alloc (.cells #[.int .u8 q1, .int .u16 q2, .bool q3, .int .u8 q4, .int .u8 pr, .int .u32 qs, .int .u32 qd, .slice b7 l7 c7, .slice b8 dq.length c8] 26)).alloc (.cells #[.int .u8 pr, .int .u32 qs, .int .u32 qd, .int .u16 0, .int .u16 0] 28) = w4 at *
    generalize w3.heap.size = gq at *
    clear hq6 hq17 hq1 hq47 kq
    have rX := r3
    have sX := s3
    have hwX := hw3
    have kX := block_cell rX
    have fX := block_frozen rX
    have kS := block_cell sX
    have fS := block_frozen sX
    go_wp2_with fail
    generalize hV : (((((((((((((w4.setCell ⟨w.heap.size + 1, 0, none⟩ _).setCell ⟨w.heap.size + 1, 1, none⟩ _).setCell ⟨w.heap.size + 1, 2, none⟩ _).setCell ⟨w.heap.size + 1, 3, none⟩ _).setCell ⟨w.heap.size + 1, 4, none⟩ _).setCell ⟨w.heap.size + 1, 5, none⟩ _).setCell ⟨w.heap.size + 1, 6, none⟩ _).setCell ⟨w.heap.size + 1, 7, none⟩ _).setCell ⟨w.heap.size + 1, 8, none⟩ _).setCell ⟨w.heap.size + 1 + 1, 0, none⟩ _).setCell ⟨w.heap.size + 1 + 1, 1, none⟩ _).setCell ⟨w.heap.size + 1 + 1, 2, none⟩ _).setCell ⟨w.heap.size + 1 + 1, 3, none⟩ _).setCell ⟨w.heap.size + 1 + 1, 4, none⟩ _ = V
    have hV8 : V = putRow (putRow w4 (w.heap.size + 1) 0 [.int .u8 0, .int .u16 0, .bool false, .int .u8 0, .int .u8 0, .int .u32 0, .int .u32 0, .slice none 0 0, .slice none 0 0]) (w.heap.size + 1 + 1) 0 [.int .u8 0, .int .u32 0, .int .u32 0, .int .u16 0, .int .u16 0] := hV.symm
    have hbY : But (fun b => b = w.heap.size + 1) w4 (putRow w4 (w.heap.size + 1) 0 [.int .u8 0, .int .u16 0, .bool false, .int .u8 0, .int .u8 0, .int .u32 0, .int .u32 0, .slice none 0 0, .slice none 0 0]) := putRow_but (E := fun b => b = w.heap.size + 1) (n := w.heap.size + 1) rfl _ _ _ _ (But.refl _ _)
    have pY := putRow_all ([.int .u8 0, .int .u16 0, .bool false, .int .u8 0, .int .u8 0, .int .u32 0, .int .u32 0, .slice none 0 0, .slice none 0 0] : List Value) rX rfl
    have sY := (hbY.block (w.heap.size + 1 + 1) (Array.getElem?_eq_some_iff.1 sX).1 (by omega)).trans sX
    generalize putRow w4 (w.heap.size + 1) 0 [.int .u8 0, .int .u16 0, .bool false, .int .u8 0, .int .u8 0, .int .u32 0, .int .u32 0, .slice none 0 0, .slice none 0 0] = Y at *
    have hbV : But (fun b => b = w.heap.size + 1 + 1) Y V := by rw [hV8]; exact putRow_but (E := fun b => b = w.heap.size + 1 + 1) (n := w.heap.size + 1 + 1) rfl _ _ _ _ (But.refl _ _)
    have qV := putRow_all ([.int .u8 0, .int .u32 0, .int .u32 0, .int .u16 0, .int .u16 0] : List Value) sY rfl
    rw [← hV8] at qV
    have pV := (hbV.block (w.heap.size + 1) (Array.getElem?_eq_some_iff.1 pY).1 (by omega)).trans pY
    clear hV8 kX fX kS fS
    have PV := block_cell pV
    have QV := block_cell qV
    have hwV : Below w.heap.size w V := (hwX.trans (hbY.below hwX.size (fun k hk e => by omega))).trans (hbV.below (Nat.le_trans hwX.size hbY.size) (fun k hk e => by omega))
    exact bodyPost_ret (v := .tuple #[.agg #[.int .u8 0, .int .u16 0, .bool false, .int .u8 0, .int .u8 0, .int .u32 0, .int .u32 0, .slice none 0 0, .slice none 0 0], .agg #[.int .u8 0, .int .u32 0, .int .u32 0, .int .u16 0, .int .u16 0], .int .i64 12]) (by simp [results, Tryd.results35, go_sem, PV, QV]) rfl ⟨hwV, rin_mk _ _ _ _ _ _ _ _ _ _ _ _ _ _ _⟩
end Go.Proofs.YtojoaidnkljcpaaDoor

/- The document's Inner in one form, its Quoted; the walk of TupleQuoted. -/
namespace Go.Proofs.YtojoaidnkljcpaaDoor
open Go.RowKit Go.Shelf
set_option maxRecDepth 100000
set_option linter.unusedVariables false
set_option linter.unusedSimpArgs false

theorem gat (d : List Int) (k : Nat) (p : Int) (hp : p = k) (h : k + 2 ≤ d.length) : getAt2 d p = wat d k := by
  subst hp
  unfold getAt2
  rw [if_pos (by omega), Int.toNat_natCast]
theorem begin_eq {d : List Int} (hB : Mt.By d) (h : 8 ≤ d.length) : pge 47 (d.take 8) = 4 ↔ bgz d = 4 := by
  have hl : (d.take 8).length = 8 := by simp; omega
  have hz : bgz (d.take 8) = bgz d := by unfold bgz; simp
  have hw := wat_bd (hB.take 8) 4
  have hg := ghd_bd (bgz d)
  unfold pge
  rw [if_neg (by decide), if_neg (by omega), hz]
  constructor
  · intro h4
    by_cases e : bgz d = 4
    · exact e
    · rw [if_neg e] at h4
      by_cases e2 : ((d.take 8).length : Int) < ghd (bgz d) + wat (d.take 8) 4
      · rw [if_pos e2] at h4; exact absurd h4 (by decide)
      · rw [if_neg e2, if_neg (by omega)] at h4; exact absurd h4 (by decide)
  · intro e
    rw [if_pos e]
theorem quv_agg (proto : Int) (zd : List Int) : ∃ x0 x1 x2 x3 x4 : Int, quv proto zd = .agg #[.int .u8 x0, .int .u32 x1, .int .u32 x2, .int .u16 x3, .int .u16 x4] := by
  unfold quv otv
  split
  · exact ⟨_, _, _, _, _, rfl⟩
  · exact ⟨_, _, _, _, _, rfl⟩

set_option maxHeartbeats 2000000 in
theorem rinner_any (tos id ttl proto src dst : Int) (keep : Bool) (so sd : Value) (zd : List Int) (w : World) (hB : Mt.By zd) (hI : Rd w.heap.size w sd zd) (hl : zd.length ≤ 1099511627776) : Calls Tryd.prog 35 #[.agg #[.int .u8 tos, .int .u16 id, .bool keep, .int .u8 ttl, .int .u8 proto, .int .u32 src, .int .u32 dst, so, sd]] w fun e w' => Below w.heap.size w w' ∧ rin (quv proto zd) (que proto zd) e := by
  unfold quv
  by_cases hp : proto = 1
  · subst hp
    by_cases hpi : pie 1 zd = 0
    · cases her : erb (zd[0]?.getD 0) with
      | false =>
        have hq : que 1 zd = 12 := by unfold que; rw [if_neg (fun h => h hpi), if_pos her]
        rw [otv_no (by rw [hq]; decide)]
        exact rinner_bad tos id ttl src dst keep so sd zd w hB hI hl (.inr (.inl her))
      | true =>
        by_cases hrd : rde true (zd.drop 8) = 0
        · have h8 := qdt_len (hB.drop 8) hrd
          have hBq := By_qdt (hB.drop 8)
          have hld : (qdt (zd.drop 8)).length ≤ 140737488355328 := by unfold qdt; simp only [List.length_drop, List.length_take]; omega
          have hq : que 1 zd = qie (qpr (zd.drop 8)) (qdt (zd.drop 8)) := by unfold que; rw [if_neg (fun h => h hpi), if_neg (by rw [her]; decide), if_neg (fun h => h hrd)]
          rw [hq]
          obtain ⟨pr, hpr⟩ : ∃ pr, (zd.drop 8)[9]?.getD 0 = pr := ⟨_, rfl⟩
          rw [show qpr (zd.drop 8) = pr from hpr]
          have g0 := gat (qdt (zd.drop 8)) 0 0 rfl (by omega)
          have g2 := gat (qdt (zd.drop 8)) 2 2 rfl (by omega)
          have g4 := gat (qdt (zd.drop 8)) 4 4 rfl (by omega)
          have g6 := gat (qdt (zd.drop 8)) 6 6 rfl (by omega)
          by_cases h6 : pr = 6
          · have := rinner_tcp pr tos id ttl src dst keep so sd zd w hB hI hl hpi her hrd hpr h8 hld h6
            rw [g0, g2] at this
            subst h6
            exact this
          by_cases h17 : pr = 17
          · have := rinner_udp pr tos id ttl src dst keep so sd zd w hB hI hl hpi her hrd hpr h8 hld h17
            rw [g0, g2] at this
            subst h17
            exact this
          by_cases h1 : pr = 1
          · cases hec : ecb ((qdt (zd.drop 8))[0]?.getD 0) ((qdt (zd.drop 8))[1]?.getD 0) with
            | true =>
              have := rinner_icmp pr tos id ttl src dst keep so sd zd w hB hI hl hpi her hrd hpr h8 hld h1 hec
              rw [g4] at this
              subst h1
              rw [show qie 1 (qdt (zd.drop 8)) = 0 from if_pos hec]
              exact this
            | false =>
              have := rinner_noecho pr tos id ttl src dst keep so sd zd w hB hI hl hpi her hrd hpr h8 hld h1 hec
              subst h1
              rw [show qie 1 (qdt (zd.drop 8)) = (if ecb ((qdt (zd.drop 8))[0]?.getD 0) ((qdt (zd.drop 8))[1]?.getD 0) = true then 0 else 12) from rfl, if_neg (show ¬ ecb ((qdt (zd.drop 8))[0]?.getD 0) ((qdt (zd.drop 8))[1]?.getD 0) = true by rw [hec]; decide), otv_no (show (12 : Int) ≠ 0 by decide)]
              exact this
          by_cases h47 : pr = 47
          · refine (rinner_gre pr tos id ttl src dst keep so sd zd w hB hI hl hpi her hrd hpr h8 hld h47).mono ?_
            subst h47
            rintro e w' ⟨hb, ⟨h, hb4⟩ | ⟨h, hb4⟩⟩
            · rw [g6] at h
              rw [show qie 47 (qdt (zd.drop 8)) = 0 from if_neg (fun e => hb4 ((begin_eq hBq h8).1 e))]
              exact ⟨hb, h⟩
            · rw [show qie 47 (qdt (zd.drop 8)) = 4 from if_pos ((begin_eq hBq h8).2 hb4), otv_no (show (4 : Int) ≠ 0 by decide)]
              exact ⟨hb, h⟩
          have hqi : qie pr (qdt (zd.drop 8)) = 12 := by unfold qie; rw [if_neg h6, if_neg h17, if_neg h1, if_neg h47]
          rw [hqi, otv_no (show (12 : Int) ≠ 0 by decide)]
          exact rinner_other pr tos id ttl src dst keep so sd zd w hB hI hl hpi her hrd hpr h8 hld ⟨h6, h17, h1, h47⟩
        · have hq : que 1 zd = rde true (zd.drop 8) := by unfold que; rw [if_neg (fun h => h hpi), if_neg (by rw [her]; decide), if_pos hrd]
          rw [otv_no (by rw [hq]; exact hrd)]
          exact rinner_bad tos id ttl src dst keep so sd zd w hB hI hl (.inr (.inr hrd))
    · have hq : que 1 zd = pie 1 zd := if_pos hpi
      rw [otv_no (by rw [hq]; exact hpi)]
      exact rinner_bad tos id ttl src dst keep so sd zd w hB hI hl (.inl hpi)
  · have hpi : pie proto zd = 12 := if_pos hp
    have hq : que proto zd = 12 := by unfold que; rw [if_pos (by rw [hpi]; decide)]; exact hpi
    rw [hq, otv_no (show (12 : Int) ≠ 0 by decide)]
    exact rinner_kind proto tos id ttl src dst keep so sd zd w hB hI hl hp

set_option maxHeartbeats 4000000 in
theorem rquoted_any (tos id ttl proto src dst : Int) (keep : Bool) (so sd : Value) (zd : List Int) (w : World) (hB : Mt.By zd) (hI : Rd w.heap.size w sd zd) (hl : zd.length ≤ 1099511627776) : Calls Tryd.prog 13 #[.agg #[.int .u8 tos, .int .u16 id, .bool keep, .int .u8 ttl, .int .u8 proto, .int .u32 src, .int .u32 dst, so, sd]] w fun e w' => Below w.heap.size w w' ∧ e = .returned (.tuple #[quv proto zd, .int .i64 (que proto zd)]) := by
  obtain ⟨ad, cd, rfl, _, _⟩ := hI.slice
  obtain ⟨x0, x1, x2, x3, x4, hx⟩ := quv_agg proto zd
  have hb0 : Below w.heap.size w ((w.alloc (.cells #[.int .u8 tos, .int .u16 id, .bool keep, .int .u8 ttl, .int .u8 proto, .int .u32 src, .int .u32 dst, so, .slice ad zd.length cd] 26)).alloc (.cells #[.int .u8 0, .int .u32 0, .int .u32 0, .int .u16 0, .int .u16 0] 28)) := ((Below.refl _ _).alloc (Nat.le_refl _) _).alloc (by simp) _
  have r0 := heap_alloc_new (w.alloc (.cells #[.int .u8 tos, .int .u16 id, .bool keep, .int .u8 ttl, .int .u8 proto, .int .u32 src, .int .u32 dst, so, .slice ad zd.length cd] 26)) (.cells #[.int .u8 0, .int .u32 0, .int .u32 0, .int .u16 0, .int .u16 0] 28)
  rw [World.size_alloc] at r0
  have R0 := hide r0
  clear r0
  have HX := hide hx
  clear hx
  go_enter Tryd.func13, Tryd.ntmps13
  go_wp2_with fail
  generalize ((w.alloc (.cells #[.int .u8 tos, .int .u16 id, .bool keep, .int .u8 ttl, .int .u8 proto, .int .u32 src, .int .u32 dst, so, .slice ad zd.length cd] 26)).alloc (.cells #[.int .u8 0, .int .u32 0, .int .u32 0, .int .u16 0, .int .u16 0] 28)) = w0 at *
  refine (rinner_any tos id ttl proto src dst keep _ _ zd w0 hB ((hI.below hb0).mono hb0.size) hl).mono ?_
  rw [HX.out]
  generalize hee : que proto zd = ee at *
  have HEE := hide hee
  clear hee
  rintro e w1 ⟨hb1, y0, y1, y2, y3, y4, y5, y6, y7, m7, d7, y8, m8, d8, rfl⟩
  have l1 : Later w0 w1 := hb1
  have la : Later w1 (w1.alloc (.cells #[.int .u8 y0, .int .u16 y1, .bool y2, .int .u8 y3, .int .u8 y4, .int .u32 y5, .int .u32 y6, .slice y7 m7 d7, .slice y8 m8 d8] 26)) := (Below.refl _ _).alloc (Nat.le_refl _) _
  have lb : Later (w1.alloc (.cells #[.int .u8 y0, .int .u16 y1, .bool y2, .int .u8 y3, .int .u8 y4, .int .u32 y5, .int .u32 y6, .slice y7 m7 d7, .slice y8 m8 d8] 26)) ((w1.alloc (.cells #[.int .u8 y0, .int .u16 y1, .bool y2, .int .u8 y3, .int .u8 y4, .int .u32 y5, .int .u32 y6, .slice y7 m7 d7, .slice y8 m8 d8] 26)).alloc (.cells #[.int .u8 x0, .int .u32 x1, .int .u32 x2, .int .u16 x3, .int .u16 x4] 28)) := (Below.refl _ _).alloc (Nat.le_refl _) _
  have tk := heap_alloc_new (w1.alloc (.cells #[.int .u8 y0, .int .u16 y1, .bool y2, .int .u8 y3, .int .u8 y4, .int .u32 y5, .int .u32 y6, .slice y7 m7 d7, .slice y8 m8 d8] 26)) (.cells #[.int .u8 x0, .int .u32 x1, .int .u32 x2, .int .u16 x3, .int .u16 x4] 28)
  rw [World.size_alloc] at tk
  have l2 := l1.trans (la.trans lb)
  have rX := later_keep l2 R0.out
  have hwX := hb0.trans (l2.mono hb0.size)
  have kX := block_cell rX
  have fX := block_frozen rX
  have kt := block_cell tk
  go_wp2_with fail
  generalize (w1.alloc (.cells #[.int .u8 y0, .int .u16 y1, .bool y2, .int .u8 y3, .int .u8 y4, .int .u32 y5, .int .u32 y6, .slice y7 m7 d7, .slice y8 m8 d8] 26)).alloc (.cells #[.int .u8 x0, .int .u32 x1, .int .u32 x2, .int .u16 x3, .int .u16 x4] 28) = W at *
  generalize hV : ((((W.setCell ⟨w.heap.size + 1, 0, none⟩ _).setCell ⟨w.heap.size + 1, 1, none⟩ _).setCell ⟨w.heap.size + 1, 2, none⟩ _).setCell ⟨w.heap.size + 1, 3, none⟩ _).setCell ⟨w.heap.size + 1, 4, none⟩ _ = V
  have hV8 : V = putRow W (w.heap.size + 1) 0 [.int .u8 x0, .int .u32 x1, .int .u32 x2, .int .u16 x3, .int .u16 x4] := hV.symm
  have hbV : But (fun b => b = w.heap.size + 1) W V := by rw [hV8]; exact putRow_but (E := fun b => b = w.heap.size + 1) (n := w.heap.size + 1) rfl _ _ _ _ (But.refl _ _)
  have pV := putRow_all ([.int .u8 x0, .int .u32 x1, .int .u32 x2, .int .u16 x3, .int .u16 x4] : List Value) rX rfl
  rw [← hV8] at pV
  clear hV hV8 kX fX kt
  have PV := block_cell pV
  have hwV : Below w.heap.size w V := hwX.trans (hbV.below hwX.size (fun k hk e => by omega))
  exact bodyPost_ret (v := .tuple #[.agg #[.int .u8 x0, .int .u32 x1, .int .u32 x2, .int .u16 x3, .int .u16 x4], .int .i64 ee]) (by simp [results, Tryd.results13, go_sem, PV]) rfl ⟨hwV, by rw [HX.out, HEE.out]⟩

set_option maxHeartbeats 8000000 in
theorem walk_TupleQuoted (w : World) (hT : Tb w) (tos id ttl proto src dst : Int) (keep : Bool) (so sd : Value) (zo zd : List Int) (hBo : Mt.By zo) (hBd : Mt.By zd) (hIo : Rd w.heap.size w so zo) (hId : Rd w.heap.size w sd zd) (hlo : zo.length ≤ 140737488355328) (hld : zd.length ≤ 140737488355328)
    (ht : 0 ≤ tos ∧ tos ≤ 255) (hid : 0 ≤ id ∧ id ≤ 65535) (htt : 0 ≤ ttl ∧ ttl ≤ 255) (hpr : 0 ≤ proto ∧ proto ≤ 255) (hsr : 0 ≤ src ∧ src ≤ 4294967295) (hds : 0 ≤ dst ∧ dst ≤ 4294967295) (hsm : zd.length ≤ 1048576) :
    Calls Tryd.prog 4 #[.agg #[.int .u8 tos, .int .u16 id, .bool keep, .int .u8 ttl, .int .u8 proto, .int .u32 src, .int .u32 dst, so, sd]] w fun e w' => e = .returned (.bool true) ∧ Below w.heap.size w w' := by
  obtain ⟨ao, co, rfl, _, _⟩ := hIo.slice
  obtain ⟨ad, cd, rfl, _, _⟩ := hId.slice
  have hb0 : Below w.heap.size w (w.alloc (.cells #[.int .u8 tos, .int .u16 id, .bool keep, .int .u8 ttl, .int .u8 proto, .int .u32 src, .int .u32 dst, .slice ao zo.length co, .slice ad zd.length cd] 26)) := (Below.refl _ _).alloc (Nat.le_refl _) _
  have p0 := heap_alloc_new w (.cells #[.int .u8 tos, .int .u16 id, .bool keep, .int .u8 ttl, .int .u8 proto, .int .u32 src, .int .u32 dst, .slice ao zo.length co, .slice ad zd.length cd] 26)
  have P0 := hide p0
  clear p0
  obtain ⟨x0, x1, x2, x3, x4, hx⟩ := quv_agg proto zd
  have HX := hide hx
  clear hx
  go_enter Tryd.func4, Tryd.ntmps4
  go_wp2_with fail
  generalize w.alloc (.cells #[.int .u8 tos, .int .u16 id, .bool keep, .int .u8 ttl, .int .u8 proto, .int .u32 src, .int .u32 dst, .slice ao zo.length co, .slice ad zd.length cd] 26) = W0 at *
  refine (quoted_any tos id ttl proto src dst keep _ _ zd W0 (hT.below hb0 hT.pos) hBd ((hId.below hb0).mono hb0.size) (by omega)).mono ?_
  rw [HX.out]
  generalize hee : que proto zd = ee at *
  have HEE := hide hee
  clear hee
  rintro e w1 ⟨hb1, rfl⟩
  have l1 : Later W0 w1 := hb1
  have l2 : Later w1 (w1.alloc (.cells #[.int .u8 x0, .int .u32 x1, .int .u32 x2, .int .u16 x3, .int .u16 x4] 28)) := (Below.refl _ _).alloc (Nat.le_refl _) _
  have s2 := heap_alloc_new w1 (.cells #[.int .u8 x0, .int .u32 x1, .int .u32 x2, .int .u16 x3, .int .u16 x4] 28)
  have l12 := l1.trans l2
  have p2 := later_keep l12 P0.out
  have k2 := block_cell p2
  have hw2 := hb0.trans (l12.mono hb0.size)
  go_wp2_with fail
  generalize w1.alloc (.cells #[.int .u8 x0, .int .u32 x1, .int .u32 x2, .int .u16 x3, .int .u16 x4] 28) = W2 at *
  generalize w1.heap.size = g at *
  clear k2
  refine (rquoted_any tos id ttl proto src dst keep _ _ zd W2 hBd ((hId.below hw2).mono hw2.size) (by omega)).mono ?_
  rw [HX.out]
  rw [HEE.out]
  rintro e w3 ⟨hb3, rfl⟩
  have l3 : Later W2 w3 := hb3
  have l4 : Later w3 (w3.alloc (.cells #[.int .u8 x0, .int .u32 x1, .int .u32 x2, .int .u16 x3, .int .u16 x4] 28)) := (Below.refl _ _).alloc (Nat.le_refl _) _
  have s4 := heap_alloc_new w3 (.cells #[.int .u8 x0, .int .u32 x1, .int .u32 x2, .int .u16 x3, .int .u16 x4] 28)
  have l34 := l3.trans l4
  have r4 := later_keep l34 s2
  have hw4 := hw2.trans (l34.mono hw2.size)
  go_wp2_with fail
  generalize w3.alloc (.cells #[.int .u8 x0, .int .u32 x1, .int .u32 x2, .int .u16 x3, .int .u16 x4] 28) = W4 at *
  generalize w3.heap.size = h at *
  refine (live5_any W4).mono ?_
  rintro e w5 ⟨rfl, hb5⟩
  have l5 : Later W4 w5 := hb5
  have k5 := block_cell (later_keep l5 r4)
  have m5 := block_cell (later_keep l5 s4)
  have hw5 := hw4.trans (hb5.mono hw4.size)
  go_wp2_with fail
  go_ret
  exact ⟨by simp, hw5⟩
end Go.Proofs.YtojoaidnkljcpaaDoor
