/- Package table: inOrder, with the world that it leaves. -/
import Derived.Test.YtahphjindjlcpaaBK
import Derived.Shelf.SlSortCmp.NoneTotal
namespace Go.Proofs.Ytahphjindjlcpaa
open Go.RowKit Go.Shelf
set_option maxRecDepth 100000
set_option linter.unusedVariables false
set_option linter.unusedSimpArgs false

set_option maxHeartbeats 4000000 in
theorem inOrder_grow (r q : Rw) (w : World) : Calls Try.prog 41 #[.agg (rwc r).toArray, .agg (rwc q).toArray] w fun e w' => e = .returned (.int .i64 (ordv r q)) ∧ ∃ n os, w' = Go.Sort.grow (w.drewN n) os := by
  obtain ⟨p, s, d, a, b, id, till, turn⟩ := r
  obtain ⟨p2, s2, d2, a2, b2, id2, till2, turn2⟩ := q
  have HO : Hid (ordv ⟨p, s, d, a, b, id, till, turn⟩ ⟨p2, s2, d2, a2, b2, id2, till2, turn2⟩ = orv (cmpv till till2) (cmpv turn turn2)) := rfl
  unfold rwc
  have t0 := (Below.heap_alloc (w.alloc (.cells #[.int .u8 p, .int .u32 s, .int .u32 d, .int .u16 a, .int .u16 b, .int .i64 id, .int .i64 till, .int .i64 turn] 65)) (.cells #[.int .u8 p2, .int .u32 s2, .int .u32 d2, .int .u16 a2, .int .u16 b2, .int .i64 id2, .int .i64 till2, .int .i64 turn2] 65) w.heap.size (by simp)).trans (heap_alloc_new w _)
  have t1 := heap_alloc_new (w.alloc (.cells #[.int .u8 p, .int .u32 s, .int .u32 d, .int .u16 a, .int .u16 b, .int .i64 id, .int .i64 till, .int .i64 turn] 65)) (.cells #[.int .u8 p2, .int .u32 s2, .int .u32 d2, .int .u16 a2, .int .u16 b2, .int .i64 id2, .int .i64 till2, .int .i64 turn2] 65)
  rw [World.size_alloc] at t1
  have hgr : ∃ os, ((w.alloc (.cells #[.int .u8 p, .int .u32 s, .int .u32 d, .int .u16 a, .int .u16 b, .int .i64 id, .int .i64 till, .int .i64 turn] 65)).alloc (.cells #[.int .u8 p2, .int .u32 s2, .int .u32 d2, .int .u16 a2, .int .u16 b2, .int .i64 id2, .int .i64 till2, .int .i64 turn2] 65)).drew = Go.Sort.grow (w.drewN 1) os := ⟨_, by rw [Go.Sort.alloc_eq_grow, Go.Sort.alloc_eq_grow, Go.Sort.grow_grow]; rfl⟩
  have HGR := hide hgr
  clear hgr
  go_enter Try.func41, Try.ntmps41
  go_upto_region 1 with fail
  generalize (w.alloc (.cells #[.int .u8 p, .int .u32 s, .int .u32 d, .int .u16 a, .int .u16 b, .int .i64 id, .int .i64 till, .int .i64 turn] 65)).alloc (.cells #[.int .u8 p2, .int .u32 s2, .int .u32 d2, .int .u16 a2, .int .u16 b2, .int .i64 id2, .int .i64 till2, .int .i64 turn2] 65) = w0 at *
  refine anyT_begin (R := But (fun _ => False)) 13 rfl (by kernel_rfl) ?_
  have ld : Later w0 w0.drew := Later.drew w0
  have u0 := later_keep ld t0
  have u1 := later_keep ld t1
  clear t0 t1 ld
  generalize w0.drew = Wd at *
  have q0 : ∀ v1, But (fun _ => False) Wd v1 → ∀ i, v1.cell? ⟨w.heap.size, i, none⟩ = #[.int .u8 p, .int .u32 s, .int .u32 d, .int .u16 a, .int .u16 b, .int .i64 id, .int .i64 till, .int .i64 turn][i]? := fun v1 h => block_cell ((h.block _ (Array.getElem?_eq_some_iff.1 u0).1 (fun e => e)).trans u0)
  have q1 : ∀ v1, But (fun _ => False) Wd v1 → ∀ i, v1.cell? ⟨w.heap.size + 1, i, none⟩ = #[.int .u8 p2, .int .u32 s2, .int .u32 d2, .int .u16 a2, .int .u16 b2, .int .i64 id2, .int .i64 till2, .int .i64 turn2][i]? := fun v1 h => block_cell ((h.block _ (Array.getElem?_eq_some_iff.1 u1).1 (fun e => e)).trans u1)
  refine anyT_val (But.pre _) 0 rfl (by kernel_rfl) (by kernel_rfl) (by kernel_rfl) (fun _ _ _ _ h => h) rfl ?_; apply Exists.intro; refine ⟨fun v1 hv1 => ?_, ?_⟩; (· (go_simp; rfl)); simp only [Act.put, List.setIfInBounds_toArray, List.set_cons_zero, List.set_cons_succ]
  refine anyT_val (But.pre _) 1 rfl (by kernel_rfl) (by kernel_rfl) (by kernel_rfl) (fun _ _ _ _ h => h) rfl ?_; apply Exists.intro; refine ⟨fun v1 hv1 => ?_, ?_⟩; (· (go_simp; rfl)); simp only [Act.put, List.setIfInBounds_toArray, List.set_cons_zero, List.set_cons_succ]
  refine anyT_val (But.pre _) 2 rfl (by kernel_rfl) (by kernel_rfl) (by kernel_rfl) (fun _ _ _ _ h => h) rfl ?_; apply Exists.intro; refine ⟨fun v1 hv1 => ?_, ?_⟩; (· (go_simp; rfl)); simp only [Act.put, List.setIfInBounds_toArray, List.set_cons_zero, List.set_cons_succ]
  refine anyT_val (But.pre _) 3 rfl (by kernel_rfl) (by kernel_rfl) (by kernel_rfl) (fun _ _ _ _ h => h) rfl ?_; apply Exists.intro; refine ⟨fun v1 hv1 => ?_, ?_⟩; (· (go_simp; rfl)); simp only [Act.put, List.setIfInBounds_toArray, List.set_cons_zero, List.set_cons_succ]
  refine anyT_val (But.pre _) 5 rfl (by kernel_rfl) (by kernel_rfl) (by kernel_rfl) (fun _ _ _ _ h => h) rfl ?_; apply Exists.intro; refine ⟨fun v1 hv1 => ?_, ?_⟩; (· (go_simp; rfl)); simp only [Act.put, List.setIfInBounds_toArray, List.set_cons_zero, List.set_cons_succ]
  refine anyT_val (But.pre _) 6 rfl (by kernel_rfl) (by kernel_rfl) (by kernel_rfl) (fun _ _ _ _ h => h) rfl ?_; apply Exists.intro; refine ⟨fun v1 hv1 => ?_, ?_⟩; (· (go_simp; rfl)); simp only [Act.put, List.setIfInBounds_toArray, List.set_cons_zero, List.set_cons_succ]
  refine anyT_val (But.pre _) 7 rfl (by kernel_rfl) (by kernel_rfl) (by kernel_rfl) (fun _ _ _ _ h => h) rfl ?_; apply Exists.intro; refine ⟨fun v1 hv1 => ?_, ?_⟩; (· (go_simp; rfl)); simp only [Act.put, List.setIfInBounds_toArray, List.set_cons_zero, List.set_cons_succ]
  refine anyT_val (But.pre _) 8 rfl (by kernel_rfl) (by kernel_rfl) (by kernel_rfl) (fun _ _ _ _ h => h) rfl ?_; apply Exists.intro; refine ⟨fun v1 hv1 => ?_, ?_⟩; (· (go_simp; rfl)); simp only [Act.put, List.setIfInBounds_toArray, List.set_cons_zero, List.set_cons_succ]
  clear q0 q1 u0 u1
  refine anyT_one 4 rfl (by kernel_rfl) rfl ?_
  refine wp_enter 55 #[.int .i64 till, .int .i64 till2] (by go_simp) ?_
  refine (compare_any till till2 Wd).mono ?_
  rintro e W1 ⟨rfl, rfl⟩
  refine ⟨But.refl _ _, ?_⟩
  simp only [Act.put, List.setIfInBounds_toArray, List.set_cons_zero, List.set_cons_succ]
  refine anyT_one 9 rfl (by kernel_rfl) rfl ?_
  refine wp_enter 55 #[.int .i64 turn, .int .i64 turn2] (by go_simp) ?_
  refine (compare_any turn turn2 W1).mono ?_
  rintro e W2 ⟨rfl, rfl⟩
  refine ⟨But.refl _ _, ?_⟩
  simp only [Act.put, List.setIfInBounds_toArray, List.set_cons_zero, List.set_cons_succ]
  generalize hx : cmpv till till2 = x at *
  generalize hy : cmpv turn turn2 = y at *
  have HX := hide hx
  have HY := hide hy
  clear hx hy
  refine anyT_one 10 rfl (by kernel_rfl) rfl ?_
  unfold Oper.wp
  go_simp
  have la : Later W2 (W2.alloc (.cells #[.int .i64 x, .int .i64 y] 3)) := (Below.refl _ _).alloc (Nat.le_refl _) _
  have ga := heap_alloc_new W2 (.cells #[.int .i64 x, .int .i64 y] 3)
  have HG2 : Hid (∃ n os, W2.alloc (.cells #[.int .i64 x, .int .i64 y] 3) = Go.Sort.grow (w.drewN n) os) := by
    obtain ⟨os, e⟩ := HGR.out
    exact ⟨1, _, by rw [e, Go.Sort.alloc_eq_grow, Go.Sort.grow_grow]⟩
  refine ⟨But.of la, ?_⟩
  generalize W2.alloc (.cells #[.int .i64 x, .int .i64 y] 3) = V3 at *
  generalize W2.heap.size = g2 at *
  refine anyT_one 11 rfl (by kernel_rfl) rfl ?_
  refine wp_enter 54 #[.slice (some ⟨g2, 0, none⟩) 2 2] (by go_simp) ?_
  refine (or_two g2 x y V3 ga).mono ?_
  rintro e V5 ⟨rfl, rfl⟩
  refine ⟨But.refl _ _, ?_⟩
  simp only [Act.put, List.setIfInBounds_toArray, List.set_cons_zero, List.set_cons_succ]
  generalize hz : orv x y = z at *
  have HZ := hide hz
  clear hz ga la
  refine anyT_val (But.pre _) 12 rfl (by kernel_rfl) (by kernel_rfl) (by kernel_rfl) (fun _ _ _ _ h => h) rfl ?_; apply Exists.intro; refine ⟨fun v1 hv1 => ?_, ?_⟩; (· (go_simp; rfl)); simp only [Act.put, List.setIfInBounds_toArray, List.set_cons_zero, List.set_cons_succ]
  refine anyT_done (by kernel_rfl) ?_
  go_wp2_with fail
  go_ret
  exact ⟨by rw [HO.out]; rfl, HG2.out⟩
end Go.Proofs.Ytahphjindjlcpaa
