/- Package table: inOrder; bits.Len of few. -/
import Derived.Test.YtahphjindjlcpaaBG
namespace Go.Proofs.Ytahphjindjlcpaa
open Go.RowKit Go.Shelf
set_option maxRecDepth 100000
set_option linter.unusedVariables false
set_option linter.unusedSimpArgs false

/-- How two rows stand to each other. -/
def ordv (r q : Rw) : Int := orv (cmpv r.till q.till) (cmpv r.turn q.turn)

set_option maxHeartbeats 4000000 in
theorem inOrder_any (r q : Rw) (w : World) : Calls Try.prog 41 #[.agg (rwc r).toArray, .agg (rwc q).toArray] w fun e w' => e = .returned (.int .i64 (ordv r q)) ∧ Below w.heap.size w w' := by
  obtain ⟨p, s, d, a, b, id, till, turn⟩ := r
  obtain ⟨p2, s2, d2, a2, b2, id2, till2, turn2⟩ := q
  have HO : Hid (ordv ⟨p, s, d, a, b, id, till, turn⟩ ⟨p2, s2, d2, a2, b2, id2, till2, turn2⟩ = orv (cmpv till till2) (cmpv turn turn2)) := rfl
  unfold rwc
  have hb0 : Below w.heap.size w ((w.alloc (.cells #[.int .u8 p, .int .u32 s, .int .u32 d, .int .u16 a, .int .u16 b, .int .i64 id, .int .i64 till, .int .i64 turn] 65)).alloc (.cells #[.int .u8 p2, .int .u32 s2, .int .u32 d2, .int .u16 a2, .int .u16 b2, .int .i64 id2, .int .i64 till2, .int .i64 turn2] 65)) := ((Below.refl _ _).alloc (Nat.le_refl _) _).alloc (by simp) _
  have t0 := (Below.heap_alloc (w.alloc (.cells #[.int .u8 p, .int .u32 s, .int .u32 d, .int .u16 a, .int .u16 b, .int .i64 id, .int .i64 till, .int .i64 turn] 65)) (.cells #[.int .u8 p2, .int .u32 s2, .int .u32 d2, .int .u16 a2, .int .u16 b2, .int .i64 id2, .int .i64 till2, .int .i64 turn2] 65) w.heap.size (by simp)).trans (heap_alloc_new w _)
  have t1 := heap_alloc_new (w.alloc (.cells #[.int .u8 p, .int .u32 s, .int .u32 d, .int .u16 a, .int .u16 b, .int .i64 id, .int .i64 till, .int .i64 turn] 65)) (.cells #[.int .u8 p2, .int .u32 s2, .int .u32 d2, .int .u16 a2, .int .u16 b2, .int .i64 id2, .int .i64 till2, .int .i64 turn2] 65)
  rw [World.size_alloc] at t1
  go_enter Try.func41, Try.ntmps41
  go_upto_region 1 with fail
  generalize (w.alloc (.cells #[.int .u8 p, .int .u32 s, .int .u32 d, .int .u16 a, .int .u16 b, .int .i64 id, .int .i64 till, .int .i64 turn] 65)).alloc (.cells #[.int .u8 p2, .int .u32 s2, .int .u32 d2, .int .u16 a2, .int .u16 b2, .int .i64 id2, .int .i64 till2, .int .i64 turn2] 65) = w0 at *
  refine anyR_begin (R := Later) Later.pre Later.drew 13 rfl (by kernel_rfl) (fun V1 hV1 => ?_)
  have q0 : ∀ v1, Later V1 v1 → ∀ i, v1.cell? ⟨w.heap.size, i, none⟩ = #[Value.int .u8 p, .int .u32 s, .int .u32 d, .int .u16 a, .int .u16 b, .int .i64 id, .int .i64 till, .int .i64 turn][i]? := fun v1 h => block_cell (later_keep (hV1.trans h) t0)
  have q1 : ∀ v1, Later V1 v1 → ∀ i, v1.cell? ⟨w.heap.size + 1, i, none⟩ = #[Value.int .u8 p2, .int .u32 s2, .int .u32 d2, .int .u16 a2, .int .u16 b2, .int .i64 id2, .int .i64 till2, .int .i64 turn2][i]? := fun v1 h => block_cell (later_keep (hV1.trans h) t1)
  refine anyR_val Later.pre 0 rfl (by kernel_rfl) (by kernel_rfl) (by kernel_rfl) (fun _ _ _ _ h => h) rfl ?_; apply Exists.intro; refine ⟨fun w1 hw1 => ?_, ?_⟩; (· (go_simp; rfl)); simp only [Act.put, List.setIfInBounds_toArray, List.set_cons_zero, List.set_cons_succ]
  refine anyR_val Later.pre 1 rfl (by kernel_rfl) (by kernel_rfl) (by kernel_rfl) (fun _ _ _ _ h => h) rfl ?_; apply Exists.intro; refine ⟨fun w1 hw1 => ?_, ?_⟩; (· (go_simp; rfl)); simp only [Act.put, List.setIfInBounds_toArray, List.set_cons_zero, List.set_cons_succ]
  refine anyR_val Later.pre 2 rfl (by kernel_rfl) (by kernel_rfl) (by kernel_rfl) (fun _ _ _ _ h => h) rfl ?_; apply Exists.intro; refine ⟨fun w1 hw1 => ?_, ?_⟩; (· (go_simp; rfl)); simp only [Act.put, List.setIfInBounds_toArray, List.set_cons_zero, List.set_cons_succ]
  refine anyR_val Later.pre 3 rfl (by kernel_rfl) (by kernel_rfl) (by kernel_rfl) (fun _ _ _ _ h => h) rfl ?_; apply Exists.intro; refine ⟨fun w1 hw1 => ?_, ?_⟩; (· (go_simp; rfl)); simp only [Act.put, List.setIfInBounds_toArray, List.set_cons_zero, List.set_cons_succ]
  refine anyR_val Later.pre 5 rfl (by kernel_rfl) (by kernel_rfl) (by kernel_rfl) (fun _ _ _ _ h => h) rfl ?_; apply Exists.intro; refine ⟨fun w1 hw1 => ?_, ?_⟩; (· (go_simp; rfl)); simp only [Act.put, List.setIfInBounds_toArray, List.set_cons_zero, List.set_cons_succ]
  refine anyR_val Later.pre 6 rfl (by kernel_rfl) (by kernel_rfl) (by kernel_rfl) (fun _ _ _ _ h => h) rfl ?_; apply Exists.intro; refine ⟨fun w1 hw1 => ?_, ?_⟩; (· (go_simp; rfl)); simp only [Act.put, List.setIfInBounds_toArray, List.set_cons_zero, List.set_cons_succ]
  refine anyR_val Later.pre 7 rfl (by kernel_rfl) (by kernel_rfl) (by kernel_rfl) (fun _ _ _ _ h => h) rfl ?_; apply Exists.intro; refine ⟨fun w1 hw1 => ?_, ?_⟩; (· (go_simp; rfl)); simp only [Act.put, List.setIfInBounds_toArray, List.set_cons_zero, List.set_cons_succ]
  refine anyR_val Later.pre 8 rfl (by kernel_rfl) (by kernel_rfl) (by kernel_rfl) (fun _ _ _ _ h => h) rfl ?_; apply Exists.intro; refine ⟨fun w1 hw1 => ?_, ?_⟩; (· (go_simp; rfl)); simp only [Act.put, List.setIfInBounds_toArray, List.set_cons_zero, List.set_cons_succ]
  clear q0 q1
  refine anyR_take Later.pre 4 (.int .i64 (cmpv till till2)) rfl (by kernel_rfl) (by kernel_rfl) (by kernel_rfl) (fun _ _ _ h => h) rfl (fun w1 hw1 => goes_call 55 #[.int .i64 till, .int .i64 till2] (by go_simp) ((compare_any till till2 w1).mono fun e w2 h => ⟨h.1, by rw [h.2]; exact Below.refl _ _⟩)) ?_
  simp only [Act.put, List.setIfInBounds_toArray, List.set_cons_zero, List.set_cons_succ]
  refine anyR_take Later.pre 9 (.int .i64 (cmpv turn turn2)) rfl (by kernel_rfl) (by kernel_rfl) (by kernel_rfl) (fun _ _ _ h => h) rfl (fun w1 hw1 => goes_call 55 #[.int .i64 turn, .int .i64 turn2] (by go_simp) ((compare_any turn turn2 w1).mono fun e w2 h => ⟨h.1, by rw [h.2]; exact Below.refl _ _⟩)) ?_
  simp only [Act.put, List.setIfInBounds_toArray, List.set_cons_zero, List.set_cons_succ]
  generalize hx : cmpv till till2 = x at *
  generalize hy : cmpv turn turn2 = y at *
  have HX := hide hx
  have HY := hide hy
  clear hx hy
  refine anyR_one 10 rfl (by kernel_rfl) rfl (fun V2 hV2 => ?_)
  unfold Oper.wp
  go_simp
  have la : Later V2 (V2.alloc (.cells #[.int .i64 x, .int .i64 y] 3)) := (Below.refl _ _).alloc (Nat.le_refl _) _
  have ga := heap_alloc_new V2 (.cells #[.int .i64 x, .int .i64 y] 3)
  refine ⟨la, ?_⟩
  generalize V2.alloc (.cells #[.int .i64 x, .int .i64 y] 3) = V3 at *
  refine anyR_one 11 rfl (by kernel_rfl) rfl (fun V4 hV4 => ?_)
  refine wp_enter 54 #[.slice (some ⟨V2.heap.size, 0, none⟩) 2 2] (by go_simp) ?_
  refine (or_two V2.heap.size x y V4 (later_keep hV4 ga)).mono ?_
  rintro e V5 ⟨rfl, rfl⟩
  refine ⟨Below.refl _ _, ?_⟩
  simp only [Act.put, List.setIfInBounds_toArray, List.set_cons_zero, List.set_cons_succ]
  generalize hz : orv x y = z at *
  have HZ := hide hz
  clear hz
  refine anyR_val Later.pre 12 rfl (by kernel_rfl) (by kernel_rfl) (by kernel_rfl) (fun _ _ _ _ h => h) rfl ?_; apply Exists.intro; refine ⟨fun w1 hw1 => ?_, ?_⟩; (· (go_simp; rfl)); simp only [Act.put, List.setIfInBounds_toArray, List.set_cons_zero, List.set_cons_succ]
  refine anyR_done (by kernel_rfl) (fun V6 hV6 => ?_)
  have l6 : Later w0 V6 := (hV1.trans hV2).trans (la.trans (hV4.trans hV6))
  go_wp2_with fail
  go_ret
  exact ⟨by rw [HO.out]; rfl, hb0.trans (l6.mono hb0.size)⟩

set_option maxHeartbeats 8000000 in
theorem len64_few (n : Nat) (w : World) (hn : n ≤ 12) : Calls Try.prog 66 #[.int .u64 (n : Int)] w fun e w' => (∃ v, e = .returned (.int .i64 v)) ∧ w' = w := by
  have hc : n = 0 ∨ n = 1 ∨ n = 2 ∨ n = 3 ∨ n = 4 ∨ n = 5 ∨ n = 6 ∨ n = 7 ∨ n = 8 ∨ n = 9 ∨ n = 10 ∨ n = 11 ∨ n = 12 := by omega
  clear hn
  rcases hc with rfl | rfl | rfl | rfl | rfl | rfl | rfl | rfl | rfl | rfl | rfl | rfl | rfl
  all_goals
    go_enter Try.func66, Try.ntmps66
    go_wp2_with fail
    go_ret
    exact ⟨⟨_, rfl⟩, rfl⟩

set_option maxHeartbeats 2000000 in
theorem len_few (n : Nat) (w : World) (hn : n ≤ 12) : Calls Try.prog 53 #[.int .u64 (n : Int)] w fun e w' => (∃ v, e = .returned (.int .i64 v)) ∧ w' = w := by
  go_enter Try.func53, Try.ntmps53
  go_wp2_with fail
  refine (len64_few n w hn).mono ?_
  rintro e w1 ⟨⟨v, rfl⟩, rfl⟩
  go_wp2_with fail
  go_ret
  exact ⟨⟨_, rfl⟩, rfl⟩

end Go.Proofs.Ytahphjindjlcpaa
