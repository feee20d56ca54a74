/- The walk of TupleTwice. -/
import Derived.Test.YtojoaidnkljcpaaDoorKP
import Derived.Test.YtojoaidnkljcpaaDoorSG
namespace Go.Proofs.YtojoaidnkljcpaaDoor
open Go.RowKit Go.Shelf
set_option maxRecDepth 100000
set_option linter.unusedVariables false
set_option linter.unusedSimpArgs false

theorem kyp_twice (p a : Int) : kyp p (kyp p a) = kyp p a := by unfold kyp; split <;> rfl
theorem key_twice (p s d a b : Int) (w : World) : Calls Tryd.prog 16 #[.agg #[.int .u8 p, .int .u32 s, .int .u32 d, .int .u16 (kyp p a), .int .u16 b]] w fun e w' => e = .returned (.agg #[.int .u8 p, .int .u32 s, .int .u32 d, .int .u16 (kyp p a), .int .u16 b]) ∧ Below w.heap.size w w' := by
  have := key_any p s d (kyp p a) b w
  rwa [kyp_twice] at this

theorem key_eq (p s d a a2 b : Int) (h : kyp p a2 = kyp p a) (w : World) : Calls Tryd.prog 16 #[.agg #[.int .u8 p, .int .u32 s, .int .u32 d, .int .u16 a2, .int .u16 b]] w fun e w' => e = .returned (.agg #[.int .u8 p, .int .u32 s, .int .u32 d, .int .u16 (kyp p a), .int .u16 b]) ∧ Below w.heap.size w w' := by
  have := key_any p s d a2 b w
  rwa [h] at this
theorem hash_eq (p s d a a2 b : Int) (h : kyp p a2 = kyp p a) (w : World) (hs : 0 ≤ s ∧ s ≤ 4294967295) (hd : 0 ≤ d ∧ d ≤ 4294967295) (ha : 0 ≤ a2 ∧ a2 ≤ 65535) (hb : 0 ≤ b ∧ b ≤ 65535) : Calls Tryd.prog 18 #[.agg #[.int .u8 p, .int .u32 s, .int .u32 d, .int .u16 a2, .int .u16 b]] w fun e w' => e = .returned (.int .u32 (hsh (tb p s d (kyp p a) b))) ∧ Below w.heap.size w w' := by
  have := hash_any p s d a2 b w hs hd ha hb
  rwa [h] at this

set_option maxHeartbeats 4000000 in
theorem walk_TupleTwice (w : World) (p s d a b : Int) (hp : 0 ≤ p ∧ p ≤ 255) (hs : 0 ≤ s ∧ s ≤ 4294967295) (hd : 0 ≤ d ∧ d ≤ 4294967295) (ha : 0 ≤ a ∧ a ≤ 65535) (hb : 0 ≤ b ∧ b ≤ 65535) (p2 s2 d2 a2 b2 : Int) (hp2 : 0 ≤ p2 ∧ p2 ≤ 255) (hs2 : 0 ≤ s2 ∧ s2 ≤ 4294967295) (hd2 : 0 ≤ d2 ∧ d2 ≤ 4294967295) (ha2 : 0 ≤ a2 ∧ a2 ≤ 65535) (hb2 : 0 ≤ b2 ∧ b2 ≤ 65535) :
    Calls Tryd.prog 6 #[.agg #[.int .u8 p, .int .u32 s, .int .u32 d, .int .u16 a, .int .u16 b], .agg #[.int .u8 p2, .int .u32 s2, .int .u32 d2, .int .u16 a2, .int .u16 b2]] w fun e w' => e = .returned (.bool true) ∧ Below w.heap.size w w' := by
  have hb0 : Below w.heap.size w ((w.alloc (.cells #[Value.int .u8 p, .int .u32 s, .int .u32 d, .int .u16 a, .int .u16 b] 28)).alloc (.cells #[Value.int .u8 p2, .int .u32 s2, .int .u32 d2, .int .u16 a2, .int .u16 b2] 28)) := ((Below.refl _ _).alloc (Nat.le_refl _) _).alloc (by simp) _
  have t0 : ((w.alloc (.cells #[Value.int .u8 p, .int .u32 s, .int .u32 d, .int .u16 a, .int .u16 b] 28)).alloc (.cells #[Value.int .u8 p2, .int .u32 s2, .int .u32 d2, .int .u16 a2, .int .u16 b2] 28)).heap[w.heap.size]? = some (.cells #[Value.int .u8 p, .int .u32 s, .int .u32 d, .int .u16 a, .int .u16 b] 28) := (Below.heap_alloc _ _ _ (by simp)).trans (heap_alloc_new w _)
  have u0 := heap_alloc_new (w.alloc (.cells #[Value.int .u8 p, .int .u32 s, .int .u32 d, .int .u16 a, .int .u16 b] 28)) (.cells #[Value.int .u8 p2, .int .u32 s2, .int .u32 d2, .int .u16 a2, .int .u16 b2] 28)
  rw [World.size_alloc] at u0
  go_enter Tryd.func6, Tryd.ntmps6
  go_upto_region 1 with fail
  generalize (w.alloc (.cells #[Value.int .u8 p, .int .u32 s, .int .u32 d, .int .u16 a, .int .u16 b] 28)).alloc (.cells #[Value.int .u8 p2, .int .u32 s2, .int .u32 d2, .int .u16 a2, .int .u16 b2] 28) = w0 at *
  go_cut [4] (fun v wx => v = .bool true ∧ Later w0 wx)
  case first =>
    refine anyR_begin (R := Later) Later.pre Later.drew 31 rfl (by kernel_rfl) (fun W1 hW1 => ?_)
    have hc : ∀ w1, Later W1 w1 → ∀ i, w1.cell? ⟨w.heap.size, i, none⟩ = #[Value.int .u8 p, .int .u32 s, .int .u32 d, .int .u16 a, .int .u16 b][i]? := fun w1 h => block_cell (((hW1.trans h).block w.heap.size (Array.getElem?_eq_some_iff.1 t0).1).trans t0)
    have hc2 : ∀ w1, Later W1 w1 → ∀ i, w1.cell? ⟨w.heap.size + 1, i, none⟩ = #[Value.int .u8 p2, .int .u32 s2, .int .u32 d2, .int .u16 a2, .int .u16 b2][i]? := fun w1 h => block_cell (((hW1.trans h).block (w.heap.size + 1) (Array.getElem?_eq_some_iff.1 u0).1).trans u0)
    refine anyR_take Later.pre 0 (.bool true) rfl (by kernel_rfl) (by kernel_rfl) (by kernel_rfl) (fun _ _ _ h => h) rfl (fun w1 hw1 => goes_call 11 #[] (by go_simp) ((live5_any w1).mono fun e w2 h => h)) ?_
    simp only [Act.put, List.setIfInBounds_toArray, List.set_cons_zero, List.set_cons_succ]
    refine anyR_val Later.pre 1 rfl (by kernel_rfl) (by kernel_rfl) (by kernel_rfl) (fun _ _ _ _ h => h) rfl ?_; apply Exists.intro; refine ⟨fun w1 hw1 => ?_, ?_⟩; (· (go_simp; rfl)); simp only [Act.put, List.setIfInBounds_toArray, List.set_cons_zero, List.set_cons_succ]
    refine anyR_valG Later.pre 2 rfl (by kernel_rfl) (by kernel_rfl) (by kernel_rfl) (fun _ _ _ _ h => h) (by rfl) ?_; apply Exists.intro; refine ⟨fun w1 hw1 => ?_, ?_⟩; (· (go_simp; rfl)); simp only [Act.put, List.setIfInBounds_toArray, List.set_cons_zero, List.set_cons_succ]
    refine anyR_takeG Later.pre 3 (.agg #[.int .u8 p, .int .u32 d, .int .u32 s, .int .u16 b, .int .u16 a]) rfl (by kernel_rfl) (by kernel_rfl) (by kernel_rfl) (fun _ _ _ h => h) (by rfl) (fun w1 hw1 => goes_call 14 #[.agg #[.int .u8 p, .int .u32 s, .int .u32 d, .int .u16 a, .int .u16 b]] (by go_simp) ((reverse_any p s d a b w1).mono fun e w2 h => h)) ?_
    simp only [Act.put, List.setIfInBounds_toArray, List.set_cons_zero, List.set_cons_succ]
    refine anyR_takeG Later.pre 4 (.agg #[.int .u8 p, .int .u32 s, .int .u32 d, .int .u16 a, .int .u16 b]) rfl (by kernel_rfl) (by kernel_rfl) (by kernel_rfl) (fun _ _ _ h => h) (by rfl) (fun w1 hw1 => goes_call 14 #[.agg #[.int .u8 p, .int .u32 d, .int .u32 s, .int .u16 b, .int .u16 a]] (by go_simp) ((reverse_any p d s b a w1).mono fun e w2 h => h)) ?_
    simp only [Act.put, List.setIfInBounds_toArray, List.set_cons_zero, List.set_cons_succ]
    refine anyR_valG Later.pre 5 rfl (by kernel_rfl) (by kernel_rfl) (by kernel_rfl) (fun _ _ _ _ h => h) (by rfl) ?_; apply Exists.intro; refine ⟨fun w1 hw1 => ?_, ?_⟩; (· (go_simp; rfl)); simp only [Act.put, List.setIfInBounds_toArray, List.set_cons_zero, List.set_cons_succ]
    refine anyR_takeG Later.pre 6 (.bool true) rfl (by kernel_rfl) (by kernel_rfl) (by kernel_rfl) (fun _ _ _ h => h) (by rfl) (fun w1 hw1 => goes_val Later.pre (by go_simp)) ?_
    simp only [Act.put, List.setIfInBounds_toArray, List.set_cons_zero, List.set_cons_succ]
    refine anyR_val Later.pre 7 rfl (by kernel_rfl) (by kernel_rfl) (by kernel_rfl) (fun _ _ _ _ h => h) rfl ?_; apply Exists.intro; refine ⟨fun w1 hw1 => ?_, ?_⟩; (· (go_simp; rfl)); simp only [Act.put, List.setIfInBounds_toArray, List.set_cons_zero, List.set_cons_succ]
    refine anyR_val Later.pre 8 rfl (by kernel_rfl) (by kernel_rfl) (by kernel_rfl) (fun _ _ _ _ h => h) rfl ?_; apply Exists.intro; refine ⟨fun w1 hw1 => ?_, ?_⟩; (· (go_simp; rfl)); simp only [Act.put, List.setIfInBounds_toArray, List.set_cons_zero, List.set_cons_succ]
    refine anyR_valG Later.pre 9 rfl (by kernel_rfl) (by kernel_rfl) (by kernel_rfl) (fun _ _ _ _ h => h) (by rfl) ?_; apply Exists.intro; refine ⟨fun w1 hw1 => ?_, ?_⟩; (· (go_simp; rfl)); simp only [Act.put, List.setIfInBounds_toArray, List.set_cons_zero, List.set_cons_succ]
    refine anyR_takeG Later.pre 10 (.agg #[.int .u8 p, .int .u32 s, .int .u32 d, .int .u16 (kyp p a), .int .u16 b]) rfl (by kernel_rfl) (by kernel_rfl) (by kernel_rfl) (fun _ _ _ h => h) (by rfl) (fun w1 hw1 => goes_call 16 #[.agg #[.int .u8 p, .int .u32 s, .int .u32 d, .int .u16 a, .int .u16 b]] (by go_simp) ((key_any p s d a b w1).mono fun e w2 h => h)) ?_
    simp only [Act.put, List.setIfInBounds_toArray, List.set_cons_zero, List.set_cons_succ]
    refine anyR_takeG Later.pre 11 (.agg #[.int .u8 p, .int .u32 s, .int .u32 d, .int .u16 (kyp p a), .int .u16 b]) rfl (by kernel_rfl) (by kernel_rfl) (by kernel_rfl) (fun _ _ _ h => h) (by rfl) (fun w1 hw1 => goes_call 16 #[.agg #[.int .u8 p, .int .u32 s, .int .u32 d, .int .u16 (kyp p a), .int .u16 b]] (by go_simp) ((key_twice p s d a b w1).mono fun e w2 h => h)) ?_
    simp only [Act.put, List.setIfInBounds_toArray, List.set_cons_zero, List.set_cons_succ]
    refine anyR_valG Later.pre 12 rfl (by kernel_rfl) (by kernel_rfl) (by kernel_rfl) (fun _ _ _ _ h => h) (by rfl) ?_; apply Exists.intro; refine ⟨fun w1 hw1 => ?_, ?_⟩; (· (go_simp; rfl)); simp only [Act.put, List.setIfInBounds_toArray, List.set_cons_zero, List.set_cons_succ]
    refine anyR_takeG Later.pre 13 (.agg #[.int .u8 p, .int .u32 s, .int .u32 d, .int .u16 (kyp p a), .int .u16 b]) rfl (by kernel_rfl) (by kernel_rfl) (by kernel_rfl) (fun _ _ _ h => h) (by rfl) (fun w1 hw1 => goes_call 16 #[.agg #[.int .u8 p, .int .u32 s, .int .u32 d, .int .u16 a, .int .u16 b]] (by go_simp) ((key_any p s d a b w1).mono fun e w2 h => h)) ?_
    simp only [Act.put, List.setIfInBounds_toArray, List.set_cons_zero, List.set_cons_succ]
    refine anyR_takeG Later.pre 14 (.bool true) rfl (by kernel_rfl) (by kernel_rfl) (by kernel_rfl) (fun _ _ _ h => h) (by rfl) (fun w1 hw1 => goes_val Later.pre (by go_simp)) ?_
    simp only [Act.put, List.setIfInBounds_toArray, List.set_cons_zero, List.set_cons_succ]
    refine anyR_val Later.pre 15 rfl (by kernel_rfl) (by kernel_rfl) (by kernel_rfl) (fun _ _ _ _ h => h) rfl ?_; apply Exists.intro; refine ⟨fun w1 hw1 => ?_, ?_⟩; (· (go_simp; rfl)); simp only [Act.put, List.setIfInBounds_toArray, List.set_cons_zero, List.set_cons_succ]
    refine anyR_val Later.pre 16 rfl (by kernel_rfl) (by kernel_rfl) (by kernel_rfl) (fun _ _ _ _ h => h) rfl ?_; apply Exists.intro; refine ⟨fun w1 hw1 => ?_, ?_⟩; (· (go_simp; rfl)); simp only [Act.put, List.setIfInBounds_toArray, List.set_cons_zero, List.set_cons_succ]
    refine anyR_valG Later.pre 17 rfl (by kernel_rfl) (by kernel_rfl) (by kernel_rfl) (fun _ _ _ _ h => h) (by rfl) ?_; apply Exists.intro; refine ⟨fun w1 hw1 => ?_, ?_⟩; (· (go_simp; rfl)); simp only [Act.put, List.setIfInBounds_toArray, List.set_cons_zero, List.set_cons_succ]
    refine anyR_takeG Later.pre 18 (.agg #[.int .u8 p, .int .u32 s, .int .u32 d, .int .u16 (kyp p a), .int .u16 b]) rfl (by kernel_rfl) (by kernel_rfl) (by kernel_rfl) (fun _ _ _ h => h) (by rfl) (fun w1 hw1 => goes_call 16 #[.agg #[.int .u8 p, .int .u32 s, .int .u32 d, .int .u16 a, .int .u16 b]] (by go_simp) ((key_any p s d a b w1).mono fun e w2 h => h)) ?_
    simp only [Act.put, List.setIfInBounds_toArray, List.set_cons_zero, List.set_cons_succ]
    refine anyR_valG Later.pre 19 rfl (by kernel_rfl) (by kernel_rfl) (by kernel_rfl) (fun _ _ _ _ h => h) (by rfl) ?_; apply Exists.intro; refine ⟨fun w1 hw1 => ?_, ?_⟩; (· (go_simp; rfl)); simp only [Act.put, List.setIfInBounds_toArray, List.set_cons_zero, List.set_cons_succ]
    by_cases heq : p = p2 ∧ s = s2 ∧ d = d2 ∧ kyp p a = kyp p2 a2 ∧ b = b2
    · obtain ⟨rfl, rfl, rfl, hka, rfl⟩ := heq
      have HKA := hide hka.symm
      clear hka
      refine anyR_takeG Later.pre 20 (.agg #[.int .u8 p, .int .u32 s, .int .u32 d, .int .u16 (kyp p a), .int .u16 b]) rfl (by kernel_rfl) (by kernel_rfl) (by kernel_rfl) (fun _ _ _ h => h) (by rfl) (fun w1 hw1 => goes_call 16 #[.agg #[.int .u8 p, .int .u32 s, .int .u32 d, .int .u16 a2, .int .u16 b]] (by go_simp) ((key_eq p s d a a2 b HKA.out w1).mono fun e w2 h => h)) ?_
      simp only [Act.put, List.setIfInBounds_toArray, List.set_cons_zero, List.set_cons_succ]
      refine anyR_takeG Later.pre 21 (.bool false) rfl (by kernel_rfl) (by kernel_rfl) (by kernel_rfl) (fun _ _ _ h => h) (by rfl) (fun w1 hw1 => goes_val Later.pre (by go_simp)) ?_
      simp only [Act.put, List.setIfInBounds_toArray, List.set_cons_zero, List.set_cons_succ]
      refine anyR_valG Later.pre 22 rfl (by kernel_rfl) (by kernel_rfl) (by kernel_rfl) (fun _ _ _ _ h => h) (by rfl) ?_; apply Exists.intro; refine ⟨fun w1 hw1 => ?_, ?_⟩; (· (go_simp; rfl)); simp only [Act.put, List.setIfInBounds_toArray, List.set_cons_zero, List.set_cons_succ]
      refine anyR_valG Later.pre 23 rfl (by kernel_rfl) (by kernel_rfl) (by kernel_rfl) (fun _ _ _ _ h => h) (by rfl) ?_; apply Exists.intro; refine ⟨fun w1 hw1 => ?_, ?_⟩; (· (go_simp; rfl)); simp only [Act.put, List.setIfInBounds_toArray, List.set_cons_zero, List.set_cons_succ]
      refine anyR_takeG Later.pre 24 (.int .u32 (hsh (tb p s d (kyp p a) b))) rfl (by kernel_rfl) (by kernel_rfl) (by kernel_rfl) (fun _ _ _ h => h) (by rfl) (fun w1 hw1 => goes_call 18 #[.agg #[.int .u8 p, .int .u32 s, .int .u32 d, .int .u16 a, .int .u16 b]] (by go_simp) ((hash_any p s d a b w1 hs hd ha hb).mono fun e w2 h => h)) ?_
      simp only [Act.put, List.setIfInBounds_toArray, List.set_cons_zero, List.set_cons_succ]
      refine anyR_valG Later.pre 25 rfl (by kernel_rfl) (by kernel_rfl) (by kernel_rfl) (fun _ _ _ _ h => h) (by rfl) ?_; apply Exists.intro; refine ⟨fun w1 hw1 => ?_, ?_⟩; (· (go_simp; rfl)); simp only [Act.put, List.setIfInBounds_toArray, List.set_cons_zero, List.set_cons_succ]
      refine anyR_takeG Later.pre 26 (.int .u32 (hsh (tb p s d (kyp p a) b))) rfl (by kernel_rfl) (by kernel_rfl) (by kernel_rfl) (fun _ _ _ h => h) (by rfl) (fun w1 hw1 => goes_call 18 #[.agg #[.int .u8 p, .int .u32 s, .int .u32 d, .int .u16 a2, .int .u16 b]] (by go_simp) ((hash_eq p s d a a2 b HKA.out w1 hs hd ha2 hb).mono fun e w2 h => h)) ?_
      simp only [Act.put, List.setIfInBounds_toArray, List.set_cons_zero, List.set_cons_succ]
      refine anyR_takeG Later.pre 27 (.bool true) rfl (by kernel_rfl) (by kernel_rfl) (by kernel_rfl) (fun _ _ _ h => h) (by rfl) (fun w1 hw1 => goes_val Later.pre (by go_simp)) ?_
      simp only [Act.put, List.setIfInBounds_toArray, List.set_cons_zero, List.set_cons_succ]
      refine anyR_valG Later.pre 28 rfl (by kernel_rfl) (by kernel_rfl) (by kernel_rfl) (fun _ _ _ _ h => h) (by rfl) ?_; apply Exists.intro; refine ⟨fun w1 hw1 => ?_, ?_⟩; (· (go_simp; rfl)); simp only [Act.put, List.setIfInBounds_toArray, List.set_cons_zero, List.set_cons_succ]
      refine anyR_val Later.pre 29 rfl (by kernel_rfl) (by kernel_rfl) (by kernel_rfl) (fun _ _ _ _ h => h) rfl ?_; apply Exists.intro; refine ⟨fun w1 hw1 => ?_, ?_⟩; (· (go_simp; rfl)); simp only [Act.put, List.setIfInBounds_toArray, List.set_cons_zero, List.set_cons_succ]
      refine anyR_val Later.pre 30 rfl (by kernel_rfl) (by kernel_rfl) (by kernel_rfl) (fun _ _ _ _ h => h) rfl ?_; apply Exists.intro; refine ⟨fun w1 hw1 => ?_, ?_⟩; (· (go_simp; rfl)); simp only [Act.put, List.setIfInBounds_toArray, List.set_cons_zero, List.set_cons_succ]
      refine anyR_done (by kernel_rfl) (fun W6 hW6 => ?_)
      have hl6 : Later w0 W6 := hW1.trans hW6
      clear hc hc2
      go_wp2_with fail
      go_meet
      exact ⟨rfl, hl6⟩
    · have HNE := hide heq
      clear heq
      refine anyR_takeG Later.pre 20 (.agg #[.int .u8 p2, .int .u32 s2, .int .u32 d2, .int .u16 (kyp p2 a2), .int .u16 b2]) rfl (by kernel_rfl) (by kernel_rfl) (by kernel_rfl) (fun _ _ _ h => h) (by rfl) (fun w1 hw1 => goes_call 16 #[.agg #[.int .u8 p2, .int .u32 s2, .int .u32 d2, .int .u16 a2, .int .u16 b2]] (by go_simp) ((key_any p2 s2 d2 a2 b2 w1).mono fun e w2 h => h)) ?_
      simp only [Act.put, List.setIfInBounds_toArray, List.set_cons_zero, List.set_cons_succ]
      refine anyR_takeG Later.pre 21 (.bool true) rfl (by kernel_rfl) (by kernel_rfl) (by kernel_rfl) (fun _ _ _ h => h) (by rfl) (fun w1 hw1 => goes_val Later.pre (by go_simp; exact fun h1 h2 h3 h4 h5 => HNE.out ⟨h1, h2, h3, h4, h5⟩)) ?_
      simp only [Act.put, List.setIfInBounds_toArray, List.set_cons_zero, List.set_cons_succ]
      refine anyR_valG Later.pre 22 rfl (by kernel_rfl) (by kernel_rfl) (by kernel_rfl) (fun _ _ _ _ h => h) (by rfl) ?_; apply Exists.intro; refine ⟨fun w1 hw1 => ?_, ?_⟩; (· (go_simp; rfl)); simp only [Act.put, List.setIfInBounds_toArray, List.set_cons_zero, List.set_cons_succ]
      refine anyR_skip Later.pre 23 rfl (by kernel_rfl) (by kernel_rfl) (by kernel_rfl) (fun _ _ _ h => h) (by rfl) ?_
      simp only [Act.put, List.setIfInBounds_toArray, List.set_cons_zero, List.set_cons_succ]
      refine anyR_skip Later.pre 24 rfl (by kernel_rfl) (by kernel_rfl) (by kernel_rfl) (fun _ _ _ h => h) (by rfl) ?_
      simp only [Act.put, List.setIfInBounds_toArray, List.set_cons_zero, List.set_cons_succ]
      refine anyR_skip Later.pre 25 rfl (by kernel_rfl) (by kernel_rfl) (by kernel_rfl) (fun _ _ _ h => h) (by rfl) ?_
      simp only [Act.put, List.setIfInBounds_toArray, List.set_cons_zero, List.set_cons_succ]
      refine anyR_skip Later.pre 26 rfl (by kernel_rfl) (by kernel_rfl) (by kernel_rfl) (fun _ _ _ h => h) (by rfl) ?_
      simp only [Act.put, List.setIfInBounds_toArray, List.set_cons_zero, List.set_cons_succ]
      refine anyR_skip Later.pre 27 rfl (by kernel_rfl) (by kernel_rfl) (by kernel_rfl) (fun _ _ _ h => h) (by rfl) ?_
      simp only [Act.put, List.setIfInBounds_toArray, List.set_cons_zero, List.set_cons_succ]
      refine anyR_valG Later.pre 28 rfl (by kernel_rfl) (by kernel_rfl) (by kernel_rfl) (fun _ _ _ _ h => h) (by rfl) ?_; apply Exists.intro; refine ⟨fun w1 hw1 => ?_, ?_⟩; (· (go_simp; rfl)); simp only [Act.put, List.setIfInBounds_toArray, List.set_cons_zero, List.set_cons_succ]
      refine anyR_val Later.pre 29 rfl (by kernel_rfl) (by kernel_rfl) (by kernel_rfl) (fun _ _ _ _ h => h) rfl ?_; apply Exists.intro; refine ⟨fun w1 hw1 => ?_, ?_⟩; (· (go_simp; rfl)); simp only [Act.put, List.setIfInBounds_toArray, List.set_cons_zero, List.set_cons_succ]
      refine anyR_val Later.pre 30 rfl (by kernel_rfl) (by kernel_rfl) (by kernel_rfl) (fun _ _ _ _ h => h) rfl ?_; apply Exists.intro; refine ⟨fun w1 hw1 => ?_, ?_⟩; (· (go_simp; rfl)); simp only [Act.put, List.setIfInBounds_toArray, List.set_cons_zero, List.set_cons_succ]
      refine anyR_done (by kernel_rfl) (fun W6 hW6 => ?_)
      have hl6 : Later w0 W6 := hW1.trans hW6
      clear hc hc2
      go_wp2_with fail
      go_meet
      exact ⟨rfl, hl6⟩
  case rest =>
    obtain ⟨rfl, hlx⟩ := hcut
    have hwx := hb0.trans (hlx.mono hb0.size)
    go_wp2_with fail
    go_ret
    exact ⟨rfl, hwx⟩
end Go.Proofs.YtojoaidnkljcpaaDoor
