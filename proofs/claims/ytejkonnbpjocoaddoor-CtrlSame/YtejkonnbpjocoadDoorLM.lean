/- The walk of the law CtrlSame. -/
import Derived.Test.YtejkonnbpjocoadDoorRh
import Derived.Test.YtejkonnbpjocoadDoorCJ
namespace Go.Proofs.YtejkonnbpjocoadDoor
open Go.RowKit Go.Shelf
set_option maxRecDepth 100000
set_option linter.unusedVariables false
set_option linter.unusedSimpArgs false

theorem smI_comm (a b c d e f : Int) (x y : List Int) : smI a b c d e f x y = smI d e f a b c y x := by
  unfold smI
  rw [Bool.eq_iff_iff]
  simp
  constructor <;> (rintro ⟨rfl, rfl, rfl, rfl⟩; exact ⟨rfl, rfl, rfl, rfl⟩)

set_option maxHeartbeats 8000000 in
theorem walk_CtrlSame (w : World) (hT : Tb w) (ty1 cde1 rest1 : Int) (sm1 : Value) (zm1 : List Int) (hB1 : Mt.By zm1) (hM1 : Rd w.heap.size w sm1 zm1) (hlm1 : zm1.length ≤ 140737488351232) (hty1 : 0 ≤ ty1 ∧ ty1 ≤ 255) (hcd1 : 0 ≤ cde1 ∧ cde1 ≤ 255) (hre1 : 0 ≤ rest1 ∧ rest1 ≤ 4294967295)
    (ty2 cde2 rest2 : Int) (sm2 : Value) (zm2 : List Int) (hB2 : Mt.By zm2) (hM2 : Rd w.heap.size w sm2 zm2) (hlm2 : zm2.length ≤ 140737488351232) (hty2 : 0 ≤ ty2 ∧ ty2 ≤ 255) (hcd2 : 0 ≤ cde2 ∧ cde2 ≤ 255) (hre2 : 0 ≤ rest2 ∧ rest2 ≤ 4294967295)
    (cl1 sq1 ak1 : Int) (hs1 ha1 : Bool) (sf1 : Value) (zf1 : List Int) (cl2 sq2 ak2 : Int) (hs2 ha2 : Bool) (sf2 : Value) (zf2 : List Int) (hC1 : Mt.By zf1) (hF1 : Rd w.heap.size w sf1 zf1) (hC2 : Mt.By zf2) (hF2 : Rd w.heap.size w sf2 zf2) (g1 : 0 ≤ cl1 ∧ cl1 ≤ 65535) (g2 : 0 ≤ sq1 ∧ sq1 ≤ 4294967295) (g3 : 0 ≤ ak1 ∧ ak1 ≤ 4294967295) (g4 : 0 ≤ cl2 ∧ cl2 ≤ 65535) (g5 : 0 ≤ sq2 ∧ sq2 ≤ 4294967295) (g6 : 0 ≤ ak2 ∧ ak2 ≤ 4294967295) :
    Calls Tryd.prog 4 #[.agg #[.int .u8 ty1, .int .u8 cde1, .int .u32 rest1, sm1], .agg #[.int .u8 ty2, .int .u8 cde2, .int .u32 rest2, sm2], .agg #[.int .u16 cl1, .bool hs1, .bool ha1, .int .u32 sq1, .int .u32 ak1, sf1, .int .u16 cl2, .bool hs2, .bool ha2, .int .u32 sq2, .int .u32 ak2, sf2]] w fun e w' => e = .returned (.bool true) ∧ Below w.heap.size w w' := by
  obtain ⟨am1, cm1, rfl, _, _⟩ := hM1.slice
  obtain ⟨am2, cm2, rfl, _, _⟩ := hM2.slice
  obtain ⟨af1, cf1, rfl, _, _⟩ := hF1.slice
  obtain ⟨af2, cf2, rfl, _, _⟩ := hF2.slice
  obtain ⟨X, HX⟩ : ∃ X : Bool, Hid (smI ty1 cde1 rest1 ty2 cde2 rest2 zm1 zm2 = X) := ⟨_, rfl⟩
  obtain ⟨Y, HY⟩ : ∃ Y : Bool, Hid (smG cl1 hs1 ha1 sq1 ak1 cl2 hs2 ha2 sq2 ak2 zf1 zf2 = Y) := ⟨_, rfl⟩
  have hb0 : Below w.heap.size w (((w.alloc (.cells #[.int .u8 ty1, .int .u8 cde1, .int .u32 rest1, .slice am1 zm1.length cm1] 36)).alloc (.cells #[.int .u8 ty2, .int .u8 cde2, .int .u32 rest2, .slice am2 zm2.length cm2] 36)).alloc (.cells #[.int .u16 cl1, .bool hs1, .bool ha1, .int .u32 sq1, .int .u32 ak1, .slice af1 zf1.length cf1, .int .u16 cl2, .bool hs2, .bool ha2, .int .u32 sq2, .int .u32 ak2, .slice af2 zf2.length cf2] 37)) := (((Below.refl _ _).alloc (Nat.le_refl _) _).alloc (by simp) _).alloc (by simp; omega) _
  have p0 : (((w.alloc (.cells #[.int .u8 ty1, .int .u8 cde1, .int .u32 rest1, .slice am1 zm1.length cm1] 36)).alloc (.cells #[.int .u8 ty2, .int .u8 cde2, .int .u32 rest2, .slice am2 zm2.length cm2] 36)).alloc (.cells #[.int .u16 cl1, .bool hs1, .bool ha1, .int .u32 sq1, .int .u32 ak1, .slice af1 zf1.length cf1, .int .u16 cl2, .bool hs2, .bool ha2, .int .u32 sq2, .int .u32 ak2, .slice af2 zf2.length cf2] 37)).heap[w.heap.size]? = some (.cells #[.int .u8 ty1, .int .u8 cde1, .int .u32 rest1, .slice am1 zm1.length cm1] 36) := (Below.heap_alloc _ _ _ (by simp; omega)).trans ((Below.heap_alloc _ _ _ (by simp)).trans (heap_alloc_new w _))
  have q0 : (((w.alloc (.cells #[.int .u8 ty1, .int .u8 cde1, .int .u32 rest1, .slice am1 zm1.length cm1] 36)).alloc (.cells #[.int .u8 ty2, .int .u8 cde2, .int .u32 rest2, .slice am2 zm2.length cm2] 36)).alloc (.cells #[.int .u16 cl1, .bool hs1, .bool ha1, .int .u32 sq1, .int .u32 ak1, .slice af1 zf1.length cf1, .int .u16 cl2, .bool hs2, .bool ha2, .int .u32 sq2, .int .u32 ak2, .slice af2 zf2.length cf2] 37)).heap[w.heap.size + 1]? = some (.cells #[.int .u8 ty2, .int .u8 cde2, .int .u32 rest2, .slice am2 zm2.length cm2] 36) := by
    have := heap_alloc_new (w.alloc (.cells #[.int .u8 ty1, .int .u8 cde1, .int .u32 rest1, .slice am1 zm1.length cm1] 36)) (.cells #[.int .u8 ty2, .int .u8 cde2, .int .u32 rest2, .slice am2 zm2.length cm2] 36)
    rw [World.size_alloc] at this
    exact (Below.heap_alloc _ _ _ (by simp)).trans this
  have r0 : (((w.alloc (.cells #[.int .u8 ty1, .int .u8 cde1, .int .u32 rest1, .slice am1 zm1.length cm1] 36)).alloc (.cells #[.int .u8 ty2, .int .u8 cde2, .int .u32 rest2, .slice am2 zm2.length cm2] 36)).alloc (.cells #[.int .u16 cl1, .bool hs1, .bool ha1, .int .u32 sq1, .int .u32 ak1, .slice af1 zf1.length cf1, .int .u16 cl2, .bool hs2, .bool ha2, .int .u32 sq2, .int .u32 ak2, .slice af2 zf2.length cf2] 37)).heap[w.heap.size + 1 + 1]? = some (.cells #[.int .u16 cl1, .bool hs1, .bool ha1, .int .u32 sq1, .int .u32 ak1, .slice af1 zf1.length cf1, .int .u16 cl2, .bool hs2, .bool ha2, .int .u32 sq2, .int .u32 ak2, .slice af2 zf2.length cf2] 37 (0, 0)) := by
    have := heap_alloc_new ((w.alloc (.cells #[.int .u8 ty1, .int .u8 cde1, .int .u32 rest1, .slice am1 zm1.length cm1] 36)).alloc (.cells #[.int .u8 ty2, .int .u8 cde2, .int .u32 rest2, .slice am2 zm2.length cm2] 36)) (.cells #[.int .u16 cl1, .bool hs1, .bool ha1, .int .u32 sq1, .int .u32 ak1, .slice af1 zf1.length cf1, .int .u16 cl2, .bool hs2, .bool ha2, .int .u32 sq2, .int .u32 ak2, .slice af2 zf2.length cf2] 37)
    simpa using this
  have hs0 : (((w.alloc (.cells #[.int .u8 ty1, .int .u8 cde1, .int .u32 rest1, .slice am1 zm1.length cm1] 36)).alloc (.cells #[.int .u8 ty2, .int .u8 cde2, .int .u32 rest2, .slice am2 zm2.length cm2] 36)).alloc (.cells #[.int .u16 cl1, .bool hs1, .bool ha1, .int .u32 sq1, .int .u32 ak1, .slice af1 zf1.length cf1, .int .u16 cl2, .bool hs2, .bool ha2, .int .u32 sq2, .int .u32 ak2, .slice af2 zf2.length cf2] 37)).heap.size = w.heap.size + 3 := by simp
  have P0 := hide p0
  have Q0 := hide q0
  have R0 := hide r0
  have HS := hide hs0
  clear p0 q0 r0 hs0
  go_enter Tryd.func4, Tryd.ntmps4
  go_wp2_with fail
  generalize ((w.alloc (.cells #[.int .u8 ty1, .int .u8 cde1, .int .u32 rest1, .slice am1 zm1.length cm1] 36)).alloc (.cells #[.int .u8 ty2, .int .u8 cde2, .int .u32 rest2, .slice am2 zm2.length cm2] 36)).alloc (.cells #[.int .u16 cl1, .bool hs1, .bool ha1, .int .u32 sq1, .int .u32 ak1, .slice af1 zf1.length cf1, .int .u16 cl2, .bool hs2, .bool ha2, .int .u32 sq2, .int .u32 ak2, .slice af2 zf2.length cf2] 37) = W0 at *
  refine anyR_begin (R := Later) Later.pre Later.drew 45 rfl (by kernel_rfl) (fun W1 hW1 => ?_)
  have hl : ∀ v1, Later W1 v1 → Later W0 v1 := fun v1 h => hW1.trans h
  have hbel : ∀ v1, Later W1 v1 → Below w.heap.size w v1 := fun v1 h => hb0.trans ((hl v1 h).mono hb0.size)
  have rm1 : ∀ v1, Later W1 v1 → Rd v1.heap.size v1 (.slice am1 zm1.length cm1) zm1 := fun v1 h => (hM1.below (hbel v1 h)).mono (hbel v1 h).size
  have rm2 : ∀ v1, Later W1 v1 → Rd v1.heap.size v1 (.slice am2 zm2.length cm2) zm2 := fun v1 h => (hM2.below (hbel v1 h)).mono (hbel v1 h).size
  have rf1 : ∀ v1, Later W1 v1 → Rd v1.heap.size v1 (.slice af1 zf1.length cf1) zf1 := fun v1 h => (hF1.below (hbel v1 h)).mono (hbel v1 h).size
  have rf2 : ∀ v1, Later W1 v1 → Rd v1.heap.size v1 (.slice af2 zf2.length cf2) zf2 := fun v1 h => (hF2.below (hbel v1 h)).mono (hbel v1 h).size
  have kp : ∀ v1, Later W1 v1 → ∀ j, v1.cell? ⟨w.heap.size, j, none⟩ = #[Value.int .u8 ty1, .int .u8 cde1, .int .u32 rest1, .slice am1 zm1.length cm1][j]? := fun v1 h => block_cell (((hl v1 h).block w.heap.size (by have := HS.out; omega)).trans P0.out)
  have kq : ∀ v1, Later W1 v1 → ∀ j, v1.cell? ⟨w.heap.size + 1, j, none⟩ = #[Value.int .u8 ty2, .int .u8 cde2, .int .u32 rest2, .slice am2 zm2.length cm2][j]? := fun v1 h => block_cell (((hl v1 h).block (w.heap.size + 1) (by have := HS.out; omega)).trans Q0.out)
  have kr : ∀ v1, Later W1 v1 → ∀ j, v1.cell? ⟨w.heap.size + 1 + 1, j, none⟩ = #[Value.int .u16 cl1, .bool hs1, .bool ha1, .int .u32 sq1, .int .u32 ak1, .slice af1 zf1.length cf1, .int .u16 cl2, .bool hs2, .bool ha2, .int .u32 sq2, .int .u32 ak2, .slice af2 zf2.length cf2][j]? := fun v1 h => block_cell (((hl v1 h).block (w.heap.size + 1 + 1) (by have := HS.out; omega)).trans R0.out)
  refine anyR_takeG Later.pre 0 (.bool true) rfl (by kernel_rfl) (by kernel_rfl) (by kernel_rfl) (fun _ _ _ h => h) (by rfl) (fun v1 hv1 => goes_call 6 #[] (by go_simp) ?_) ?_
  · exact live4_any v1 (hT.below (hbel v1 hv1) hT.pos)
  simp only [Act.put, List.setIfInBounds_toArray, List.set_cons_zero, List.set_cons_succ]
  refine anyR_valG Later.pre 1 rfl (by kernel_rfl) (by kernel_rfl) (by kernel_rfl) (fun _ _ _ _ h => h) (by rfl) ?_; apply Exists.intro; refine ⟨fun v1 hv1 => ?_, ?_⟩; (· (go_simp; rfl)); simp only [Act.put, List.setIfInBounds_toArray, List.set_cons_zero, List.set_cons_succ]
  refine anyR_valG Later.pre 2 rfl (by kernel_rfl) (by kernel_rfl) (by kernel_rfl) (fun _ _ _ _ h => h) (by rfl) ?_; apply Exists.intro; refine ⟨fun v1 hv1 => ?_, ?_⟩; (· (go_simp; rfl)); simp only [Act.put, List.setIfInBounds_toArray, List.set_cons_zero, List.set_cons_succ]
  refine anyR_valG Later.pre 3 rfl (by kernel_rfl) (by kernel_rfl) (by kernel_rfl) (fun _ _ _ _ h => h) (by rfl) ?_; apply Exists.intro; refine ⟨fun v1 hv1 => ?_, ?_⟩; (· (go_simp; rfl)); simp only [Act.put, List.setIfInBounds_toArray, List.set_cons_zero, List.set_cons_succ]
  refine anyR_takeG Later.pre 4 (.bool X) rfl (by kernel_rfl) (by kernel_rfl) (by kernel_rfl) (fun _ _ _ h => h) (by rfl) (fun v1 hv1 => goes_call 8 #[.agg #[.int .u8 ty1, .int .u8 cde1, .int .u32 rest1, .slice am1 zm1.length cm1], .agg #[.int .u8 ty2, .int .u8 cde2, .int .u32 rest2, .slice am2 zm2.length cm2]] (by go_simp) ?_) ?_
  · rw [← HX.out]; exact (sameIcmp_any ty1 cde1 rest1 ty2 cde2 rest2 _ _ zm1 zm2 v1 hB1 hB2 (rm1 v1 hv1) (rm2 v1 hv1))
  simp only [Act.put, List.setIfInBounds_toArray, List.set_cons_zero, List.set_cons_succ]
  refine anyR_valG Later.pre 5 rfl (by kernel_rfl) (by kernel_rfl) (by kernel_rfl) (fun _ _ _ _ h => h) (by rfl) ?_; apply Exists.intro; refine ⟨fun v1 hv1 => ?_, ?_⟩; (· (go_simp; rfl)); simp only [Act.put, List.setIfInBounds_toArray, List.set_cons_zero, List.set_cons_succ]
  refine anyR_valG Later.pre 6 rfl (by kernel_rfl) (by kernel_rfl) (by kernel_rfl) (fun _ _ _ _ h => h) (by rfl) ?_; apply Exists.intro; refine ⟨fun v1 hv1 => ?_, ?_⟩; (· (go_simp; rfl)); simp only [Act.put, List.setIfInBounds_toArray, List.set_cons_zero, List.set_cons_succ]
  refine anyR_takeG Later.pre 7 (.bool X) rfl (by kernel_rfl) (by kernel_rfl) (by kernel_rfl) (fun _ _ _ h => h) (by rfl) (fun v1 hv1 => goes_call 9 #[.agg #[.int .u8 ty1, .int .u8 cde1, .int .u32 rest1, .slice am1 zm1.length cm1], .agg #[.int .u8 ty2, .int .u8 cde2, .int .u32 rest2, .slice am2 zm2.length cm2]] (by go_simp) ?_) ?_
  · rw [← HX.out]; exact (rsameIcmp_any ty1 cde1 rest1 ty2 cde2 rest2 _ _ zm1 zm2 v1 hB1 hB2 (rm1 v1 hv1) (rm2 v1 hv1))
  simp only [Act.put, List.setIfInBounds_toArray, List.set_cons_zero, List.set_cons_succ]
  refine anyR_takeG Later.pre 8 (.bool true) rfl (by kernel_rfl) (by kernel_rfl) (by kernel_rfl) (fun _ _ _ h => h) (by rfl) (fun v1 hv1 => goes_val Later.pre (by go_simp)) ?_; simp only [Act.put, List.setIfInBounds_toArray, List.set_cons_zero, List.set_cons_succ]
  refine anyR_valG Later.pre 9 rfl (by kernel_rfl) (by kernel_rfl) (by kernel_rfl) (fun _ _ _ _ h => h) (by rfl) ?_; apply Exists.intro; refine ⟨fun v1 hv1 => ?_, ?_⟩; (· (go_simp; rfl)); simp only [Act.put, List.setIfInBounds_toArray, List.set_cons_zero, List.set_cons_succ]
  refine anyR_valG Later.pre 10 rfl (by kernel_rfl) (by kernel_rfl) (by kernel_rfl) (fun _ _ _ _ h => h) (by rfl) ?_; apply Exists.intro; refine ⟨fun v1 hv1 => ?_, ?_⟩; (· (go_simp; rfl)); simp only [Act.put, List.setIfInBounds_toArray, List.set_cons_zero, List.set_cons_succ]
  refine anyR_valG Later.pre 11 rfl (by kernel_rfl) (by kernel_rfl) (by kernel_rfl) (fun _ _ _ _ h => h) (by rfl) ?_; apply Exists.intro; refine ⟨fun v1 hv1 => ?_, ?_⟩; (· (go_simp; rfl)); simp only [Act.put, List.setIfInBounds_toArray, List.set_cons_zero, List.set_cons_succ]
  refine anyR_valG Later.pre 12 rfl (by kernel_rfl) (by kernel_rfl) (by kernel_rfl) (fun _ _ _ _ h => h) (by rfl) ?_; apply Exists.intro; refine ⟨fun v1 hv1 => ?_, ?_⟩; (· (go_simp; rfl)); simp only [Act.put, List.setIfInBounds_toArray, List.set_cons_zero, List.set_cons_succ]
  refine anyR_takeG Later.pre 13 (.bool X) rfl (by kernel_rfl) (by kernel_rfl) (by kernel_rfl) (fun _ _ _ h => h) (by rfl) (fun v1 hv1 => goes_call 8 #[.agg #[.int .u8 ty1, .int .u8 cde1, .int .u32 rest1, .slice am1 zm1.length cm1], .agg #[.int .u8 ty2, .int .u8 cde2, .int .u32 rest2, .slice am2 zm2.length cm2]] (by go_simp) ?_) ?_
  · rw [← HX.out]; exact (sameIcmp_any ty1 cde1 rest1 ty2 cde2 rest2 _ _ zm1 zm2 v1 hB1 hB2 (rm1 v1 hv1) (rm2 v1 hv1))
  simp only [Act.put, List.setIfInBounds_toArray, List.set_cons_zero, List.set_cons_succ]
  refine anyR_valG Later.pre 14 rfl (by kernel_rfl) (by kernel_rfl) (by kernel_rfl) (fun _ _ _ _ h => h) (by rfl) ?_; apply Exists.intro; refine ⟨fun v1 hv1 => ?_, ?_⟩; (· (go_simp; rfl)); simp only [Act.put, List.setIfInBounds_toArray, List.set_cons_zero, List.set_cons_succ]
  refine anyR_valG Later.pre 15 rfl (by kernel_rfl) (by kernel_rfl) (by kernel_rfl) (fun _ _ _ _ h => h) (by rfl) ?_; apply Exists.intro; refine ⟨fun v1 hv1 => ?_, ?_⟩; (· (go_simp; rfl)); simp only [Act.put, List.setIfInBounds_toArray, List.set_cons_zero, List.set_cons_succ]
  refine anyR_takeG Later.pre 16 (.bool X) rfl (by kernel_rfl) (by kernel_rfl) (by kernel_rfl) (fun _ _ _ h => h) (by rfl) (fun v1 hv1 => goes_call 8 #[.agg #[.int .u8 ty2, .int .u8 cde2, .int .u32 rest2, .slice am2 zm2.length cm2], .agg #[.int .u8 ty1, .int .u8 cde1, .int .u32 rest1, .slice am1 zm1.length cm1]] (by go_simp) ?_) ?_
  · rw [← HX.out, smI_comm]; exact (sameIcmp_any ty2 cde2 rest2 ty1 cde1 rest1 _ _ zm2 zm1 v1 hB2 hB1 (rm2 v1 hv1) (rm1 v1 hv1))
  simp only [Act.put, List.setIfInBounds_toArray, List.set_cons_zero, List.set_cons_succ]
  refine anyR_takeG Later.pre 17 (.bool true) rfl (by kernel_rfl) (by kernel_rfl) (by kernel_rfl) (fun _ _ _ h => h) (by rfl) (fun v1 hv1 => goes_val Later.pre (by go_simp)) ?_; simp only [Act.put, List.setIfInBounds_toArray, List.set_cons_zero, List.set_cons_succ]
  refine anyR_valG Later.pre 18 rfl (by kernel_rfl) (by kernel_rfl) (by kernel_rfl) (fun _ _ _ _ h => h) (by rfl) ?_; apply Exists.intro; refine ⟨fun v1 hv1 => ?_, ?_⟩; (· (go_simp; rfl)); simp only [Act.put, List.setIfInBounds_toArray, List.set_cons_zero, List.set_cons_succ]
  refine anyR_valG Later.pre 19 rfl (by kernel_rfl) (by kernel_rfl) (by kernel_rfl) (fun _ _ _ _ h => h) (by rfl) ?_; apply Exists.intro; refine ⟨fun v1 hv1 => ?_, ?_⟩; (· (go_simp; rfl)); simp only [Act.put, List.setIfInBounds_toArray, List.set_cons_zero, List.set_cons_succ]
  refine anyR_valG Later.pre 20 rfl (by kernel_rfl) (by kernel_rfl) (by kernel_rfl) (fun _ _ _ _ h => h) (by rfl) ?_; apply Exists.intro; refine ⟨fun v1 hv1 => ?_, ?_⟩; (· (go_simp; rfl)); simp only [Act.put, List.setIfInBounds_toArray, List.set_cons_zero, List.set_cons_succ]
  refine anyR_valG Later.pre 21 rfl (by kernel_rfl) (by kernel_rfl) (by kernel_rfl) (fun _ _ _ _ h => h) (by rfl) ?_; apply Exists.intro; refine ⟨fun v1 hv1 => ?_, ?_⟩; (· (go_simp; rfl)); simp only [Act.put, List.setIfInBounds_toArray, List.set_cons_zero, List.set_cons_succ]
  refine anyR_takeG Later.pre 22 (.bool true) rfl (by kernel_rfl) (by kernel_rfl) (by kernel_rfl) (fun _ _ _ h => h) (by rfl) (fun v1 hv1 => goes_call 8 #[.agg #[.int .u8 ty1, .int .u8 cde1, .int .u32 rest1, .slice am1 zm1.length cm1], .agg #[.int .u8 ty1, .int .u8 cde1, .int .u32 rest1, .slice am1 zm1.length cm1]] (by go_simp) ?_) ?_
  · rw [← smI_self ty1 cde1 rest1 zm1]; exact (sameIcmp_any ty1 cde1 rest1 ty1 cde1 rest1 _ _ zm1 zm1 v1 hB1 hB1 (rm1 v1 hv1) (rm1 v1 hv1))
  simp only [Act.put, List.setIfInBounds_toArray, List.set_cons_zero, List.set_cons_succ]
  refine anyR_valG Later.pre 23 rfl (by kernel_rfl) (by kernel_rfl) (by kernel_rfl) (fun _ _ _ _ h => h) (by rfl) ?_; apply Exists.intro; refine ⟨fun v1 hv1 => ?_, ?_⟩; (· (go_simp; rfl)); simp only [Act.put, List.setIfInBounds_toArray, List.set_cons_zero, List.set_cons_succ]
  refine anyR_valG Later.pre 24 rfl (by kernel_rfl) (by kernel_rfl) (by kernel_rfl) (fun _ _ _ _ h => h) (by rfl) ?_; apply Exists.intro; refine ⟨fun v1 hv1 => ?_, ?_⟩; (· (go_simp; rfl)); simp only [Act.put, List.setIfInBounds_toArray, List.set_cons_zero, List.set_cons_succ]
  refine anyR_valG Later.pre 25 rfl (by kernel_rfl) (by kernel_rfl) (by kernel_rfl) (fun _ _ _ _ h => h) (by rfl) ?_; apply Exists.intro; refine ⟨fun v1 hv1 => ?_, ?_⟩; (· (go_simp; rfl)); simp only [Act.put, List.setIfInBounds_toArray, List.set_cons_zero, List.set_cons_succ]
  refine anyR_valG Later.pre 26 rfl (by kernel_rfl) (by kernel_rfl) (by kernel_rfl) (fun _ _ _ _ h => h) (by rfl) ?_; apply Exists.intro; refine ⟨fun v1 hv1 => ?_, ?_⟩; (· (go_simp; rfl)); simp only [Act.put, List.setIfInBounds_toArray, List.set_cons_zero, List.set_cons_succ]
  refine anyR_valG Later.pre 27 rfl (by kernel_rfl) (by kernel_rfl) (by kernel_rfl) (fun _ _ _ _ h => h) (by rfl) ?_; apply Exists.intro; refine ⟨fun v1 hv1 => ?_, ?_⟩; (· (go_simp; rfl)); simp only [Act.put, List.setIfInBounds_toArray, List.set_cons_zero, List.set_cons_succ]
  refine anyR_valG Later.pre 28 rfl (by kernel_rfl) (by kernel_rfl) (by kernel_rfl) (fun _ _ _ _ h => h) (by rfl) ?_; apply Exists.intro; refine ⟨fun v1 hv1 => ?_, ?_⟩; (· (go_simp; rfl)); simp only [Act.put, List.setIfInBounds_toArray, List.set_cons_zero, List.set_cons_succ]
  refine anyR_takeG Later.pre 29 (.bool Y) rfl (by kernel_rfl) (by kernel_rfl) (by kernel_rfl) (fun _ _ _ h => h) (by rfl) (fun v1 hv1 => goes_call 10 #[.agg #[.int .u16 cl1, .bool hs1, .bool ha1, .int .u32 sq1, .int .u32 ak1, .slice af1 zf1.length cf1], .agg #[.int .u16 cl2, .bool hs2, .bool ha2, .int .u32 sq2, .int .u32 ak2, .slice af2 zf2.length cf2]] (by go_simp) ?_) ?_
  · rw [← HY.out]; exact (sameGre_any cl1 sq1 ak1 cl2 sq2 ak2 hs1 ha1 hs2 ha2 _ _ zf1 zf2 v1 hC1 hC2 (rf1 v1 hv1) (rf2 v1 hv1))
  simp only [Act.put, List.setIfInBounds_toArray, List.set_cons_zero, List.set_cons_succ]
  refine anyR_valG Later.pre 30 rfl (by kernel_rfl) (by kernel_rfl) (by kernel_rfl) (fun _ _ _ _ h => h) (by rfl) ?_; apply Exists.intro; refine ⟨fun v1 hv1 => ?_, ?_⟩; (· (go_simp; rfl)); simp only [Act.put, List.setIfInBounds_toArray, List.set_cons_zero, List.set_cons_succ]
  refine anyR_valG Later.pre 31 rfl (by kernel_rfl) (by kernel_rfl) (by kernel_rfl) (fun _ _ _ _ h => h) (by rfl) ?_; apply Exists.intro; refine ⟨fun v1 hv1 => ?_, ?_⟩; (· (go_simp; rfl)); simp only [Act.put, List.setIfInBounds_toArray, List.set_cons_zero, List.set_cons_succ]
  refine anyR_valG Later.pre 32 rfl (by kernel_rfl) (by kernel_rfl) (by kernel_rfl) (fun _ _ _ _ h => h) (by rfl) ?_; apply Exists.intro; refine ⟨fun v1 hv1 => ?_, ?_⟩; (· (go_simp; rfl)); simp only [Act.put, List.setIfInBounds_toArray, List.set_cons_zero, List.set_cons_succ]
  refine anyR_valG Later.pre 33 rfl (by kernel_rfl) (by kernel_rfl) (by kernel_rfl) (fun _ _ _ _ h => h) (by rfl) ?_; apply Exists.intro; refine ⟨fun v1 hv1 => ?_, ?_⟩; (· (go_simp; rfl)); simp only [Act.put, List.setIfInBounds_toArray, List.set_cons_zero, List.set_cons_succ]
  refine anyR_takeG Later.pre 34 (.bool Y) rfl (by kernel_rfl) (by kernel_rfl) (by kernel_rfl) (fun _ _ _ h => h) (by rfl) (fun v1 hv1 => goes_call 11 #[.agg #[.int .u16 cl1, .bool hs1, .bool ha1, .int .u32 sq1, .int .u32 ak1, .slice af1 zf1.length cf1], .agg #[.int .u16 cl2, .bool hs2, .bool ha2, .int .u32 sq2, .int .u32 ak2, .slice af2 zf2.length cf2]] (by go_simp) ?_) ?_
  · rw [← HY.out]; exact (rsameGre_any cl1 sq1 ak1 cl2 sq2 ak2 hs1 ha1 hs2 ha2 _ _ zf1 zf2 v1 hC1 hC2 (rf1 v1 hv1) (rf2 v1 hv1))
  simp only [Act.put, List.setIfInBounds_toArray, List.set_cons_zero, List.set_cons_succ]
  refine anyR_takeG Later.pre 35 (.bool true) rfl (by kernel_rfl) (by kernel_rfl) (by kernel_rfl) (fun _ _ _ h => h) (by rfl) (fun v1 hv1 => goes_val Later.pre (by go_simp)) ?_; simp only [Act.put, List.setIfInBounds_toArray, List.set_cons_zero, List.set_cons_succ]
  refine anyR_valG Later.pre 36 rfl (by kernel_rfl) (by kernel_rfl) (by kernel_rfl) (fun _ _ _ _ h => h) (by rfl) ?_; apply Exists.intro; refine ⟨fun v1 hv1 => ?_, ?_⟩; (· (go_simp; rfl)); simp only [Act.put, List.setIfInBounds_toArray, List.set_cons_zero, List.set_cons_succ]
  refine anyR_valG Later.pre 37 rfl (by kernel_rfl) (by kernel_rfl) (by kernel_rfl) (fun _ _ _ _ h => h) (by rfl) ?_; apply Exists.intro; refine ⟨fun v1 hv1 => ?_, ?_⟩; (· (go_simp; rfl)); simp only [Act.put, List.setIfInBounds_toArray, List.set_cons_zero, List.set_cons_succ]
  refine anyR_valG Later.pre 38 rfl (by kernel_rfl) (by kernel_rfl) (by kernel_rfl) (fun _ _ _ _ h => h) (by rfl) ?_; apply Exists.intro; refine ⟨fun v1 hv1 => ?_, ?_⟩; (· (go_simp; rfl)); simp only [Act.put, List.setIfInBounds_toArray, List.set_cons_zero, List.set_cons_succ]
  refine anyR_valG Later.pre 39 rfl (by kernel_rfl) (by kernel_rfl) (by kernel_rfl) (fun _ _ _ _ h => h) (by rfl) ?_; apply Exists.intro; refine ⟨fun v1 hv1 => ?_, ?_⟩; (· (go_simp; rfl)); simp only [Act.put, List.setIfInBounds_toArray, List.set_cons_zero, List.set_cons_succ]
  refine anyR_valG Later.pre 40 rfl (by kernel_rfl) (by kernel_rfl) (by kernel_rfl) (fun _ _ _ _ h => h) (by rfl) ?_; apply Exists.intro; refine ⟨fun v1 hv1 => ?_, ?_⟩; (· (go_simp; rfl)); simp only [Act.put, List.setIfInBounds_toArray, List.set_cons_zero, List.set_cons_succ]
  refine anyR_valG Later.pre 41 rfl (by kernel_rfl) (by kernel_rfl) (by kernel_rfl) (fun _ _ _ _ h => h) (by rfl) ?_; apply Exists.intro; refine ⟨fun v1 hv1 => ?_, ?_⟩; (· (go_simp; rfl)); simp only [Act.put, List.setIfInBounds_toArray, List.set_cons_zero, List.set_cons_succ]
  refine anyR_takeG Later.pre 42 (.bool true) rfl (by kernel_rfl) (by kernel_rfl) (by kernel_rfl) (fun _ _ _ h => h) (by rfl) (fun v1 hv1 => goes_call 10 #[.agg #[.int .u16 cl1, .bool hs1, .bool ha1, .int .u32 sq1, .int .u32 ak1, .slice af1 zf1.length cf1], .agg #[.int .u16 cl1, .bool hs1, .bool ha1, .int .u32 sq1, .int .u32 ak1, .slice af1 zf1.length cf1]] (by go_simp) ?_) ?_
  · rw [← smG_self cl1 hs1 ha1 sq1 ak1 zf1]; exact (sameGre_any cl1 sq1 ak1 cl1 sq1 ak1 hs1 ha1 hs1 ha1 _ _ zf1 zf1 v1 hC1 hC1 (rf1 v1 hv1) (rf1 v1 hv1))
  simp only [Act.put, List.setIfInBounds_toArray, List.set_cons_zero, List.set_cons_succ]
  refine anyR_valG Later.pre 43 rfl (by kernel_rfl) (by kernel_rfl) (by kernel_rfl) (fun _ _ _ _ h => h) (by rfl) ?_; apply Exists.intro; refine ⟨fun v1 hv1 => ?_, ?_⟩; (· (go_simp; rfl)); simp only [Act.put, List.setIfInBounds_toArray, List.set_cons_zero, List.set_cons_succ]
  refine anyR_valG Later.pre 44 rfl (by kernel_rfl) (by kernel_rfl) (by kernel_rfl) (fun _ _ _ _ h => h) (by rfl) ?_; apply Exists.intro; refine ⟨fun v1 hv1 => ?_, ?_⟩; (· (go_simp; rfl)); simp only [Act.put, List.setIfInBounds_toArray, List.set_cons_zero, List.set_cons_succ]
  refine anyR_done (by kernel_rfl) (fun W8 hW8 => ?_)
  clear kp kq kr rm1 rm2 rf1 rf2
  go_wp2_with fail
  go_ret
  exact ⟨rfl, hbel W8 hW8⟩
end Go.Proofs.YtejkonnbpjocoadDoor
