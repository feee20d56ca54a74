/- The walk of SegsSame. -/
import Derived.Test.YtcjigldianobgabTH
import Derived.Test.YtcjigldianobgabTB
import Derived.Test.YtcjigldianobgabSS
namespace Go.Proofs.Ytcjigldianobgab
open Go.RowKit Go.Shelf
set_option maxRecDepth 100000
set_option linter.unusedVariables false
set_option linter.unusedSimpArgs false

theorem beq_swap (a b : Int) : (a == b) = (b == a) := by
  by_cases h : a = b
  · subst h; rfl
  · rw [beq_false_of_ne h, beq_false_of_ne (fun e => h e.symm)]
theorem dec_swap {α : Type} [DecidableEq α] (a b : α) : decide (a = b) = decide (b = a) := decide_eq_decide.2 ⟨Eq.symm, Eq.symm⟩
theorem smT_comm (sp1 sp2 : Int) (dp1 dp2 : Int) (sq1 sq2 : Int) (ak1 ak2 : Int) (fl1 fl2 : Int) (wn1 wn2 : Int) (ur1 ur2 : Int) (os1 os2 : List Opt) (zm1 zm2 : List Int) : smT sp2 sp1 dp2 dp1 sq2 sq1 ak2 ak1 fl2 fl1 wn2 wn1 ur2 ur1 os2 os1 zm2 zm1 = smT sp1 sp2 dp1 dp2 sq1 sq2 ak1 ak2 fl1 fl2 wn1 wn2 ur1 ur2 os1 os2 zm1 zm2 := by
  unfold smT
  rw [beq_swap sp2 sp1, beq_swap dp2 dp1, beq_swap sq2 sq1, beq_swap ak2 ak1, beq_swap fl2 fl1, beq_swap wn2 wn1, beq_swap ur2 ur1, dec_swap os2 os1, dec_swap zm2 zm1]
theorem smT_self (sp : Int) (dp : Int) (sq : Int) (ak : Int) (fl : Int) (wn : Int) (ur : Int) (os : List Opt) (zm : List Int) : smT sp sp dp dp sq sq ak ak fl fl wn wn ur ur os os zm zm = true := by simp [smT]

set_option maxHeartbeats 16000000 in
theorem walk_SegsSame (w : World) (sp1 dp1 sq1 ak1 fl1 wn1 ur1 : Int) (sO1 sm1 : Value) (os1 : List Opt) (zm1 : List Int) (hB1 : ByO os1) (hD1 : Mt.By zm1) (hI1 : RdO w.heap.size w sO1 os1) (hM1 : Rd w.heap.size w sm1 zm1) (hl1 : ∀ o ∈ os1, o.2.length ≤ 140737488351232) (hz1 : zm1.length ≤ 140737488351232) (bsp1 : 0 ≤ sp1 ∧ sp1 ≤ 65535) (bdp1 : 0 ≤ dp1 ∧ dp1 ≤ 65535) (bsq1 : 0 ≤ sq1 ∧ sq1 ≤ 4294967295) (bak1 : 0 ≤ ak1 ∧ ak1 ≤ 4294967295) (bfl1 : 0 ≤ fl1 ∧ fl1 ≤ 255) (bwn1 : 0 ≤ wn1 ∧ wn1 ≤ 65535) (bur1 : 0 ≤ ur1 ∧ ur1 ≤ 65535)
    (sp2 dp2 sq2 ak2 fl2 wn2 ur2 : Int) (sO2 sm2 : Value) (os2 : List Opt) (zm2 : List Int) (hB2 : ByO os2) (hD2 : Mt.By zm2) (hI2 : RdO w.heap.size w sO2 os2) (hM2 : Rd w.heap.size w sm2 zm2) (hl2 : ∀ o ∈ os2, o.2.length ≤ 140737488351232) (hz2 : zm2.length ≤ 140737488351232) (bsp2 : 0 ≤ sp2 ∧ sp2 ≤ 65535) (bdp2 : 0 ≤ dp2 ∧ dp2 ≤ 65535) (bsq2 : 0 ≤ sq2 ∧ sq2 ≤ 4294967295) (bak2 : 0 ≤ ak2 ∧ ak2 ≤ 4294967295) (bfl2 : 0 ≤ fl2 ∧ fl2 ≤ 255) (bwn2 : 0 ≤ wn2 ∧ wn2 ≤ 65535) (bur2 : 0 ≤ ur2 ∧ ur2 ≤ 65535)
    (ep1 gp1 : Int) (br1 : Bool) (sn1 : Value) (zn1 : List Int) (ep2 gp2 : Int) (br2 : Bool) (sn2 : Value) (zn2 : List Int) (hN1 : Mt.By zn1) (hJ1 : Rd w.heap.size w sn1 zn1) (hN2 : Mt.By zn2) (hJ2 : Rd w.heap.size w sn2 zn2) :
    Calls Try.prog 3 #[.agg #[.int .u16 sp1, .int .u16 dp1, .int .u32 sq1, .int .u32 ak1, .int .u8 fl1, .int .u16 wn1, .int .u16 ur1, sO1, sm1], .agg #[.int .u16 sp2, .int .u16 dp2, .int .u32 sq2, .int .u32 ak2, .int .u8 fl2, .int .u16 wn2, .int .u16 ur2, sO2, sm2], .agg #[.int .u16 ep1, .int .u16 gp1, .bool br1, sn1, .int .u16 ep2, .int .u16 gp2, .bool br2, sn2]] w fun e w' => e = .returned (.bool true) ∧ Below w.heap.size w w' := by
  obtain ⟨aO1, cO1, rfl, _, _⟩ := hI1.slice
  obtain ⟨aO2, cO2, rfl, _, _⟩ := hI2.slice
  obtain ⟨am1, cm1, rfl, _, _⟩ := hM1.slice
  obtain ⟨am2, cm2, rfl, _, _⟩ := hM2.slice
  obtain ⟨an1, cn1, rfl, _, _⟩ := hJ1.slice
  obtain ⟨an2, cn2, rfl, _, _⟩ := hJ2.slice
  have hb0 : Below w.heap.size w (((w.alloc (.cells #[.int .u16 sp1, .int .u16 dp1, .int .u32 sq1, .int .u32 ak1, .int .u8 fl1, .int .u16 wn1, .int .u16 ur1, .slice aO1 os1.length cO1, .slice am1 zm1.length cm1] 27)).alloc (.cells #[.int .u16 sp2, .int .u16 dp2, .int .u32 sq2, .int .u32 ak2, .int .u8 fl2, .int .u16 wn2, .int .u16 ur2, .slice aO2 os2.length cO2, .slice am2 zm2.length cm2] 27)).alloc (.cells #[.int .u16 ep1, .int .u16 gp1, .bool br1, .slice an1 zn1.length cn1, .int .u16 ep2, .int .u16 gp2, .bool br2, .slice an2 zn2.length cn2] 30)) := (((Below.refl _ _).alloc (Nat.le_refl _) _).alloc (by simp) _).alloc (by simp <;> omega) _
  have p0 : (((w.alloc (.cells #[.int .u16 sp1, .int .u16 dp1, .int .u32 sq1, .int .u32 ak1, .int .u8 fl1, .int .u16 wn1, .int .u16 ur1, .slice aO1 os1.length cO1, .slice am1 zm1.length cm1] 27)).alloc (.cells #[.int .u16 sp2, .int .u16 dp2, .int .u32 sq2, .int .u32 ak2, .int .u8 fl2, .int .u16 wn2, .int .u16 ur2, .slice aO2 os2.length cO2, .slice am2 zm2.length cm2] 27)).alloc (.cells #[.int .u16 ep1, .int .u16 gp1, .bool br1, .slice an1 zn1.length cn1, .int .u16 ep2, .int .u16 gp2, .bool br2, .slice an2 zn2.length cn2] 30)).heap[w.heap.size]? = some (.cells #[.int .u16 sp1, .int .u16 dp1, .int .u32 sq1, .int .u32 ak1, .int .u8 fl1, .int .u16 wn1, .int .u16 ur1, .slice aO1 os1.length cO1, .slice am1 zm1.length cm1] 27) := (Below.heap_alloc _ _ _ (by simp <;> omega)).trans ((Below.heap_alloc _ _ _ (by simp)).trans (heap_alloc_new w _))
  have s0 : (((w.alloc (.cells #[.int .u16 sp1, .int .u16 dp1, .int .u32 sq1, .int .u32 ak1, .int .u8 fl1, .int .u16 wn1, .int .u16 ur1, .slice aO1 os1.length cO1, .slice am1 zm1.length cm1] 27)).alloc (.cells #[.int .u16 sp2, .int .u16 dp2, .int .u32 sq2, .int .u32 ak2, .int .u8 fl2, .int .u16 wn2, .int .u16 ur2, .slice aO2 os2.length cO2, .slice am2 zm2.length cm2] 27)).alloc (.cells #[.int .u16 ep1, .int .u16 gp1, .bool br1, .slice an1 zn1.length cn1, .int .u16 ep2, .int .u16 gp2, .bool br2, .slice an2 zn2.length cn2] 30)).heap[w.heap.size + 1]? = some (.cells #[.int .u16 sp2, .int .u16 dp2, .int .u32 sq2, .int .u32 ak2, .int .u8 fl2, .int .u16 wn2, .int .u16 ur2, .slice aO2 os2.length cO2, .slice am2 zm2.length cm2] 27) := by
    have := heap_alloc_new (w.alloc (.cells #[.int .u16 sp1, .int .u16 dp1, .int .u32 sq1, .int .u32 ak1, .int .u8 fl1, .int .u16 wn1, .int .u16 ur1, .slice aO1 os1.length cO1, .slice am1 zm1.length cm1] 27)) (.cells #[.int .u16 sp2, .int .u16 dp2, .int .u32 sq2, .int .u32 ak2, .int .u8 fl2, .int .u16 wn2, .int .u16 ur2, .slice aO2 os2.length cO2, .slice am2 zm2.length cm2] 27)
    rw [World.size_alloc] at this
    exact (Below.heap_alloc _ _ _ (by simp)).trans this
  have d0 : (((w.alloc (.cells #[.int .u16 sp1, .int .u16 dp1, .int .u32 sq1, .int .u32 ak1, .int .u8 fl1, .int .u16 wn1, .int .u16 ur1, .slice aO1 os1.length cO1, .slice am1 zm1.length cm1] 27)).alloc (.cells #[.int .u16 sp2, .int .u16 dp2, .int .u32 sq2, .int .u32 ak2, .int .u8 fl2, .int .u16 wn2, .int .u16 ur2, .slice aO2 os2.length cO2, .slice am2 zm2.length cm2] 27)).alloc (.cells #[.int .u16 ep1, .int .u16 gp1, .bool br1, .slice an1 zn1.length cn1, .int .u16 ep2, .int .u16 gp2, .bool br2, .slice an2 zn2.length cn2] 30)).heap[w.heap.size + 1 + 1]? = some (.cells #[.int .u16 ep1, .int .u16 gp1, .bool br1, .slice an1 zn1.length cn1, .int .u16 ep2, .int .u16 gp2, .bool br2, .slice an2 zn2.length cn2] 30) := by
    have := heap_alloc_new ((w.alloc (.cells #[.int .u16 sp1, .int .u16 dp1, .int .u32 sq1, .int .u32 ak1, .int .u8 fl1, .int .u16 wn1, .int .u16 ur1, .slice aO1 os1.length cO1, .slice am1 zm1.length cm1] 27)).alloc (.cells #[.int .u16 sp2, .int .u16 dp2, .int .u32 sq2, .int .u32 ak2, .int .u8 fl2, .int .u16 wn2, .int .u16 ur2, .slice aO2 os2.length cO2, .slice am2 zm2.length cm2] 27)) (.cells #[.int .u16 ep1, .int .u16 gp1, .bool br1, .slice an1 zn1.length cn1, .int .u16 ep2, .int .u16 gp2, .bool br2, .slice an2 zn2.length cn2] 30)
    simpa only [World.size_alloc] using this
  have P0 := hide p0
  have S0 := hide s0
  have D0 := hide d0
  clear p0 s0 d0
  obtain ⟨bT, HT⟩ : ∃ b, Hid (smT sp1 sp2 dp1 dp2 sq1 sq2 ak1 ak2 fl1 fl2 wn1 wn2 ur1 ur2 os1 os2 zm1 zm2 = b) := ⟨_, rfl⟩
  have HC : Hid (smT sp2 sp1 dp2 dp1 sq2 sq1 ak2 ak1 fl2 fl1 wn2 wn1 ur2 ur1 os2 os1 zm2 zm1 = bT) := by show _ = _; rw [smT_comm]; exact HT.out
  obtain ⟨bU, HU⟩ : ∃ b, Hid (smU ep1 gp1 br1 ep2 gp2 br2 zn1 zn2 = b) := ⟨_, rfl⟩
  have eT : (bT == bT) = true := by simp
  have eU : (bU == bU) = true := by simp
  go_enter Try.func3, Try.ntmps3
  go_upto_region 1 with fail
  generalize ((w.alloc (.cells #[.int .u16 sp1, .int .u16 dp1, .int .u32 sq1, .int .u32 ak1, .int .u8 fl1, .int .u16 wn1, .int .u16 ur1, .slice aO1 os1.length cO1, .slice am1 zm1.length cm1] 27)).alloc (.cells #[.int .u16 sp2, .int .u16 dp2, .int .u32 sq2, .int .u32 ak2, .int .u8 fl2, .int .u16 wn2, .int .u16 ur2, .slice aO2 os2.length cO2, .slice am2 zm2.length cm2] 27)).alloc (.cells #[.int .u16 ep1, .int .u16 gp1, .bool br1, .slice an1 zn1.length cn1, .int .u16 ep2, .int .u16 gp2, .bool br2, .slice an2 zn2.length cn2] 30) = W0 at *
  refine anyR_begin Later.pre Later.drew 45 rfl (by kernel_rfl) (fun W1 hW1 => ?_)
  have q0 : ∀ v1, Later W1 v1 → ∀ i, v1.cell? ⟨w.heap.size, i, none⟩ = #[Value.int .u16 sp1, .int .u16 dp1, .int .u32 sq1, .int .u32 ak1, .int .u8 fl1, .int .u16 wn1, .int .u16 ur1, .slice aO1 os1.length cO1, .slice am1 zm1.length cm1][i]? := fun v1 h => block_cell (later_keep (hW1.trans h) P0.out)
  have q1 : ∀ v1, Later W1 v1 → ∀ i, v1.cell? ⟨w.heap.size + 1, i, none⟩ = #[Value.int .u16 sp2, .int .u16 dp2, .int .u32 sq2, .int .u32 ak2, .int .u8 fl2, .int .u16 wn2, .int .u16 ur2, .slice aO2 os2.length cO2, .slice am2 zm2.length cm2][i]? := fun v1 h => block_cell (later_keep (hW1.trans h) S0.out)
  have q2 : ∀ v1, Later W1 v1 → ∀ i, v1.cell? ⟨w.heap.size + 1 + 1, i, none⟩ = #[Value.int .u16 ep1, .int .u16 gp1, .bool br1, .slice an1 zn1.length cn1, .int .u16 ep2, .int .u16 gp2, .bool br2, .slice an2 zn2.length cn2][i]? := fun v1 h => block_cell (later_keep (hW1.trans h) D0.out)
  have hbv : ∀ v1, Later W1 v1 → Below w.heap.size w v1 := fun v1 h => hb0.trans ((hW1.trans h).mono hb0.size)
  have hr1 : ∀ v1, Later W1 v1 → RdO v1.heap.size v1 (.slice aO1 os1.length cO1) os1 := fun v1 h => (hI1.below (hbv v1 h)).mono (hbv v1 h).size
  have hr2 : ∀ v1, Later W1 v1 → RdO v1.heap.size v1 (.slice aO2 os2.length cO2) os2 := fun v1 h => (hI2.below (hbv v1 h)).mono (hbv v1 h).size
  have hm1 : ∀ v1, Later W1 v1 → Rd v1.heap.size v1 (.slice am1 zm1.length cm1) zm1 := fun v1 h => (hM1.below (hbv v1 h)).mono (hbv v1 h).size
  have hm2 : ∀ v1, Later W1 v1 → Rd v1.heap.size v1 (.slice am2 zm2.length cm2) zm2 := fun v1 h => (hM2.below (hbv v1 h)).mono (hbv v1 h).size
  have hn1 : ∀ v1, Later W1 v1 → Rd v1.heap.size v1 (.slice an1 zn1.length cn1) zn1 := fun v1 h => (hJ1.below (hbv v1 h)).mono (hbv v1 h).size
  have hn2 : ∀ v1, Later W1 v1 → Rd v1.heap.size v1 (.slice an2 zn2.length cn2) zn2 := fun v1 h => (hJ2.below (hbv v1 h)).mono (hbv v1 h).size
  refine anyR_take Later.pre 0 (.bool true) rfl (by kernel_rfl) (by kernel_rfl) (by kernel_rfl) (fun _ _ _ h => h) rfl (fun v1 hv1 => goes_call 7 #[] (by go_simp) ?_) ?_
  · exact live3_any v1
  simp only [Act.put, List.setIfInBounds_toArray, List.set_cons_zero, List.set_cons_succ]
  refine anyR_val Later.pre 1 rfl (by kernel_rfl) (by kernel_rfl) (by kernel_rfl) (fun _ _ _ _ h => h) rfl ?_; apply Exists.intro; refine ⟨fun w1 hw1 => ?_, ?_⟩; (· (go_simp; rfl)); simp only [Act.put, List.setIfInBounds_toArray, List.set_cons_zero, List.set_cons_succ]
  refine anyR_valG Later.pre 2 rfl (by kernel_rfl) (by kernel_rfl) (by kernel_rfl) (fun _ _ _ _ h => h) (by rfl) ?_; apply Exists.intro; refine ⟨fun w1 hw1 => ?_, ?_⟩; (· (go_simp; rfl)); simp only [Act.put, List.setIfInBounds_toArray, List.set_cons_zero, List.set_cons_succ]
  refine anyR_valG Later.pre 3 rfl (by kernel_rfl) (by kernel_rfl) (by kernel_rfl) (fun _ _ _ _ h => h) (by rfl) ?_; apply Exists.intro; refine ⟨fun w1 hw1 => ?_, ?_⟩; (· (go_simp; rfl)); simp only [Act.put, List.setIfInBounds_toArray, List.set_cons_zero, List.set_cons_succ]
  refine anyR_takeG Later.pre 4 (.bool bT) rfl (by kernel_rfl) (by kernel_rfl) (by kernel_rfl) (fun _ _ _ h => h) (by rfl) (fun v1 hv1 => goes_call 8 #[.agg #[.int .u16 sp1, .int .u16 dp1, .int .u32 sq1, .int .u32 ak1, .int .u8 fl1, .int .u16 wn1, .int .u16 ur1, .slice aO1 os1.length cO1, .slice am1 zm1.length cm1], .agg #[.int .u16 sp2, .int .u16 dp2, .int .u32 sq2, .int .u32 ak2, .int .u8 fl2, .int .u16 wn2, .int .u16 ur2, .slice aO2 os2.length cO2, .slice am2 zm2.length cm2]] (by go_simp) ?_) ?_
  · exact (sameTcp_any sp1 sp2 dp1 dp2 sq1 sq2 ak1 ak2 fl1 fl2 wn1 wn2 ur1 ur2 _ _ _ _ os1 os2 zm1 zm2 v1 hB1 hB2 hD1 hD2 (hr1 v1 hv1) (hr2 v1 hv1) (hm1 v1 hv1) (hm2 v1 hv1)).mono fun e w' ⟨he, hb⟩ => ⟨by rw [he, HT.out], hb⟩
  simp only [Act.put, List.setIfInBounds_toArray, List.set_cons_zero, List.set_cons_succ]
  refine anyR_valG Later.pre 5 rfl (by kernel_rfl) (by kernel_rfl) (by kernel_rfl) (fun _ _ _ _ h => h) (by rfl) ?_; apply Exists.intro; refine ⟨fun w1 hw1 => ?_, ?_⟩; (· (go_simp; rfl)); simp only [Act.put, List.setIfInBounds_toArray, List.set_cons_zero, List.set_cons_succ]
  refine anyR_valG Later.pre 6 rfl (by kernel_rfl) (by kernel_rfl) (by kernel_rfl) (fun _ _ _ _ h => h) (by rfl) ?_; apply Exists.intro; refine ⟨fun w1 hw1 => ?_, ?_⟩; (· (go_simp; rfl)); simp only [Act.put, List.setIfInBounds_toArray, List.set_cons_zero, List.set_cons_succ]
  refine anyR_takeG Later.pre 7 (.bool bT) rfl (by kernel_rfl) (by kernel_rfl) (by kernel_rfl) (fun _ _ _ h => h) (by rfl) (fun v1 hv1 => goes_call 9 #[.agg #[.int .u16 sp1, .int .u16 dp1, .int .u32 sq1, .int .u32 ak1, .int .u8 fl1, .int .u16 wn1, .int .u16 ur1, .slice aO1 os1.length cO1, .slice am1 zm1.length cm1], .agg #[.int .u16 sp2, .int .u16 dp2, .int .u32 sq2, .int .u32 ak2, .int .u8 fl2, .int .u16 wn2, .int .u16 ur2, .slice aO2 os2.length cO2, .slice am2 zm2.length cm2]] (by go_simp) ?_) ?_
  · exact (rsameTcp_any sp1 sp2 dp1 dp2 sq1 sq2 ak1 ak2 fl1 fl2 wn1 wn2 ur1 ur2 _ _ _ _ os1 os2 zm1 zm2 v1 hB1 hB2 hD1 hD2 (hr1 v1 hv1) (hr2 v1 hv1) (hm1 v1 hv1) (hm2 v1 hv1)).mono fun e w' ⟨he, hb⟩ => ⟨by rw [he, HT.out], hb⟩
  simp only [Act.put, List.setIfInBounds_toArray, List.set_cons_zero, List.set_cons_succ]
  refine anyR_valG Later.pre 8 rfl (by kernel_rfl) (by kernel_rfl) (by kernel_rfl) (fun _ _ _ _ h => h) (by rfl) ?_; apply Exists.intro; refine ⟨fun w1 hw1 => ?_, ?_⟩; (· (go_simp; rfl)); simp only [Act.put, List.setIfInBounds_toArray, List.set_cons_zero, List.set_cons_succ]
  refine anyR_val Later.pre 9 rfl (by kernel_rfl) (by kernel_rfl) (by kernel_rfl) (fun _ _ _ _ h => h) rfl ?_; apply Exists.intro; refine ⟨fun w1 hw1 => ?_, ?_⟩; (· (go_simp; rfl)); simp only [Act.put, List.setIfInBounds_toArray, List.set_cons_zero, List.set_cons_succ]
  refine anyR_val Later.pre 10 rfl (by kernel_rfl) (by kernel_rfl) (by kernel_rfl) (fun _ _ _ _ h => h) rfl ?_; apply Exists.intro; refine ⟨fun w1 hw1 => ?_, ?_⟩; (· (go_simp; rfl)); simp only [Act.put, List.setIfInBounds_toArray, List.set_cons_zero, List.set_cons_succ]
  refine anyR_valG Later.pre 11 rfl (by kernel_rfl) (by kernel_rfl) (by kernel_rfl) (fun _ _ _ _ h => h) (by rfl) ?_; apply Exists.intro; refine ⟨fun w1 hw1 => ?_, ?_⟩; (· (go_simp; rfl)); simp only [Act.put, List.setIfInBounds_toArray, List.set_cons_zero, List.set_cons_succ]
  refine anyR_valG Later.pre 12 rfl (by kernel_rfl) (by kernel_rfl) (by kernel_rfl) (fun _ _ _ _ h => h) (by rfl) ?_; apply Exists.intro; refine ⟨fun w1 hw1 => ?_, ?_⟩; (· (go_simp; rfl)); simp only [Act.put, List.setIfInBounds_toArray, List.set_cons_zero, List.set_cons_succ]
  refine anyR_takeG Later.pre 13 (.bool bT) rfl (by kernel_rfl) (by kernel_rfl) (by kernel_rfl) (fun _ _ _ h => h) (by rfl) (fun v1 hv1 => goes_call 8 #[.agg #[.int .u16 sp1, .int .u16 dp1, .int .u32 sq1, .int .u32 ak1, .int .u8 fl1, .int .u16 wn1, .int .u16 ur1, .slice aO1 os1.length cO1, .slice am1 zm1.length cm1], .agg #[.int .u16 sp2, .int .u16 dp2, .int .u32 sq2, .int .u32 ak2, .int .u8 fl2, .int .u16 wn2, .int .u16 ur2, .slice aO2 os2.length cO2, .slice am2 zm2.length cm2]] (by go_simp) ?_) ?_
  · exact (sameTcp_any sp1 sp2 dp1 dp2 sq1 sq2 ak1 ak2 fl1 fl2 wn1 wn2 ur1 ur2 _ _ _ _ os1 os2 zm1 zm2 v1 hB1 hB2 hD1 hD2 (hr1 v1 hv1) (hr2 v1 hv1) (hm1 v1 hv1) (hm2 v1 hv1)).mono fun e w' ⟨he, hb⟩ => ⟨by rw [he, HT.out], hb⟩
  simp only [Act.put, List.setIfInBounds_toArray, List.set_cons_zero, List.set_cons_succ]
  refine anyR_valG Later.pre 14 rfl (by kernel_rfl) (by kernel_rfl) (by kernel_rfl) (fun _ _ _ _ h => h) (by rfl) ?_; apply Exists.intro; refine ⟨fun w1 hw1 => ?_, ?_⟩; (· (go_simp; rfl)); simp only [Act.put, List.setIfInBounds_toArray, List.set_cons_zero, List.set_cons_succ]
  refine anyR_valG Later.pre 15 rfl (by kernel_rfl) (by kernel_rfl) (by kernel_rfl) (fun _ _ _ _ h => h) (by rfl) ?_; apply Exists.intro; refine ⟨fun w1 hw1 => ?_, ?_⟩; (· (go_simp; rfl)); simp only [Act.put, List.setIfInBounds_toArray, List.set_cons_zero, List.set_cons_succ]
  refine anyR_takeG Later.pre 16 (.bool bT) rfl (by kernel_rfl) (by kernel_rfl) (by kernel_rfl) (fun _ _ _ h => h) (by rfl) (fun v1 hv1 => goes_call 8 #[.agg #[.int .u16 sp2, .int .u16 dp2, .int .u32 sq2, .int .u32 ak2, .int .u8 fl2, .int .u16 wn2, .int .u16 ur2, .slice aO2 os2.length cO2, .slice am2 zm2.length cm2], .agg #[.int .u16 sp1, .int .u16 dp1, .int .u32 sq1, .int .u32 ak1, .int .u8 fl1, .int .u16 wn1, .int .u16 ur1, .slice aO1 os1.length cO1, .slice am1 zm1.length cm1]] (by go_simp) ?_) ?_
  · exact (sameTcp_any sp2 sp1 dp2 dp1 sq2 sq1 ak2 ak1 fl2 fl1 wn2 wn1 ur2 ur1 _ _ _ _ os2 os1 zm2 zm1 v1 hB2 hB1 hD2 hD1 (hr2 v1 hv1) (hr1 v1 hv1) (hm2 v1 hv1) (hm1 v1 hv1)).mono fun e w' ⟨he, hb⟩ => ⟨by rw [he, HC.out], hb⟩
  simp only [Act.put, List.setIfInBounds_toArray, List.set_cons_zero, List.set_cons_succ]
  refine anyR_valG Later.pre 17 rfl (by kernel_rfl) (by kernel_rfl) (by kernel_rfl) (fun _ _ _ _ h => h) (by rfl) ?_; apply Exists.intro; refine ⟨fun w1 hw1 => ?_, ?_⟩; (· (go_simp; rfl)); simp only [Act.put, List.setIfInBounds_toArray, List.set_cons_zero, List.set_cons_succ]
  refine anyR_val Later.pre 18 rfl (by kernel_rfl) (by kernel_rfl) (by kernel_rfl) (fun _ _ _ _ h => h) rfl ?_; apply Exists.intro; refine ⟨fun w1 hw1 => ?_, ?_⟩; (· (go_simp; rfl)); simp only [Act.put, List.setIfInBounds_toArray, List.set_cons_zero, List.set_cons_succ]
  refine anyR_val Later.pre 19 rfl (by kernel_rfl) (by kernel_rfl) (by kernel_rfl) (fun _ _ _ _ h => h) rfl ?_; apply Exists.intro; refine ⟨fun w1 hw1 => ?_, ?_⟩; (· (go_simp; rfl)); simp only [Act.put, List.setIfInBounds_toArray, List.set_cons_zero, List.set_cons_succ]
  refine anyR_valG Later.pre 20 rfl (by kernel_rfl) (by kernel_rfl) (by kernel_rfl) (fun _ _ _ _ h => h) (by rfl) ?_; apply Exists.intro; refine ⟨fun w1 hw1 => ?_, ?_⟩; (· (go_simp; rfl)); simp only [Act.put, List.setIfInBounds_toArray, List.set_cons_zero, List.set_cons_succ]
  refine anyR_valG Later.pre 21 rfl (by kernel_rfl) (by kernel_rfl) (by kernel_rfl) (fun _ _ _ _ h => h) (by rfl) ?_; apply Exists.intro; refine ⟨fun w1 hw1 => ?_, ?_⟩; (· (go_simp; rfl)); simp only [Act.put, List.setIfInBounds_toArray, List.set_cons_zero, List.set_cons_succ]
  refine anyR_takeG Later.pre 22 (.bool true) rfl (by kernel_rfl) (by kernel_rfl) (by kernel_rfl) (fun _ _ _ h => h) (by rfl) (fun v1 hv1 => goes_call 8 #[.agg #[.int .u16 sp1, .int .u16 dp1, .int .u32 sq1, .int .u32 ak1, .int .u8 fl1, .int .u16 wn1, .int .u16 ur1, .slice aO1 os1.length cO1, .slice am1 zm1.length cm1], .agg #[.int .u16 sp1, .int .u16 dp1, .int .u32 sq1, .int .u32 ak1, .int .u8 fl1, .int .u16 wn1, .int .u16 ur1, .slice aO1 os1.length cO1, .slice am1 zm1.length cm1]] (by go_simp) ?_) ?_
  · exact (sameTcp_any sp1 sp1 dp1 dp1 sq1 sq1 ak1 ak1 fl1 fl1 wn1 wn1 ur1 ur1 _ _ _ _ os1 os1 zm1 zm1 v1 hB1 hB1 hD1 hD1 (hr1 v1 hv1) (hr1 v1 hv1) (hm1 v1 hv1) (hm1 v1 hv1)).mono fun e w' ⟨he, hb⟩ => ⟨by rw [he, smT_self], hb⟩
  simp only [Act.put, List.setIfInBounds_toArray, List.set_cons_zero, List.set_cons_succ]
  refine anyR_val Later.pre 23 rfl (by kernel_rfl) (by kernel_rfl) (by kernel_rfl) (fun _ _ _ _ h => h) rfl ?_; apply Exists.intro; refine ⟨fun w1 hw1 => ?_, ?_⟩; (· (go_simp; rfl)); simp only [Act.put, List.setIfInBounds_toArray, List.set_cons_zero, List.set_cons_succ]
  refine anyR_val Later.pre 24 rfl (by kernel_rfl) (by kernel_rfl) (by kernel_rfl) (fun _ _ _ _ h => h) rfl ?_; apply Exists.intro; refine ⟨fun w1 hw1 => ?_, ?_⟩; (· (go_simp; rfl)); simp only [Act.put, List.setIfInBounds_toArray, List.set_cons_zero, List.set_cons_succ]
  refine anyR_valG Later.pre 25 rfl (by kernel_rfl) (by kernel_rfl) (by kernel_rfl) (fun _ _ _ _ h => h) (by rfl) ?_; apply Exists.intro; refine ⟨fun w1 hw1 => ?_, ?_⟩; (· (go_simp; rfl)); simp only [Act.put, List.setIfInBounds_toArray, List.set_cons_zero, List.set_cons_succ]
  refine anyR_valG Later.pre 26 rfl (by kernel_rfl) (by kernel_rfl) (by kernel_rfl) (fun _ _ _ _ h => h) (by rfl) ?_; apply Exists.intro; refine ⟨fun w1 hw1 => ?_, ?_⟩; (· (go_simp; rfl)); simp only [Act.put, List.setIfInBounds_toArray, List.set_cons_zero, List.set_cons_succ]
  refine anyR_valG Later.pre 27 rfl (by kernel_rfl) (by kernel_rfl) (by kernel_rfl) (fun _ _ _ _ h => h) (by rfl) ?_; apply Exists.intro; refine ⟨fun w1 hw1 => ?_, ?_⟩; (· (go_simp; rfl)); simp only [Act.put, List.setIfInBounds_toArray, List.set_cons_zero, List.set_cons_succ]
  refine anyR_valG Later.pre 28 rfl (by kernel_rfl) (by kernel_rfl) (by kernel_rfl) (fun _ _ _ _ h => h) (by rfl) ?_; apply Exists.intro; refine ⟨fun w1 hw1 => ?_, ?_⟩; (· (go_simp; rfl)); simp only [Act.put, List.setIfInBounds_toArray, List.set_cons_zero, List.set_cons_succ]
  refine anyR_takeG Later.pre 29 (.bool bU) rfl (by kernel_rfl) (by kernel_rfl) (by kernel_rfl) (fun _ _ _ h => h) (by rfl) (fun v1 hv1 => goes_call 10 #[.agg #[.int .u16 ep1, .int .u16 gp1, .bool br1, .slice an1 zn1.length cn1], .agg #[.int .u16 ep2, .int .u16 gp2, .bool br2, .slice an2 zn2.length cn2]] (by go_simp) ?_) ?_
  · exact (sameUdp_any ep1 gp1 br1 ep2 gp2 br2 _ _ zn1 zn2 v1 hN1 hN2 (hn1 v1 hv1) (hn2 v1 hv1)).mono fun e w' ⟨he, hb⟩ => ⟨by rw [he, HU.out], hb⟩
  simp only [Act.put, List.setIfInBounds_toArray, List.set_cons_zero, List.set_cons_succ]
  refine anyR_valG Later.pre 30 rfl (by kernel_rfl) (by kernel_rfl) (by kernel_rfl) (fun _ _ _ _ h => h) (by rfl) ?_; apply Exists.intro; refine ⟨fun w1 hw1 => ?_, ?_⟩; (· (go_simp; rfl)); simp only [Act.put, List.setIfInBounds_toArray, List.set_cons_zero, List.set_cons_succ]
  refine anyR_valG Later.pre 31 rfl (by kernel_rfl) (by kernel_rfl) (by kernel_rfl) (fun _ _ _ _ h => h) (by rfl) ?_; apply Exists.intro; refine ⟨fun w1 hw1 => ?_, ?_⟩; (· (go_simp; rfl)); simp only [Act.put, List.setIfInBounds_toArray, List.set_cons_zero, List.set_cons_succ]
  refine anyR_valG Later.pre 32 rfl (by kernel_rfl) (by kernel_rfl) (by kernel_rfl) (fun _ _ _ _ h => h) (by rfl) ?_; apply Exists.intro; refine ⟨fun w1 hw1 => ?_, ?_⟩; (· (go_simp; rfl)); simp only [Act.put, List.setIfInBounds_toArray, List.set_cons_zero, List.set_cons_succ]
  refine anyR_valG Later.pre 33 rfl (by kernel_rfl) (by kernel_rfl) (by kernel_rfl) (fun _ _ _ _ h => h) (by rfl) ?_; apply Exists.intro; refine ⟨fun w1 hw1 => ?_, ?_⟩; (· (go_simp; rfl)); simp only [Act.put, List.setIfInBounds_toArray, List.set_cons_zero, List.set_cons_succ]
  refine anyR_takeG Later.pre 34 (.bool bU) rfl (by kernel_rfl) (by kernel_rfl) (by kernel_rfl) (fun _ _ _ h => h) (by rfl) (fun v1 hv1 => goes_call 11 #[.agg #[.int .u16 ep1, .int .u16 gp1, .bool br1, .slice an1 zn1.length cn1], .agg #[.int .u16 ep2, .int .u16 gp2, .bool br2, .slice an2 zn2.length cn2]] (by go_simp) ?_) ?_
  · exact (rsameUdp_any ep1 gp1 br1 ep2 gp2 br2 _ _ zn1 zn2 v1 hN1 hN2 (hn1 v1 hv1) (hn2 v1 hv1)).mono fun e w' ⟨he, hb⟩ => ⟨by rw [he, HU.out], hb⟩
  simp only [Act.put, List.setIfInBounds_toArray, List.set_cons_zero, List.set_cons_succ]
  refine anyR_valG Later.pre 35 rfl (by kernel_rfl) (by kernel_rfl) (by kernel_rfl) (fun _ _ _ _ h => h) (by rfl) ?_; apply Exists.intro; refine ⟨fun w1 hw1 => ?_, ?_⟩; (· (go_simp; rfl)); simp only [Act.put, List.setIfInBounds_toArray, List.set_cons_zero, List.set_cons_succ]
  refine anyR_val Later.pre 36 rfl (by kernel_rfl) (by kernel_rfl) (by kernel_rfl) (fun _ _ _ _ h => h) rfl ?_; apply Exists.intro; refine ⟨fun w1 hw1 => ?_, ?_⟩; (· (go_simp; rfl)); simp only [Act.put, List.setIfInBounds_toArray, List.set_cons_zero, List.set_cons_succ]
  refine anyR_val Later.pre 37 rfl (by kernel_rfl) (by kernel_rfl) (by kernel_rfl) (fun _ _ _ _ h => h) rfl ?_; apply Exists.intro; refine ⟨fun w1 hw1 => ?_, ?_⟩; (· (go_simp; rfl)); simp only [Act.put, List.setIfInBounds_toArray, List.set_cons_zero, List.set_cons_succ]
  refine anyR_valG Later.pre 38 rfl (by kernel_rfl) (by kernel_rfl) (by kernel_rfl) (fun _ _ _ _ h => h) (by rfl) ?_; apply Exists.intro; refine ⟨fun w1 hw1 => ?_, ?_⟩; (· (go_simp; rfl)); simp only [Act.put, List.setIfInBounds_toArray, List.set_cons_zero, List.set_cons_succ]
  refine anyR_valG Later.pre 39 rfl (by kernel_rfl) (by kernel_rfl) (by kernel_rfl) (fun _ _ _ _ h => h) (by rfl) ?_; apply Exists.intro; refine ⟨fun w1 hw1 => ?_, ?_⟩; (· (go_simp; rfl)); simp only [Act.put, List.setIfInBounds_toArray, List.set_cons_zero, List.set_cons_succ]
  refine anyR_valG Later.pre 40 rfl (by kernel_rfl) (by kernel_rfl) (by kernel_rfl) (fun _ _ _ _ h => h) (by rfl) ?_; apply Exists.intro; refine ⟨fun w1 hw1 => ?_, ?_⟩; (· (go_simp; rfl)); simp only [Act.put, List.setIfInBounds_toArray, List.set_cons_zero, List.set_cons_succ]
  refine anyR_valG Later.pre 41 rfl (by kernel_rfl) (by kernel_rfl) (by kernel_rfl) (fun _ _ _ _ h => h) (by rfl) ?_; apply Exists.intro; refine ⟨fun w1 hw1 => ?_, ?_⟩; (· (go_simp; rfl)); simp only [Act.put, List.setIfInBounds_toArray, List.set_cons_zero, List.set_cons_succ]
  refine anyR_takeG Later.pre 42 (.bool true) rfl (by kernel_rfl) (by kernel_rfl) (by kernel_rfl) (fun _ _ _ h => h) (by rfl) (fun v1 hv1 => goes_call 10 #[.agg #[.int .u16 ep1, .int .u16 gp1, .bool br1, .slice an1 zn1.length cn1], .agg #[.int .u16 ep1, .int .u16 gp1, .bool br1, .slice an1 zn1.length cn1]] (by go_simp) ?_) ?_
  · exact (sameUdp_any ep1 gp1 br1 ep1 gp1 br1 _ _ zn1 zn1 v1 hN1 hN1 (hn1 v1 hv1) (hn1 v1 hv1)).mono fun e w' ⟨he, hb⟩ => ⟨by rw [he, smU_self], hb⟩
  simp only [Act.put, List.setIfInBounds_toArray, List.set_cons_zero, List.set_cons_succ]
  refine anyR_val Later.pre 43 rfl (by kernel_rfl) (by kernel_rfl) (by kernel_rfl) (fun _ _ _ _ h => h) rfl ?_; apply Exists.intro; refine ⟨fun w1 hw1 => ?_, ?_⟩; (· (go_simp; rfl)); simp only [Act.put, List.setIfInBounds_toArray, List.set_cons_zero, List.set_cons_succ]
  refine anyR_val Later.pre 44 rfl (by kernel_rfl) (by kernel_rfl) (by kernel_rfl) (fun _ _ _ _ h => h) rfl ?_; apply Exists.intro; refine ⟨fun w1 hw1 => ?_, ?_⟩; (· (go_simp; rfl)); simp only [Act.put, List.setIfInBounds_toArray, List.set_cons_zero, List.set_cons_succ]
  refine anyR_done (by kernel_rfl) (fun W8 hW8 => ?_)
  have hw8 := hbv W8 hW8
  clear q0 q1 q2 hbv hr1 hr2 hm1 hm2 hn1 hn2
  go_wp2_with fail
  go_ret
  exact ⟨rfl, hw8⟩
end Go.Proofs.Ytcjigldianobgab
