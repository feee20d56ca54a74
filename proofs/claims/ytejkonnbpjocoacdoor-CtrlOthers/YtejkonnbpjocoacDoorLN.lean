/- The walk of the law CtrlOthers. -/
import Derived.Test.YtejkonnbpjocoacDoorRm
import Derived.Test.YtejkonnbpjocoacDoorCK
namespace Go.Proofs.YtejkonnbpjocoacDoor
open Go.RowKit Go.Shelf
set_option maxRecDepth 100000
set_option linter.unusedVariables false
set_option linter.unusedSimpArgs false

set_option maxHeartbeats 8000000 in
theorem walk_CtrlOthers (w : World) (hT : Tb w) (tos1 id1 ttl1 proto1 src1 dst1 : Int) (keep1 : Bool) (so1 sd1 : Value) (zo1 zd1 : List Int) (hBo1 : Mt.By zo1) (hBd1 : Mt.By zd1) (hIo1 : Rd w.heap.size w so1 zo1) (hId1 : Rd w.heap.size w sd1 zd1) (hlo1 : zo1.length ≤ 140737488355328) (hld1 : zd1.length ≤ 140737488355328)
    (ht1 : 0 ≤ tos1 ∧ tos1 ≤ 255) (hid1 : 0 ≤ id1 ∧ id1 ≤ 65535) (htt1 : 0 ≤ ttl1 ∧ ttl1 ≤ 255) (hpr1 : 0 ≤ proto1 ∧ proto1 ≤ 255) (hsr1 : 0 ≤ src1 ∧ src1 ≤ 4294967295) (hds1 : 0 ≤ dst1 ∧ dst1 ≤ 4294967295)
    (tos2 id2 ttl2 proto2 src2 dst2 : Int) (keep2 : Bool) (so2 sd2 : Value) (zo2 zd2 : List Int) (hBo2 : Mt.By zo2) (hBd2 : Mt.By zd2) (hIo2 : Rd w.heap.size w so2 zo2) (hId2 : Rd w.heap.size w sd2 zd2) (hlo2 : zo2.length ≤ 140737488355328) (hld2 : zd2.length ≤ 140737488355328)
    (ht2 : 0 ≤ tos2 ∧ tos2 ≤ 255) (hid2 : 0 ≤ id2 ∧ id2 ≤ 65535) (htt2 : 0 ≤ ttl2 ∧ ttl2 ≤ 255) (hpr2 : 0 ≤ proto2 ∧ proto2 ≤ 255) (hsr2 : 0 ≤ src2 ∧ src2 ≤ 4294967295) (hds2 : 0 ≤ dst2 ∧ dst2 ≤ 4294967295) :
    Calls Tryd.prog 8 #[.agg #[.int .u8 tos1, .int .u16 id1, .bool keep1, .int .u8 ttl1, .int .u8 proto1, .int .u32 src1, .int .u32 dst1, so1, sd1], .agg #[.int .u8 tos2, .int .u16 id2, .bool keep2, .int .u8 ttl2, .int .u8 proto2, .int .u32 src2, .int .u32 dst2, so2, sd2]] w fun e w' => e = .returned (.bool true) ∧ Below w.heap.size w w' := by
  obtain ⟨ao1, co1, rfl, _, _⟩ := hIo1.slice
  obtain ⟨ad1, cd1, rfl, _, _⟩ := hId1.slice
  obtain ⟨ao2, co2, rfl, _, _⟩ := hIo2.slice
  obtain ⟨ad2, cd2, rfl, _, _⟩ := hId2.slice
  have hb0 : Below w.heap.size w ((w.alloc (.cells #[.int .u8 tos1, .int .u16 id1, .bool keep1, .int .u8 ttl1, .int .u8 proto1, .int .u32 src1, .int .u32 dst1, .slice ao1 zo1.length co1, .slice ad1 zd1.length cd1] 26)).alloc (.cells #[.int .u8 tos2, .int .u16 id2, .bool keep2, .int .u8 ttl2, .int .u8 proto2, .int .u32 src2, .int .u32 dst2, .slice ao2 zo2.length co2, .slice ad2 zd2.length cd2] 26)) := ((Below.refl _ _).alloc (Nat.le_refl _) _).alloc (by simp) _
  have p0 : ((w.alloc (.cells #[.int .u8 tos1, .int .u16 id1, .bool keep1, .int .u8 ttl1, .int .u8 proto1, .int .u32 src1, .int .u32 dst1, .slice ao1 zo1.length co1, .slice ad1 zd1.length cd1] 26)).alloc (.cells #[.int .u8 tos2, .int .u16 id2, .bool keep2, .int .u8 ttl2, .int .u8 proto2, .int .u32 src2, .int .u32 dst2, .slice ao2 zo2.length co2, .slice ad2 zd2.length cd2] 26)).heap[w.heap.size]? = some (.cells #[.int .u8 tos1, .int .u16 id1, .bool keep1, .int .u8 ttl1, .int .u8 proto1, .int .u32 src1, .int .u32 dst1, .slice ao1 zo1.length co1, .slice ad1 zd1.length cd1] 26 (0, 0)) := (Below.heap_alloc _ _ _ (by simp)).trans (heap_alloc_new w _)
  have q0 : ((w.alloc (.cells #[.int .u8 tos1, .int .u16 id1, .bool keep1, .int .u8 ttl1, .int .u8 proto1, .int .u32 src1, .int .u32 dst1, .slice ao1 zo1.length co1, .slice ad1 zd1.length cd1] 26)).alloc (.cells #[.int .u8 tos2, .int .u16 id2, .bool keep2, .int .u8 ttl2, .int .u8 proto2, .int .u32 src2, .int .u32 dst2, .slice ao2 zo2.length co2, .slice ad2 zd2.length cd2] 26)).heap[w.heap.size + 1]? = some (.cells #[.int .u8 tos2, .int .u16 id2, .bool keep2, .int .u8 ttl2, .int .u8 proto2, .int .u32 src2, .int .u32 dst2, .slice ao2 zo2.length co2, .slice ad2 zd2.length cd2] 26 (0, 0)) := by
    have := heap_alloc_new (w.alloc (.cells #[.int .u8 tos1, .int .u16 id1, .bool keep1, .int .u8 ttl1, .int .u8 proto1, .int .u32 src1, .int .u32 dst1, .slice ao1 zo1.length co1, .slice ad1 zd1.length cd1] 26)) (.cells #[.int .u8 tos2, .int .u16 id2, .bool keep2, .int .u8 ttl2, .int .u8 proto2, .int .u32 src2, .int .u32 dst2, .slice ao2 zo2.length co2, .slice ad2 zd2.length cd2] 26)
    simpa using this
  have P0 := hide p0
  have Q0 := hide q0
  clear p0 q0
  go_enter Tryd.func8, Tryd.ntmps8
  go_wp2_with fail
  generalize (w.alloc (.cells #[.int .u8 tos1, .int .u16 id1, .bool keep1, .int .u8 ttl1, .int .u8 proto1, .int .u32 src1, .int .u32 dst1, .slice ao1 zo1.length co1, .slice ad1 zd1.length cd1] 26)).alloc (.cells #[.int .u8 tos2, .int .u16 id2, .bool keep2, .int .u8 ttl2, .int .u8 proto2, .int .u32 src2, .int .u32 dst2, .slice ao2 zo2.length co2, .slice ad2 zd2.length cd2] 26) = w0 at *
  refine (parseIcmp_u tos1 id1 ttl1 proto1 src1 dst1 keep1 _ _ zd1 w0 hBd1 ((hId1.below hb0).mono hb0.size) hld1).mono ?_
  rintro e wA ⟨hbA, aA, lA, cA, rfl, hlA, oA⟩
  have HlA := hide hlA
  clear hlA
  have mB := heap_alloc_new wA (.cells #[.int .u8 (pty proto1 zd1), .int .u8 (pcd proto1 zd1), .int .u32 (prs proto1 zd1), .slice aA lA cA] 28)
  have lB : Later wA (wA.alloc (.cells #[.int .u8 (pty proto1 zd1), .int .u8 (pcd proto1 zd1), .int .u32 (prs proto1 zd1), .slice aA lA cA] 28)) := (Below.refl _ _).alloc (Nat.le_refl _) _
  have pA := (hbA.block w.heap.size (Array.getElem?_eq_some_iff.1 P0.out).1).trans P0.out
  have qA := (hbA.block (w.heap.size + 1) (Array.getElem?_eq_some_iff.1 Q0.out).1).trans Q0.out
  have pB := (lB.block w.heap.size (Array.getElem?_eq_some_iff.1 pA).1).trans pA
  have qB := (lB.block (w.heap.size + 1) (Array.getElem?_eq_some_iff.1 qA).1).trans qA
  have PB := block_cell pB
  have hwB : Below w.heap.size w _ := hb0.trans ((Later.trans hbA lB).mono hb0.size)
  go_wp2_with fail
  generalize wA.alloc (.cells #[.int .u8 (pty proto1 zd1), .int .u8 (pcd proto1 zd1), .int .u32 (prs proto1 zd1), .slice aA lA cA] 28) = wB at *
  refine (parseGre_u tos1 id1 ttl1 proto1 src1 dst1 keep1 _ _ zd1 wB (hT.below hwB hT.pos) hBd1 ((hId1.below hwB).mono hwB.size) hld1).mono ?_
  rintro e wC ⟨hbC, aC, lC, cC, rfl, hlC, oC⟩
  have HlC := hide hlC
  clear hlC
  have gD := heap_alloc_new wC (.cells #[.int .u16 (gcl proto1 zd1), .bool (gh1 proto1 zd1), .bool (gh2 proto1 zd1), .int .u32 (gq1 proto1 zd1), .int .u32 (gq2 proto1 zd1), .slice aC lC cC] 30)
  have lD : Later wC (wC.alloc (.cells #[.int .u16 (gcl proto1 zd1), .bool (gh1 proto1 zd1), .bool (gh2 proto1 zd1), .int .u32 (gq1 proto1 zd1), .int .u32 (gq2 proto1 zd1), .slice aC lC cC] 30)) := (Below.refl _ _).alloc (Nat.le_refl _) _
  have lBD := Later.trans hbC lD
  have pD := (lBD.block w.heap.size (Array.getElem?_eq_some_iff.1 pB).1).trans pB
  have qD := (lBD.block (w.heap.size + 1) (Array.getElem?_eq_some_iff.1 qB).1).trans qB
  have mD := (lBD.block wA.heap.size (Array.getElem?_eq_some_iff.1 mB).1).trans mB
  have hwD : Below w.heap.size w _ := hwB.trans (lBD.mono hwB.size)
  have QD := block_cell qD
  clear PB
  have hsD : (wC.alloc (.cells #[.int .u16 (gcl proto1 zd1), .bool (gh1 proto1 zd1), .bool (gh2 proto1 zd1), .int .u32 (gq1 proto1 zd1), .int .u32 (gq2 proto1 zd1), .slice aC lC cC] 30)).heap.size = wC.heap.size + 1 := by simp
  have HSD := hide hsD
  clear hsD
  go_upto_region 4 with fail
  generalize wC.alloc (.cells #[.int .u16 (gcl proto1 zd1), .bool (gh1 proto1 zd1), .bool (gh2 proto1 zd1), .int .u32 (gq1 proto1 zd1), .int .u32 (gq2 proto1 zd1), .slice aC lC cC] 30) = wD at *
  have lE : Later wD (wD.alloc (.cells #[.int .u8 tos2, .int .u16 id2, .bool keep2, .int .u8 ttl2, .int .u8 proto2, .int .u32 src2, .int .u32 dst2, .slice ao2 zo2.length co2, .slice ad2 zd2.length cd2] 26)) := (Below.refl _ _).alloc (Nat.le_refl _) _
  have rE := heap_alloc_new wD (.cells #[.int .u8 tos2, .int .u16 id2, .bool keep2, .int .u8 ttl2, .int .u8 proto2, .int .u32 src2, .int .u32 dst2, .slice ao2 zo2.length co2, .slice ad2 zd2.length cd2] 26)
  rw [HSD.out] at rE
  have pE := (lE.block w.heap.size (Array.getElem?_eq_some_iff.1 pD).1).trans pD
  have mE := (lE.block wA.heap.size (Array.getElem?_eq_some_iff.1 mD).1).trans mD
  have gE := (lE.block wC.heap.size (Array.getElem?_eq_some_iff.1 gD).1).trans gD
  have hwE : Below w.heap.size w _ := hwD.trans (lE.mono hwD.size)
  clear QD
  generalize wD.alloc (.cells #[.int .u8 tos2, .int .u16 id2, .bool keep2, .int .u8 ttl2, .int .u8 proto2, .int .u32 src2, .int .u32 dst2, .slice ao2 zo2.length co2, .slice ad2 zd2.length cd2] 26) = wE at *
  go_cut [26] (fun z wx => But (fun b => b = wC.heap.size + 1) wE wx ∧ wx.heap[wC.heap.size + 1]? = some (.cells #[.int .u8 tos2, .int .u16 id2, .bool keep2, .int .u8 ttl2, .int .u8 proto1, .int .u32 src2, .int .u32 dst2, .slice ao2 zo2.length co2, .slice ad1 zd1.length cd1] 26 (0, 0)))
  case first =>
    refine anyR_begin (R := KC (wC.heap.size + 1) 9 26 #[.int .u8 tos2, .int .u16 id2, .bool keep2, .int .u8 ttl2, .int .u8 proto1, .int .u32 src2, .int .u32 dst2, .slice ao2 zo2.length co2, .slice ad1 zd1.length cd1]) (KC.pre _ _ _ _) (fun w => KC.of (Later.drew w)) 8 rfl (by kernel_rfl) (fun W1 hW1 => ?_)
    have hne : w.heap.size ≠ wC.heap.size + 1 := by have := (Array.getElem?_eq_some_iff.1 pD).1; have := HSD.out; omega
    have hp : ∀ v1, KC (wC.heap.size + 1) 9 26 #[.int .u8 tos2, .int .u16 id2, .bool keep2, .int .u8 ttl2, .int .u8 proto1, .int .u32 src2, .int .u32 dst2, .slice ao2 zo2.length co2, .slice ad1 zd1.length cd1] W1 v1 → ∀ j, v1.cell? ⟨w.heap.size, j, none⟩ = #[Value.int .u8 tos1, .int .u16 id1, .bool keep1, .int .u8 ttl1, .int .u8 proto1, .int .u32 src1, .int .u32 dst1, .slice ao1 zo1.length co1, .slice ad1 zd1.length cd1][j]? := fun v1 h => block_cell (((hW1.trans h).1.block w.heap.size (Array.getElem?_eq_some_iff.1 pE).1 hne).trans pE)
    have hw1 : Wr (wC.heap.size + 1) 9 26 W1 := hW1.2.1 ⟨_, rE, rfl⟩
    refine anyR_val (KC.pre _ _ _ _) 0 rfl (by kernel_rfl) (by kernel_rfl) (by kernel_rfl) (fun _ _ _ _ h => h) rfl ?_; apply Exists.intro; refine ⟨fun v1 hv1 => ?_, ?_⟩; (· (go_simp; rfl)); simp only [Act.put, List.setIfInBounds_toArray, List.set_cons_zero, List.set_cons_succ]
    refine anyR_val (KC.pre _ _ _ _) 1 rfl (by kernel_rfl) (by kernel_rfl) (by kernel_rfl) (fun _ _ _ _ h => h) rfl ?_; apply Exists.intro; refine ⟨fun v1 hv1 => ?_, ?_⟩; (· (go_simp; rfl)); simp only [Act.put, List.setIfInBounds_toArray, List.set_cons_zero, List.set_cons_succ]
    refine anyR_val (KC.pre _ _ _ _) 2 rfl (by kernel_rfl) (by kernel_rfl) (by kernel_rfl) (fun _ _ _ _ h => h) rfl ?_; apply Exists.intro; refine ⟨fun v1 hv1 => ?_, ?_⟩; (· (go_simp; rfl)); simp only [Act.put, List.setIfInBounds_toArray, List.set_cons_zero, List.set_cons_succ]
    refine anyR_val (KC.pre _ _ _ _) 3 rfl (by kernel_rfl) (by kernel_rfl) (by kernel_rfl) (fun _ _ _ _ h => h) rfl ?_; apply Exists.intro; refine ⟨fun v1 hv1 => ?_, ?_⟩; (· (go_simp; rfl)); simp only [Act.put, List.setIfInBounds_toArray, List.set_cons_zero, List.set_cons_succ]
    refine anyR_val (KC.pre _ _ _ _) 4 rfl (by kernel_rfl) (by kernel_rfl) (by kernel_rfl) (fun _ _ _ _ h => h) rfl ?_; apply Exists.intro; refine ⟨fun v1 hv1 => ?_, ?_⟩; (· (go_simp; rfl)); simp only [Act.put, List.setIfInBounds_toArray, List.set_cons_zero, List.set_cons_succ]
    refine anyR_one 5 rfl (by kernel_rfl) rfl (fun W2 hW2 => ?_)
    have hw2 := hW2.2.1 hw1
    obtain ⟨s1, s2⟩ := KC.set (arr := #[.int .u8 tos2, .int .u16 id2, .bool keep2, .int .u8 ttl2, .int .u8 proto1, .int .u32 src2, .int .u32 dst2, .slice ao2 zo2.length co2, .slice ad1 zd1.length cd1]) 4 (.int .u8 proto1) rfl (by omega) hw2
    obtain ⟨cur2, hc2, hz2⟩ := hw2
    have C2 := block_cell hc2 4
    have F2 := block_frozen hc2 4
    rw [Array.getElem?_eq_getElem (by omega)] at C2
    have Hs1 := hide s1
    clear s1
    unfold Oper.wp
    go_simp
    have s1 := Hs1.out
    refine ⟨s1, ?_⟩
    have hW3 := hW2.trans s1
    generalize W2.setCell ⟨wC.heap.size + 1, 4, none⟩ (.int .u8 proto1) = W3 at *
    clear C2 F2
    refine anyR_val (KC.pre _ _ _ _) 6 rfl (by kernel_rfl) (by kernel_rfl) (by kernel_rfl) (fun _ _ _ _ h => h) rfl ?_; apply Exists.intro; refine ⟨fun v1 hv1 => ?_, ?_⟩; (· (go_simp; rfl)); simp only [Act.put, List.setIfInBounds_toArray, List.set_cons_zero, List.set_cons_succ]
    refine anyR_one 7 rfl (by kernel_rfl) rfl (fun W4 hW4 => ?_)
    have hW4' := hW3.trans hW4
    have hw4 := hW4'.2.1 hw1
    have hw4' := hw4
    obtain ⟨s3, s4⟩ := KC.set (arr := #[.int .u8 tos2, .int .u16 id2, .bool keep2, .int .u8 ttl2, .int .u8 proto1, .int .u32 src2, .int .u32 dst2, .slice ao2 zo2.length co2, .slice ad1 zd1.length cd1]) 8 (.slice ad1 zd1.length cd1) rfl (by omega) hw4
    obtain ⟨cur4, hc4, hz4⟩ := hw4'
    have C4 := block_cell hc4 8
    have F4 := block_frozen hc4 8
    rw [Array.getElem?_eq_getElem (by omega)] at C4
    have Hs3 := hide s3
    clear s3
    unfold Oper.wp
    go_simp
    have s3 := Hs3.out
    refine ⟨s3, ?_⟩
    have hW5 := hW4'.trans s3
    have s2' := s3.2.2 4 (hW4.2.2 4 s2)
    have hin : ∀ j, j ≠ 4 → j ≠ 8 → j < 9 → W1.cell? ⟨wC.heap.size + 1, j, none⟩ = some (#[Value.int .u8 tos2, .int .u16 id2, .bool keep2, .int .u8 ttl2, .int .u8 proto1, .int .u32 src2, .int .u32 dst2, .slice ao2 zo2.length co2, .slice ad1 zd1.length cd1][j]?.getD undef) := fun j h4 h8 h9 => hW1.2.2 j (by
      rw [block_cell rE]
      match j, h9 with
      | 0, _ | 1, _ | 2, _ | 3, _ | 5, _ | 6, _ | 7, _ => rfl
      | 4, _ => exact absurd rfl h4
      | 8, _ => exact absurd rfl h8
      | n + 9, h => exact absurd h (by omega))
    generalize W4.setCell ⟨wC.heap.size + 1, 8, none⟩ (.slice ad1 zd1.length cd1) = W5 at *
    clear C4 F4
    refine anyR_done (by kernel_rfl) (fun W6 hW6 => ?_)
    have hW6' := hW5.trans hW6
    have rc := KC.all (arr := #[.int .u8 tos2, .int .u16 id2, .bool keep2, .int .u8 ttl2, .int .u8 proto1, .int .u32 src2, .int .u32 dst2, .slice ao2 zo2.length co2, .slice ad1 zd1.length cd1]) (hW6'.2.1 hw1) rfl (fun j hj => by
      by_cases h4 : j = 4
      · subst h4; exact hW6.2.2 4 s2'
      · by_cases h8 : j = 8
        · subst h8; exact hW6.2.2 8 s4
        · exact hW6'.2.2 j (hin j h4 h8 hj))
    have hbut := (hW1.trans hW6').1
    clear hp hin
    go_wp2_with fail
    go_meet
    case rel => exact ⟨hbut, rc⟩
  case rest =>
    obtain ⟨hEc, rc⟩ := hcut
    have hlt := (Array.getElem?_eq_some_iff.1 rE).1
    have hAC := Nat.lt_of_lt_of_le (Array.getElem?_eq_some_iff.1 mB).1 hbC.size
    have hne1 : w.heap.size ≠ wC.heap.size + 1 := by have := (Array.getElem?_eq_some_iff.1 pD).1; have := HSD.out; omega
    have pc := (hEc.block w.heap.size (Array.getElem?_eq_some_iff.1 pE).1 hne1).trans pE
    have mc := (hEc.block wA.heap.size (Array.getElem?_eq_some_iff.1 mE).1 (by omega)).trans mE
    have gc := (hEc.block wC.heap.size (Array.getElem?_eq_some_iff.1 gE).1 (by omega)).trans gE
    have hws := (Array.getElem?_eq_some_iff.1 pD).1
    have hwc : Below w.heap.size w wc := hwE.trans (hEc.below hwE.size (fun k h e => by have := HSD.out; omega))
    have bA : Below wA.heap.size wA wc := Below.trans (Later.trans lB (Later.trans lBD lE)) (hEc.below (Below.size (Later.trans lB (Later.trans lBD lE))) (fun k h e => by omega))
    have bC : Below wC.heap.size wC wc := Below.trans (Later.trans lD lE) (hEc.below (Below.size (Later.trans lD lE)) (fun k h e => by omega))
    have rA := oA.rd
    have rC := oC.rd
    have Rc := block_cell rc
    clear oA oC hEc
    go_wp2_with fail
    refine (parseIcmp_u tos2 id2 ttl2 proto1 src2 dst2 keep2 _ _ zd1 wc hBd1 ((hId1.below hwc).mono hwc.size) hld1).mono ?_
    rintro e wG ⟨hbG, aG, lG, cG, rfl, hlG, oG⟩
    have HlG := hide hlG
    clear hlG
    have nH := heap_alloc_new wG (.cells #[.int .u8 (pty proto1 zd1), .int .u8 (pcd proto1 zd1), .int .u32 (prs proto1 zd1), .slice aG lG cG] 28)
    have lH : Later wG (wG.alloc (.cells #[.int .u8 (pty proto1 zd1), .int .u8 (pcd proto1 zd1), .int .u32 (prs proto1 zd1), .slice aG lG cG] 28)) := (Below.refl _ _).alloc (Nat.le_refl _) _
    have lcH := Later.trans hbG lH
    have rH := (lcH.block (wC.heap.size + 1) (Array.getElem?_eq_some_iff.1 rc).1).trans rc
    have RH := block_cell rH
    have hwH := hwc.trans (lcH.mono hwc.size)
    clear Rc
    go_wp2_with fail
    generalize wG.alloc (.cells #[.int .u8 (pty proto1 zd1), .int .u8 (pcd proto1 zd1), .int .u32 (prs proto1 zd1), .slice aG lG cG] 28) = wH at *
    refine (parseGre_u tos2 id2 ttl2 proto1 src2 dst2 keep2 _ _ zd1 wH (hT.below hwH hT.pos) hBd1 ((hId1.below hwH).mono hwH.size) hld1).mono ?_
    rintro e wI ⟨hbI, aI, lI, cI, rfl, hlI, oI⟩
    have HlI := hide hlI
    clear hlI
    have hJ := heap_alloc_new wI (.cells #[.int .u16 (gcl proto1 zd1), .bool (gh1 proto1 zd1), .bool (gh2 proto1 zd1), .int .u32 (gq1 proto1 zd1), .int .u32 (gq2 proto1 zd1), .slice aI lI cI] 30)
    have lIJ : Later wI (wI.alloc (.cells #[.int .u16 (gcl proto1 zd1), .bool (gh1 proto1 zd1), .bool (gh2 proto1 zd1), .int .u32 (gq1 proto1 zd1), .int .u32 (gq2 proto1 zd1), .slice aI lI cI] 30)) := (Below.refl _ _).alloc (Nat.le_refl _) _
    have lHJ := Later.trans hbI lIJ
    have nJ := (lHJ.block wG.heap.size (Array.getElem?_eq_some_iff.1 nH).1).trans nH
    have lGJ := lH.trans lHJ
    have lcJ := Later.trans lcH lHJ
    have hwJ := hwc.trans (lcJ.mono hwc.size)
    by_cases h1 : proto1 = 1
    · have b1 : (proto1 == 1) = true := by simp [h1]
      have b2 : (proto1 == 47) = false := by simp [h1]
      have e2 : pge proto1 zd1 = 12 := pge_other (by omega)
      have e2' : (pge proto1 zd1 == 12) = true := by simp [e2]
      clear h1 e2
      go_wp2_with fail
      generalize wI.alloc (.cells #[.int .u16 (gcl proto1 zd1), .bool (gh1 proto1 zd1), .bool (gh2 proto1 zd1), .int .u32 (gq1 proto1 zd1), .int .u32 (gq2 proto1 zd1), .slice aI lI cI] 30) = wJ at *
      refine (live4_any wJ (hT.below hwJ hT.pos)).mono ?_
      rintro e wL ⟨rfl, hbL⟩
      have lJL : Later wJ wL := hbL
      have lcL : Later wc wL := lcJ.trans hbL
      have kp := block_cell ((lcL.block w.heap.size (Array.getElem?_eq_some_iff.1 pc).1).trans pc)
      have km := block_cell ((lcL.block wA.heap.size (Array.getElem?_eq_some_iff.1 mc).1).trans mc)
      have kg := block_cell ((lcL.block wC.heap.size (Array.getElem?_eq_some_iff.1 gc).1).trans gc)
      have kn := block_cell ((hbL.block wG.heap.size (Array.getElem?_eq_some_iff.1 nJ).1).trans nJ)
      have kh := block_cell ((hbL.block wI.heap.size (Array.getElem?_eq_some_iff.1 hJ).1).trans hJ)
      clear RH
      go_wp2_with fail
      refine (rsameIcmp_any (pty proto1 zd1) (pcd proto1 zd1) (prs proto1 zd1) (pty proto1 zd1) (pcd proto1 zd1) (prs proto1 zd1) _ _ (pdt proto1 zd1) (pdt proto1 zd1) wL (By_pdt _ _ hBd1) (By_pdt _ _ hBd1) ((rA.below (bA.trans (lcL.mono bA.size))).mono (Nat.le_trans bA.size lcL.size)) ((oG.rd.below (lGJ.trans hbL)).mono (Below.size (lGJ.trans hbL)))).mono ?_
      rw [smI_self]
      rintro e wM ⟨rfl, hbM⟩
      have lM := lcL.trans hbM
      have kg2 := block_cell ((lM.block wC.heap.size (Array.getElem?_eq_some_iff.1 gc).1).trans gc)
      have kh2 := block_cell (((Later.trans hbL hbM).block wI.heap.size (Array.getElem?_eq_some_iff.1 hJ).1).trans hJ)
      clear kp km kg kn kh
      go_wp2_with fail
      refine (rsameGre_any (gcl proto1 zd1) (gq1 proto1 zd1) (gq2 proto1 zd1) (gcl proto1 zd1) (gq1 proto1 zd1) (gq2 proto1 zd1) (gh1 proto1 zd1) (gh2 proto1 zd1) (gh1 proto1 zd1) (gh2 proto1 zd1) _ _ (gdt proto1 zd1) (gdt proto1 zd1) wM (By_gdt _ _ hBd1) (By_gdt _ _ hBd1) ((rC.below (bC.trans (lM.mono bC.size))).mono (Nat.le_trans bC.size lM.size)) ((oI.rd.below (lIJ.trans (Later.trans hbL hbM))).mono (Below.size (lIJ.trans (Later.trans hbL hbM))))).mono ?_
      rw [smG_self]
      rintro e wN ⟨rfl, hbN⟩
      go_wp2
      go_ret
      exact ⟨rfl, hwc.trans ((lM.trans hbN).mono hwc.size)⟩
    · have b1 : (proto1 == 1) = false := by simp [h1]
      have e1 : (pie proto1 zd1 == 12) = true := by simp [pie_other h1]
      by_cases h2 : proto1 = 47
      · have b2 : (proto1 == 47) = true := by simp [h2]
        clear h1 h2
        go_wp2_with fail
        generalize wI.alloc (.cells #[.int .u16 (gcl proto1 zd1), .bool (gh1 proto1 zd1), .bool (gh2 proto1 zd1), .int .u32 (gq1 proto1 zd1), .int .u32 (gq2 proto1 zd1), .slice aI lI cI] 30) = wJ at *
        refine (live4_any wJ (hT.below hwJ hT.pos)).mono ?_
        rintro e wL ⟨rfl, hbL⟩
        have lJL : Later wJ wL := hbL
        have lcL : Later wc wL := lcJ.trans hbL
        have kp := block_cell ((lcL.block w.heap.size (Array.getElem?_eq_some_iff.1 pc).1).trans pc)
        have km := block_cell ((lcL.block wA.heap.size (Array.getElem?_eq_some_iff.1 mc).1).trans mc)
        have kg := block_cell ((lcL.block wC.heap.size (Array.getElem?_eq_some_iff.1 gc).1).trans gc)
        have kn := block_cell ((hbL.block wG.heap.size (Array.getElem?_eq_some_iff.1 nJ).1).trans nJ)
        have kh := block_cell ((hbL.block wI.heap.size (Array.getElem?_eq_some_iff.1 hJ).1).trans hJ)
        clear RH
        go_wp2_with fail
        refine (rsameIcmp_any (pty proto1 zd1) (pcd proto1 zd1) (prs proto1 zd1) (pty proto1 zd1) (pcd proto1 zd1) (prs proto1 zd1) _ _ (pdt proto1 zd1) (pdt proto1 zd1) wL (By_pdt _ _ hBd1) (By_pdt _ _ hBd1) ((rA.below (bA.trans (lcL.mono bA.size))).mono (Nat.le_trans bA.size lcL.size)) ((oG.rd.below (lGJ.trans hbL)).mono (Below.size (lGJ.trans hbL)))).mono ?_
        rw [smI_self]
        rintro e wM ⟨rfl, hbM⟩
        have lM := lcL.trans hbM
        have kg2 := block_cell ((lM.block wC.heap.size (Array.getElem?_eq_some_iff.1 gc).1).trans gc)
        have kh2 := block_cell (((Later.trans hbL hbM).block wI.heap.size (Array.getElem?_eq_some_iff.1 hJ).1).trans hJ)
        clear kp km kg kn kh
        go_wp2_with fail
        refine (rsameGre_any (gcl proto1 zd1) (gq1 proto1 zd1) (gq2 proto1 zd1) (gcl proto1 zd1) (gq1 proto1 zd1) (gq2 proto1 zd1) (gh1 proto1 zd1) (gh2 proto1 zd1) (gh1 proto1 zd1) (gh2 proto1 zd1) _ _ (gdt proto1 zd1) (gdt proto1 zd1) wM (By_gdt _ _ hBd1) (By_gdt _ _ hBd1) ((rC.below (bC.trans (lM.mono bC.size))).mono (Nat.le_trans bC.size lM.size)) ((oI.rd.below (lIJ.trans (Later.trans hbL hbM))).mono (Below.size (lIJ.trans (Later.trans hbL hbM))))).mono ?_
        rw [smG_self]
        rintro e wN ⟨rfl, hbN⟩
        go_wp2
        go_ret
        exact ⟨rfl, hwc.trans ((lM.trans hbN).mono hwc.size)⟩
      · have b2 : (proto1 == 47) = false := by simp [h2]
        have e2' : (pge proto1 zd1 == 12) = true := by simp [pge_other h2]
        clear h1 h2
        go_wp2_with fail
        generalize wI.alloc (.cells #[.int .u16 (gcl proto1 zd1), .bool (gh1 proto1 zd1), .bool (gh2 proto1 zd1), .int .u32 (gq1 proto1 zd1), .int .u32 (gq2 proto1 zd1), .slice aI lI cI] 30) = wJ at *
        refine (live4_any wJ (hT.below hwJ hT.pos)).mono ?_
        rintro e wL ⟨rfl, hbL⟩
        have lJL : Later wJ wL := hbL
        have lcL : Later wc wL := lcJ.trans hbL
        have kp := block_cell ((lcL.block w.heap.size (Array.getElem?_eq_some_iff.1 pc).1).trans pc)
        have km := block_cell ((lcL.block wA.heap.size (Array.getElem?_eq_some_iff.1 mc).1).trans mc)
        have kg := block_cell ((lcL.block wC.heap.size (Array.getElem?_eq_some_iff.1 gc).1).trans gc)
        have kn := block_cell ((hbL.block wG.heap.size (Array.getElem?_eq_some_iff.1 nJ).1).trans nJ)
        have kh := block_cell ((hbL.block wI.heap.size (Array.getElem?_eq_some_iff.1 hJ).1).trans hJ)
        clear RH
        go_wp2_with fail
        refine (rsameIcmp_any (pty proto1 zd1) (pcd proto1 zd1) (prs proto1 zd1) (pty proto1 zd1) (pcd proto1 zd1) (prs proto1 zd1) _ _ (pdt proto1 zd1) (pdt proto1 zd1) wL (By_pdt _ _ hBd1) (By_pdt _ _ hBd1) ((rA.below (bA.trans (lcL.mono bA.size))).mono (Nat.le_trans bA.size lcL.size)) ((oG.rd.below (lGJ.trans hbL)).mono (Below.size (lGJ.trans hbL)))).mono ?_
        rw [smI_self]
        rintro e wM ⟨rfl, hbM⟩
        have lM := lcL.trans hbM
        have kg2 := block_cell ((lM.block wC.heap.size (Array.getElem?_eq_some_iff.1 gc).1).trans gc)
        have kh2 := block_cell (((Later.trans hbL hbM).block wI.heap.size (Array.getElem?_eq_some_iff.1 hJ).1).trans hJ)
        clear kp km kg kn kh
        go_wp2_with fail
        refine (rsameGre_any (gcl proto1 zd1) (gq1 proto1 zd1) (gq2 proto1 zd1) (gcl proto1 zd1) (gq1 proto1 zd1) (gq2 proto1 zd1) (gh1 proto1 zd1) (gh2 proto1 zd1) (gh1 proto1 zd1) (gh2 proto1 zd1) _ _ (gdt proto1 zd1) (gdt proto1 zd1) wM (By_gdt _ _ hBd1) (By_gdt _ _ hBd1) ((rC.below (bC.trans (lM.mono bC.size))).mono (Nat.le_trans bC.size lM.size)) ((oI.rd.below (lIJ.trans (Later.trans hbL hbM))).mono (Below.size (lIJ.trans (Later.trans hbL hbM))))).mono ?_
        rw [smG_self]
        rintro e wN ⟨rfl, hbN⟩
        go_wp2
        go_ret
        exact ⟨rfl, hwc.trans ((lM.trans hbN).mono hwc.size)⟩
end Go.Proofs.YtejkonnbpjocoacDoor
