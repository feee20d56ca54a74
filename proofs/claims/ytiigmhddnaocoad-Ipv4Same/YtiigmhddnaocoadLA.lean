/- The walk of the law Ipv4Same. -/
import Derived.Test.YtiigmhddnaocoadV5
namespace Go.Proofs.Ytiigmhddnaocoad
open Go.RowKit Go.Shelf
set_option linter.unusedSimpArgs false
set_option linter.unusedVariables false

/-- What is of one's own reads so wherever these blocks are as they are. -/
theorem Ow.rd_at {base : Nat} {W W' : World} {sv : Value} {zs : List Int} (h : Ow base W sv zs) (hb : ∀ b, base ≤ b → b < W.heap.size → W'.heap[b]? = W.heap[b]?) : Rd W.heap.size W' sv zs := by
  rcases h with ⟨e, hz⟩ | ⟨g, cap, cur, e, hg, hl, hs, hm, hh, hc⟩
  · exact .inl ⟨none, 0, e, hz, by omega, fun _ => rfl⟩
  · have hlt := (Array.getElem?_eq_some_iff.1 hh).1
    by_cases h0 : zs = []
    · subst h0
      exact .inl ⟨_, cap, e, rfl, hm, fun h => by cases h⟩
    · refine .inr ⟨g, 0, cap, e, h0, hl, hm, hlt, fun j hj => ?_⟩
      rw [Nat.zero_add, block_cell ((hb g hg hlt).trans hh)]
      exact cur_at hc j hj

/-- append onto a slice of no place: bytes of their own. -/
theorem run_app_new {P : Program} (w : World) (t ty : TypeId) (i : TypeInfo) (ht : P.underlying t = some (.slice 5)) (hi : P.info? 5 = some i) (hz : i.zero = some (.int .u8 0)) (hsize : i.size = 1) (hby : i.bytes = 1)
    (g n₀ : Nat) (sx : Value) (zs : List Int) (hI : Rd n₀ w sx zs) (hbd : zs.length ≤ 140737488355328) :
    ∃ a' cap' w', (Builtin.append_ #[t, t] ty #[.slice (some ⟨g, 0, none⟩) 0 0, sx]).run P w = .ok (.slice a' zs.length cap') w' ∧ (∀ W', (∀ b, w.heap.size ≤ b → b < w'.heap.size → W'.heap[b]? = w'.heap[b]?) → Rd w'.heap.size W' (.slice a' zs.length cap') zs) ∧ Below w.heap.size w w' := by
  rcases hI with ⟨ao, cap, rfl, rfl, hm, hn⟩ | ⟨b, off, cap, rfl, hze, hl, hm, hb, hc⟩
  · refine ⟨some ⟨g, 0, none⟩, 0, w, ?_, fun _ _ => .inl ⟨_, 0, rfl, rfl, by omega, fun h => by cases h⟩, Below.refl _ _⟩
    cases ao with
    | none =>
      obtain rfl := hn rfl
      exact app_nil w t ty 5 i ht hi g _
    | some ad =>
      have := run_append_room_cells (P := P) w t ty 5 i ht hi g 0 0 0 ad 0 cap [] (by simp) (fun j u hj => by simp at hj) (fun u hu => by simp at hu) (by omega) (fun j hj => by simp at hj) (fun j hj => by simp at hj)
      exact this
  · have hz0 : 0 < zs.length := by cases zs with | nil => exact absurd rfl hze | cons _ _ => simp
    obtain ⟨v', w', hr, h2, h3⟩ := run_append_arg_grows (P := P) w t ty 5 i (.int .u8 0) 1 1 ht hi hz hsize hby rfl (by decide) ⟨g, 0, none⟩ 0 0 [] (by simp)
      (fun j u hj => by simp at hj)
      ⟨b, off, none⟩ zs.length cap (zs.map (Value.int .u8)) (by simp)
      (fun j u hj => by
        have hj' : j < zs.length := by have := (List.getElem?_eq_some_iff.1 hj).1; simpa using this
        rw [show (⟨b, off, none⟩ : Addr).add j = ⟨b, off + j, none⟩ from by unfold Addr.add; split <;> simp_all, hc j hj', ← hj]
        simp [hj'])
      (by omega) (by unfold maxLen; omega) (by omega)
    rw [List.nil_append] at h2
    have hO := Ow.of_row h2
    obtain ⟨a', cap', rfl, _, _⟩ := hO.slice
    exact ⟨a', cap', w', hr, fun W' h => hO.rd_at h, (Below.refl _ w).grown h3 (Nat.le_refl _) (fun _ e => by cases e)⟩

theorem heap_setCell_ne (W : World) (p : Addr) (v : Value) (b : Nat) (h : b ≠ p.block) : (W.setCell p v).heap[b]? = W.heap[b]? := by
  show (W.heap.modify p.block _)[b]? = _
  rw [Array.getElem?_modify, if_neg (fun e => h e.symm)]

theorem own_cells (W : World) (n : Nat) (A : Array Value) (hs : A.size = 9) (hA : ∀ j, W.cell? ⟨n, j, none⟩ = A[j]?) (x y : Value) (j : Nat) : ((W.setCell ⟨n, 8, none⟩ x).setCell ⟨n, 7, none⟩ y).cell? ⟨n, j, none⟩ = ((A.setIfInBounds 8 x).setIfInBounds 7 y)[j]? := by
  have h7 : W.cell? ⟨n, 7, none⟩ = some A[7] := by rw [hA]; simp [hs]
  have h8 : W.cell? ⟨n, 8, none⟩ = some A[8] := by rw [hA]; simp [hs]
  by_cases e7 : j = 7
  · subst e7
    rw [World.cell?_setCell_same _ _ _ (u := A[7]) (by rw [World.cell?_setCell_other _ _ _ _ (by simp)]; exact h7)]
    simp [hs]
  · rw [World.cell?_setCell_other _ _ _ _ (by simp <;> omega), Array.getElem?_setIfInBounds, if_neg (fun e => e7 e.symm)]
    by_cases e8 : j = 8
    · subst e8
      rw [World.cell?_setCell_same _ _ _ h8]
      simp [hs]
    · rw [World.cell?_setCell_other _ _ _ _ (by simp <;> omega), Array.getElem?_setIfInBounds, if_neg (fun e => e8 e.symm), hA]

theorem sm_self {tos id ttl proto src dst : Int} {keep : Bool} {zo zd : List Int} : smP tos id ttl proto src dst tos id ttl proto src dst keep keep zo zd zo zd = true := by simp [smP]
theorem sm_ttl (tos id ttl proto src dst : Int) (keep : Bool) (zo zd : List Int) (_h : 0 ≤ ttl ∧ ttl ≤ 255) : smP tos id ttl proto src dst tos id ((ttl + 1) % 256) proto src dst keep keep zo zd zo zd = false := by
  have : (ttl == (ttl + 1) % 256) = false := by simp; omega
  simp [smP, this]
theorem sm_comm {tos1 id1 ttl1 proto1 src1 dst1 tos2 id2 ttl2 proto2 src2 dst2 : Int} {keep1 keep2 : Bool} {zo1 zd1 zo2 zd2 : List Int} : smP tos2 id2 ttl2 proto2 src2 dst2 tos1 id1 ttl1 proto1 src1 dst1 keep2 keep1 zo2 zd2 zo1 zd1 = smP tos1 id1 ttl1 proto1 src1 dst1 tos2 id2 ttl2 proto2 src2 dst2 keep1 keep2 zo1 zd1 zo2 zd2 := by
  unfold smP
  rw [Bool.beq_comm (a := keep2), show (tos2 == tos1) = (tos1 == tos2) from BEq.comm, show (id2 == id1) = (id1 == id2) from BEq.comm, show (ttl2 == ttl1) = (ttl1 == ttl2) from BEq.comm, show (proto2 == proto1) = (proto1 == proto2) from BEq.comm, show (src2 == src1) = (src1 == src2) from BEq.comm, show (dst2 == dst1) = (dst1 == dst2) from BEq.comm, decide_eq_decide.2 (eq_comm (a := zo2)), decide_eq_decide.2 (eq_comm (a := zd2))]

section
variable {P : Program} {C : World → Prop} {o : Oper} {a : Act} {K : Act → Prop}
theorem quiet_at (v : Value) (h : ∀ w, C w → (execOp a.eval o).run P w = .ok (.value v) w) (hk : K (a.put o.dst v)) : o.quiet P a C K := ⟨v, fun w hw => by unfold Oper.quietAt; rw [h w hw]; exact ⟨rfl, rfl⟩, hk⟩
theorem quiet_call (f : FuncId) (args : Array Value) (v : Value) (h : ∀ w, C w → (execOp a.eval o).run P w = .ok (.enter f args) w) (hc : ∀ w, C w → Calls P f args w fun e w' => e = .returned v ∧ C w') (hk : K (a.put o.dst v)) : o.quiet P a C K := ⟨v, fun w hw => by unfold Oper.quietAt; rw [h w hw]; exact ⟨rfl, hc w hw⟩, hk⟩
theorem quiet_ex (h : ∃ v, (∀ w, C w → (execOp a.eval o).run P w = .ok (.value v) w) ∧ K (a.put o.dst v)) : o.quiet P a C K := by
  obtain ⟨v, h1, h2⟩ := h
  exact quiet_at v h1 h2
end

theorem wpQuiet_region {P : Program} {C : World → Prop} {id : Nat} {Q : Exit → Act → World → Prop} {a : Act} {w : World} {l : List Oper} (hm : P.follows .mixedOrders = true) (hB : Region.lexB .any l.toArray = true) (hC : C w.drew)
    (h : wpQuiet P l.toArray C (fun a' => ∀ w', C w' → Q .normal a' w') l a) : (Code.region id l.toArray true).wp P Q a w :=
  wp_region_quiet (C := C) hm hB hC (by simpa using h)

theorem cell_new' (w : World) (n : Nat) (h : w.heap.size = n) (arr : Array Value) (e : TypeId) (j : Nat) : (w.alloc (.cells arr e)).cell? ⟨n, j, none⟩ = arr[j]? := by subst h; exact cell_new w arr e j
theorem frozen_new' (w : World) (n : Nat) (h : w.heap.size = n) (arr : Array Value) (e : TypeId) (j : Nat) : (w.alloc (.cells arr e)).frozen? ⟨n, j, none⟩ = false := by subst h; exact block_frozen (World.alloc_heap_new _ _) j
/-- Four boxes, one behind the other. -/
theorem boxes4 (w : World) (A1 A2 A3 A4 : Array Value) (t : TypeId) (WB : World) (hWB : WB = (((w.alloc (.cells A1 t)).alloc (.cells A2 t)).alloc (.cells A3 t)).alloc (.cells A4 t)) :
    Below w.heap.size w WB ∧ WB.heap.size = w.heap.size + 4 ∧ (∀ j, WB.cell? ⟨w.heap.size, j, none⟩ = A1[j]?) ∧ (∀ j, WB.cell? ⟨w.heap.size + 1, j, none⟩ = A2[j]?) ∧ (∀ j, WB.cell? ⟨w.heap.size + 1 + 1, j, none⟩ = A3[j]?) ∧
      (∀ j, WB.cell? ⟨w.heap.size + 1 + 1 + 1, j, none⟩ = A4[j]?) ∧ ∀ j, WB.frozen? ⟨w.heap.size + 1 + 1 + 1, j, none⟩ = false := by
  subst hWB
  refine ⟨((((Below.refl _ w).alloc (Nat.le_refl _) _).alloc (by simp) _).alloc (by simp <;> omega) _).alloc (by simp <;> omega) _, by simp, fun j => ?_, fun j => ?_, fun j => ?_, fun j => ?_, fun j => ?_⟩
  · rw [World.cell?_alloc_lt _ _ _ (by simp <;> omega), World.cell?_alloc_lt _ _ _ (by simp <;> omega), World.cell?_alloc_lt _ _ _ (by simp), cell_new]
  · rw [World.cell?_alloc_lt _ _ _ (by simp <;> omega), World.cell?_alloc_lt _ _ _ (by simp), cell_new' _ _ (by simp)]
  · rw [World.cell?_alloc_lt _ _ _ (by simp), cell_new' _ _ (by simp)]
  · rw [cell_new' _ _ (by simp)]
  · rw [frozen_new' _ _ (by simp)]

set_option maxHeartbeats 4000000 in
theorem walk_Ipv4Same (w : World) (tos id ttl proto src dst : Int) (keep : Bool) (so sd : Value) (zo zd : List Int) (hBo : Mt.By zo) (hBd : Mt.By zd) (hIo : Rd w.heap.size w so zo) (hId : Rd w.heap.size w sd zd) (hlo : zo.length ≤ 140737488355328) (hld : zd.length ≤ 140737488355328)
    (ht : 0 ≤ tos ∧ tos ≤ 255) (hid : 0 ≤ id ∧ id ≤ 65535) (htt : 0 ≤ ttl ∧ ttl ≤ 255) (hpr : 0 ≤ proto ∧ proto ≤ 255) (hsr : 0 ≤ src ∧ src ≤ 4294967295) (hds : 0 ≤ dst ∧ dst ≤ 4294967295)
    (tos2 id2 ttl2 proto2 src2 dst2 : Int) (keep2 : Bool) (so2 sd2 : Value) (zo2 zd2 : List Int) (hBo2 : Mt.By zo2) (hBd2 : Mt.By zd2) (hIo2 : Rd w.heap.size w so2 zo2) (hId2 : Rd w.heap.size w sd2 zd2) (hlo2 : zo2.length ≤ 140737488355328) (hld2 : zd2.length ≤ 140737488355328)
    (ht2 : 0 ≤ tos2 ∧ tos2 ≤ 255) (hid2 : 0 ≤ id2 ∧ id2 ≤ 65535) (htt2 : 0 ≤ ttl2 ∧ ttl2 ≤ 255) (hpr2 : 0 ≤ proto2 ∧ proto2 ≤ 255) (hsr2 : 0 ≤ src2 ∧ src2 ≤ 4294967295) (hds2 : 0 ≤ dst2 ∧ dst2 ≤ 4294967295) :
    Calls Try.prog 3 #[.agg #[.int .u8 tos, .int .u16 id, .bool keep, .int .u8 ttl, .int .u8 proto, .int .u32 src, .int .u32 dst, so, sd], .agg #[.int .u8 tos2, .int .u16 id2, .bool keep2, .int .u8 ttl2, .int .u8 proto2, .int .u32 src2, .int .u32 dst2, so2, sd2]] w fun e w' => e = .returned (.bool true) ∧ Below w.heap.size w w' := by
  obtain ⟨i0, hi, hz0, hz1, hz2⟩ := info_parts info_u8
  obtain ⟨ao, co, rfl, hl1, hm1⟩ := hIo.slice
  obtain ⟨ad, cd, rfl, hl2, hm2⟩ := hId.slice
  obtain ⟨ao2, co2, rfl, hl12, hm12⟩ := hIo2.slice
  obtain ⟨ad2, cd2, rfl, hl22, hm22⟩ := hId2.slice
  go_enter Try.func3, Try.ntmps3
  go_wp2_with fail
  have HW : ∃ WB, WB = (((w.alloc (.cells #[.int .u8 tos, .int .u16 id, .bool keep, .int .u8 ttl, .int .u8 proto, .int .u32 src, .int .u32 dst, .slice ao zo.length co, .slice ad zd.length cd] 26)).alloc (.cells #[.int .u8 tos2, .int .u16 id2, .bool keep2, .int .u8 ttl2, .int .u8 proto2, .int .u32 src2, .int .u32 dst2, .slice ao2 zo2.length co2, .slice ad2 zd2.length cd2] 26)).alloc (.cells #[.int .u8 tos, .int .u16 id, .bool keep, .int .u8 ((ttl + 1) % 256), .int .u8 proto, .int .u32 src, .int .u32 dst, .slice ao zo.length co, .slice ad zd.length cd] 26)).alloc (.cells #[.int .u8 tos, .int .u16 id, .bool keep, .int .u8 ttl, .int .u8 proto, .int .u32 src, .int .u32 dst, .slice ao zo.length co, .slice ad zd.length cd] 26) := ⟨_, rfl⟩
  obtain ⟨WB, hWB⟩ := HW
  rw [← hWB]
  obtain ⟨hbB, hsB, p0, p1, p2, p3, p4⟩ := boxes4 w _ _ _ _ _ WB hWB
  have P0 := hide p0
  have P1 := hide p1
  have P2 := hide p2
  have P3 := hide p3
  have P4 := hide p4
  have hBoR := hide (hIo.below hbB)
  have hBdR := hide (hId.below hbB)
  have x8 := p0 8
  have x7 := p0 7
  simp at x8 x7
  have d1 := (below_draw (Below.refl WB.heap.size WB) 1).alloc (by simp) (.cells #[] 5)
  have d2 := d1.alloc (by simp) (.cells #[] 5)
  have I1 := hide hIo
  have I2 := hide hId
  have I3 := hide hIo2
  have I4 := hide hId2
  have HS := hide hsB
  have HB := hide hbB
  have c8 : ∀ w', Below (w.heap.size + 3) WB w' → w'.cell? ⟨w.heap.size, 8, none⟩ = some (.slice ad zd.length cd) := fun w' h => (h.cell (p := ⟨w.heap.size, 8, none⟩) (by show w.heap.size < _; omega)).trans x8
  have c7 : ∀ w', Below (w.heap.size + 3) WB w' → w'.cell? ⟨w.heap.size, 7, none⟩ = some (.slice ao zo.length co) := fun w' h => (h.cell (p := ⟨w.heap.size, 7, none⟩) (by show w.heap.size < _; omega)).trans x7
  clear p0 p1 p2 p3 p4 hWB hIo hId hIo2 hId2 hsB hbB x7 x8
  have d0 : Below WB.heap.size WB WB.drew := below_draw (Below.refl WB.heap.size WB) 1
  refine wp_region_held_drew (S := fun w' => Below (w.heap.size + 3) WB w' ∧ WB.heap.size ≤ w'.heap.size) (by kernel_rfl) ⟨d0.mono (by rw [HS.out]; omega), d0.size⟩ (fun hHeld => ?_)
  refine wpAnyH_take (i := 1) (oi := { dst := some 14, op := .fieldAddr 26 (.tmp 2) 8, type := 0, pos := "law.go:141", after := #[], guard := none }) (v := .pointer (some ⟨w.heap.size, 8, none⟩)) rfl (by kernel_rfl) (by kernel_rfl) (by kernel_rfl) (fun _ _ _ h => h) (Or.inl ⟨by rfl, ?_⟩) (by assumption) ?_
  · intro w' hSw
    go_simp
  simp only [Act.put, List.setIfInBounds_toArray, List.set_cons_zero, List.set_cons_succ]
  refine wpAnyH_take (i := 2) (oi := { dst := some 15, op := .load 24 (.tmp 14), type := 24, pos := "law.go:141", after := #[{ on := 1, ground := .data }], guard := none }) (v := .slice ad zd.length cd) rfl (by kernel_rfl) (by kernel_rfl) (by kernel_rfl) (fun _ _ _ h => h) (Or.inl ⟨by rfl, ?_⟩) (by assumption) ?_
  · intro w' hSw
    go_simp
  simp only [Act.put, List.setIfInBounds_toArray, List.set_cons_zero, List.set_cons_succ]
  refine wpAnyH_take (i := 5) (oi := { dst := some 18, op := .fieldAddr 26 (.tmp 2) 7, type := 0, pos := "law.go:141", after := #[], guard := none }) (v := .pointer (some ⟨w.heap.size, 7, none⟩)) rfl (by kernel_rfl) (by kernel_rfl) (by kernel_rfl) (fun _ _ _ h => h) (Or.inl ⟨by rfl, ?_⟩) (by assumption) ?_
  · intro w' hSw
    go_simp
  simp only [Act.put, List.setIfInBounds_toArray, List.set_cons_zero, List.set_cons_succ]
  refine wpAnyH_take (i := 6) (oi := { dst := some 19, op := .load 24 (.tmp 18), type := 24, pos := "law.go:141", after := #[{ on := 5, ground := .data }], guard := none }) (v := .slice ao zo.length co) rfl (by kernel_rfl) (by kernel_rfl) (by kernel_rfl) (fun _ _ _ h => h) (Or.inl ⟨by rfl, ?_⟩) (by assumption) ?_
  · intro w' hSw
    go_simp
  simp only [Act.put, List.setIfInBounds_toArray, List.set_cons_zero, List.set_cons_succ]
  refine wpAnyH_ready (rs := [0, 4]) (by kernel_rfl) (by simp) ?_
  refine AllReadyH.cons rfl (fun K hK => ?_) (AllReadyH.cons rfl (fun K hK => ?_) AllReadyH.nil)
  · go_simp
    have dp := d0.alloc d0.size (.cells #[] 5)
    refine hK.out _ _ ⟨dp.mono (by rw [HS.out]; omega), dp.size⟩ (fun hHeld => ?_)
    clear hK K
    refine wpAnyH_ready (rs := [3, 4]) (by kernel_rfl) (by simp) ?_
    refine AllReadyH.cons rfl (fun K hK => ?_) (AllReadyH.cons rfl (fun K hK => ?_) AllReadyH.nil)
    · obtain ⟨aq, capq, wq, hrun, hRq, hbq⟩ := run_app_new (P := Try.prog) _ 24 24 i0 Try.underlying24 hi hz0 hz1 hz2 _ w.heap.size _ zd ((I2.out.below HB.out).below (dp.mono (by rw [HS.out]; omega))) hld
      refine step_run rfl (.tmp 13) (.tmp 15) 24 rfl _ _ rfl rfl (.slice aq zd.length capq) wq hrun ?_
      have dq := dp.trans (hbq.mono dp.size)
      clear hrun
      simp only [Act.put, List.setIfInBounds_toArray, List.set_cons_zero, List.set_cons_succ]
      refine hK.out _ _ ⟨dq.mono (by rw [HS.out]; omega), dq.size⟩ (fun hHeld => ?_)
      clear hK K
      refine wpAnyH_take (i := 8) (oi := { dst := some 21, op := .fieldAddr 26 (.tmp 6) 8, type := 0, pos := "law.go:141", after := #[{ on := 0, ground := .phase }, { on := 1, ground := .phase }, { on := 2, ground := .phase }, { on := 3, ground := .phase }, { on := 4, ground := .textOnly .lateStores }, { on := 5, ground := .textOnly .lateStores }, { on := 6, ground := .textOnly .lateStores }, { on := 7, ground := .textOnly .lateStoresUnsure }], guard := none }) (v := .pointer (some ⟨w.heap.size + 1 + 1 + 1, 8, none⟩)) rfl (by kernel_rfl) (by kernel_rfl) (by kernel_rfl) (fun _ _ _ h => h) (Or.inl ⟨by rfl, ?_⟩) (by assumption) ?_
      · intro w' hSw
        go_simp
      simp only [Act.put, List.setIfInBounds_toArray, List.set_cons_zero, List.set_cons_succ]
      refine wpAnyH_ready (rs := [4]) (by kernel_rfl) (by simp) ?_
      refine AllReadyH.cons rfl (fun K hK => ?_) AllReadyH.nil
      go_simp
      have ds := dq.alloc dq.size (.cells #[] 5)
      refine hK.out _ _ ⟨ds.mono (by rw [HS.out]; omega), ds.size⟩ (fun hHeld => ?_)
      clear hK K
      refine wpAnyH_ready (rs := [7]) (by kernel_rfl) (by simp) ?_
      refine AllReadyH.cons rfl (fun K hK => ?_) AllReadyH.nil
      obtain ⟨ar, capr, wr, hrun, hRr, hbr⟩ := run_app_new (P := Try.prog) _ 24 24 i0 Try.underlying24 hi hz0 hz1 hz2 _ w.heap.size _ zo ((I1.out.below HB.out).below (ds.mono (by rw [HS.out]; omega))) hlo
      refine step_run rfl (.tmp 17) (.tmp 19) 24 rfl _ _ rfl rfl (.slice ar zo.length capr) wr hrun ?_
      have dr := ds.trans (hbr.mono ds.size)
      clear hrun
      simp only [Act.put, List.setIfInBounds_toArray, List.set_cons_zero, List.set_cons_succ]
      refine hK.out _ _ ⟨dr.mono (by rw [HS.out]; omega), dr.size⟩ (fun hHeld => ?_)
      clear hK K
      have f8 : wr.frozen? ⟨w.heap.size + 1 + 1 + 1, 8, none⟩ = false := (dr.frozen (p := ⟨w.heap.size + 1 + 1 + 1, 8, none⟩) (by rw [HS.out]; show _ + 1 + 1 + 1 < _; omega)).trans (P4.out 8)
      have k8 : wr.cell? ⟨w.heap.size + 1 + 1 + 1, 8, none⟩ = some _ := ((dr.cell (p := ⟨w.heap.size + 1 + 1 + 1, 8, none⟩) (by rw [HS.out]; show _ + 1 + 1 + 1 < _; omega)).trans (P3.out 8)).trans rfl
      have f7 : wr.frozen? ⟨w.heap.size + 1 + 1 + 1, 7, none⟩ = false := (dr.frozen (p := ⟨w.heap.size + 1 + 1 + 1, 7, none⟩) (by rw [HS.out]; show _ + 1 + 1 + 1 < _; omega)).trans (P4.out 7)
      have k7 : wr.cell? ⟨w.heap.size + 1 + 1 + 1, 7, none⟩ = some _ := ((dr.cell (p := ⟨w.heap.size + 1 + 1 + 1, 7, none⟩) (by rw [HS.out]; show _ + 1 + 1 + 1 < _; omega)).trans (P3.out 7)).trans rfl
      have m : Below (w.heap.size + 3) WB wr := dr.mono (by rw [HS.out]; omega)
      refine wpAnyH_ready (rs := [9]) (by kernel_rfl) (by simp) ?_
      refine AllReadyH.cons rfl (fun K hK => ?_) AllReadyH.nil
      go_simp
      refine hK.out _ _ ⟨m.setCell (p := ⟨w.heap.size + 1 + 1 + 1, 8, none⟩) (Nat.le_refl _) _, by simpa using dr.size⟩ (fun hHeld => ?_)
      clear hK K
      refine wpAnyH_take (i := 10) (oi := { dst := some 22, op := .fieldAddr 26 (.tmp 6) 7, type := 0, pos := "law.go:141", after := #[{ on := 0, ground := .phase }, { on := 1, ground := .phase }, { on := 2, ground := .phase }, { on := 3, ground := .phase }, { on := 4, ground := .phase }, { on := 5, ground := .phase }, { on := 6, ground := .phase }, { on := 7, ground := .phase }, { on := 8, ground := .phase }, { on := 9, ground := .phase }], guard := none }) (v := .pointer (some ⟨w.heap.size + 1 + 1 + 1, 7, none⟩)) rfl (by kernel_rfl) (by kernel_rfl) (by kernel_rfl) (fun _ _ _ h => h) (Or.inl ⟨by rfl, ?_⟩) (by assumption) ?_
      · intro w' hSw
        go_simp
      simp only [Act.put, List.setIfInBounds_toArray, List.set_cons_zero, List.set_cons_succ]
      refine wpAnyH_ready (rs := [11]) (by kernel_rfl) (by simp) ?_
      refine AllReadyH.cons rfl (fun K hK => ?_) AllReadyH.nil
      go_simp
      refine hK.out _ _ ⟨(m.setCell (p := ⟨w.heap.size + 1 + 1 + 1, 8, none⟩) (Nat.le_refl _) _).setCell (p := ⟨w.heap.size + 1 + 1 + 1, 7, none⟩) (Nat.le_refl _) _, by simpa using dr.size⟩ (fun hHeld => ?_)
      clear hK K f8 f7 k8 k7 c8 c7
      refine wpAnyH_done (by kernel_rfl) ?_ _
      have mF : Below (w.heap.size + 3) WB ((wr.setCell ⟨w.heap.size + 1 + 1 + 1, 8, none⟩ (.slice aq zd.length capq)).setCell ⟨w.heap.size + 1 + 1 + 1, 7, none⟩ (.slice ar zo.length capr)) := (m.setCell (p := ⟨w.heap.size + 1 + 1 + 1, 8, none⟩) (Nat.le_refl _) _).setCell (p := ⟨w.heap.size + 1 + 1 + 1, 7, none⟩) (Nat.le_refl _) _
      have hq2 : Below wq.heap.size wq wr := ((Below.refl wq.heap.size wq).alloc (Nat.le_refl _) _).trans (hbr.mono (by simp))
      have hRQ := hRq ((wr.setCell ⟨w.heap.size + 1 + 1 + 1, 8, none⟩ (.slice aq zd.length capq)).setCell ⟨w.heap.size + 1 + 1 + 1, 7, none⟩ (.slice ar zo.length capr)) (fun b h1 h2 => by have := dp.size; rw [HS.out] at this; rw [heap_setCell_ne _ _ _ _ (by show b ≠ w.heap.size + 1 + 1 + 1; omega), heap_setCell_ne _ _ _ _ (by show b ≠ w.heap.size + 1 + 1 + 1; omega), hq2.block b h2])
      have hRR := hRr ((wr.setCell ⟨w.heap.size + 1 + 1 + 1, 8, none⟩ (.slice aq zd.length capq)).setCell ⟨w.heap.size + 1 + 1 + 1, 7, none⟩ (.slice ar zo.length capr)) (fun b h1 h2 => by have := ds.size; rw [HS.out] at this; rw [heap_setCell_ne _ _ _ _ (by show b ≠ w.heap.size + 1 + 1 + 1; omega), heap_setCell_ne _ _ _ _ (by show b ≠ w.heap.size + 1 + 1 + 1; omega)])
      have hoc := own_cells wr (w.heap.size + 1 + 1 + 1) #[Value.int .u8 tos, .int .u16 id, .bool keep, .int .u8 ttl, .int .u8 proto, .int .u32 src, .int .u32 dst, .slice ao zo.length co, .slice ad zd.length cd] rfl (fun j => (dr.cell (p := ⟨w.heap.size + 1 + 1 + 1, j, none⟩) (by rw [HS.out]; show _ + 1 + 1 + 1 < _; omega)).trans (P3.out j)) (.slice aq zd.length capq) (.slice ar zo.length capr)
      have hsz : ((wr.setCell ⟨w.heap.size + 1 + 1 + 1, 8, none⟩ (.slice aq zd.length capq)).setCell ⟨w.heap.size + 1 + 1 + 1, 7, none⟩ (.slice ar zo.length capr)).heap.size = wr.heap.size := by simp
      have hs4 := Nat.le_trans (Nat.le_of_eq HS.out.symm) dr.size
      rw [← hsz] at hRR hs4
      have hRQ' := hRQ.mono (Nat.le_trans hq2.size (Nat.le_of_eq hsz.symm))
      clear hRQ hsz hq2 hHeld
      generalize (wr.setCell ⟨w.heap.size + 1 + 1 + 1, 8, none⟩ (.slice aq zd.length capq)).setCell ⟨w.heap.size + 1 + 1 + 1, 7, none⟩ (.slice ar zo.length capr) = WF at *
      have hWF : Below w.heap.size w WF := HB.out.trans (mF.mono (by omega))
      have E0 : Hid (∀ w', Below WF.heap.size WF w' → ∀ j, w'.cell? ⟨w.heap.size, j, none⟩ = #[Value.int .u8 tos, .int .u16 id, .bool keep, .int .u8 ttl, .int .u8 proto, .int .u32 src, .int .u32 dst, .slice ao zo.length co, .slice ad zd.length cd][j]?) := fun w' h j => (h.cell (p := ⟨w.heap.size, j, none⟩) (by show w.heap.size < _; omega)).trans ((mF.cell (p := ⟨w.heap.size, j, none⟩) (by show w.heap.size < _; omega)).trans (P0.out j))
      have E1 : Hid (∀ w', Below WF.heap.size WF w' → ∀ j, w'.cell? ⟨w.heap.size + 1, j, none⟩ = #[Value.int .u8 tos2, .int .u16 id2, .bool keep2, .int .u8 ttl2, .int .u8 proto2, .int .u32 src2, .int .u32 dst2, .slice ao2 zo2.length co2, .slice ad2 zd2.length cd2][j]?) := fun w' h j => (h.cell (p := ⟨w.heap.size + 1, j, none⟩) (by show w.heap.size + 1 < _; omega)).trans ((mF.cell (p := ⟨w.heap.size + 1, j, none⟩) (by show w.heap.size + 1 < _; omega)).trans (P1.out j))
      have E2 : Hid (∀ w', Below WF.heap.size WF w' → ∀ j, w'.cell? ⟨w.heap.size + 1 + 1, j, none⟩ = #[Value.int .u8 tos, .int .u16 id, .bool keep, .int .u8 ((ttl + 1) % 256), .int .u8 proto, .int .u32 src, .int .u32 dst, .slice ao zo.length co, .slice ad zd.length cd][j]?) := fun w' h j => (h.cell (p := ⟨w.heap.size + 1 + 1, j, none⟩) (by show w.heap.size + 1 + 1 < _; omega)).trans ((mF.cell (p := ⟨w.heap.size + 1 + 1, j, none⟩) (by show w.heap.size + 1 + 1 < _; omega)).trans (P2.out j))
      have E3 : Hid (∀ w', Below WF.heap.size WF w' → ∀ j, w'.cell? ⟨w.heap.size + 1 + 1 + 1, j, none⟩ = #[Value.int .u8 tos, .int .u16 id, .bool keep, .int .u8 ttl, .int .u8 proto, .int .u32 src, .int .u32 dst, .slice ar zo.length capr, .slice aq zd.length capq][j]?) := fun w' h j => (h.cell (p := ⟨w.heap.size + 1 + 1 + 1, j, none⟩) (by show w.heap.size + 1 + 1 + 1 < _; omega)).trans (hoc j)
      have R1 : Hid (∀ w', Below WF.heap.size WF w' → Rd w'.heap.size w' (.slice ao zo.length co) zo) := fun w' h => ((I1.out.below hWF).below (h.mono hWF.size)).mono (Nat.le_trans hWF.size h.size)
      have R2 : Hid (∀ w', Below WF.heap.size WF w' → Rd w'.heap.size w' (.slice ad zd.length cd) zd) := fun w' h => ((I2.out.below hWF).below (h.mono hWF.size)).mono (Nat.le_trans hWF.size h.size)
      have R3 : Hid (∀ w', Below WF.heap.size WF w' → Rd w'.heap.size w' (.slice ao2 zo2.length co2) zo2) := fun w' h => ((I3.out.below hWF).below (h.mono hWF.size)).mono (Nat.le_trans hWF.size h.size)
      have R4 : Hid (∀ w', Below WF.heap.size WF w' → Rd w'.heap.size w' (.slice ad2 zd2.length cd2) zd2) := fun w' h => ((I4.out.below hWF).below (h.mono hWF.size)).mono (Nat.le_trans hWF.size h.size)
      have R5 : Hid (∀ w', Below WF.heap.size WF w' → Rd w'.heap.size w' (.slice ar zo.length capr) zo) := fun w' h => (hRR.below h).mono h.size
      have R6 : Hid (∀ w', Below WF.heap.size WF w' → Rd w'.heap.size w' (.slice aq zd.length capq) zd) := fun w' h => (hRQ'.below h).mono h.size
      clear hRQ' hRR hoc hRq hRr hbq hbr P0 P1 P2 P3 P4 mF m hs4 dr dq dp ds d0
      go_wp2_with fail
      refine wpQuiet_region (C := fun w' => Below WF.heap.size WF w') (by kernel_rfl) (by kernel_rfl) (below_draw (Below.refl _ _) 1) ?_
      go_big_quiet_want
      refine quiet_call 6 #[] (.bool true) (fun w' hw' => ?_) (fun w' hw' => ?_) ?_
      · go_simp
      · exact (live2_any w').mono fun e w'' ⟨he, hb⟩ => ⟨he, hw'.trans (hb.mono hw'.size)⟩
      go_simp
      go_big_quiet_on
      (first | go_big_quiet_skip | (go_big_quiet_want; first | (refine quiet_move _ rfl ?_; go_big_quiet_on) | (refine quiet_assign _ rfl ?_; go_big_quiet_on) | (refine quiet_ex ?_; apply Exists.intro; refine ⟨fun w' hw' => ?_, ?_⟩; (· (go_simp; rfl)); go_simp; go_big_quiet_on)))
      go_big_quiet_want
      refine quiet_at (.agg #[Value.int .u8 tos, .int .u16 id, .bool keep, .int .u8 ttl, .int .u8 proto, .int .u32 src, .int .u32 dst, .slice ao zo.length co, .slice ad zd.length cd]) (fun w' hw' => ?_) ?_
      · have e0 := E0.out w' hw' 0
        have e1 := E0.out w' hw' 1
        have e2 := E0.out w' hw' 2
        have e3 := E0.out w' hw' 3
        have e4 := E0.out w' hw' 4
        have e5 := E0.out w' hw' 5
        have e6 := E0.out w' hw' 6
        have e7 := E0.out w' hw' 7
        have e8 := E0.out w' hw' 8
        simp at e0 e1 e2 e3 e4 e5 e6 e7 e8
        go_simp
      go_simp
      go_big_quiet_on
      go_big_quiet_want
      refine quiet_at (.agg #[Value.int .u8 tos, .int .u16 id, .bool keep, .int .u8 ttl, .int .u8 proto, .int .u32 src, .int .u32 dst, .slice ar zo.length capr, .slice aq zd.length capq]) (fun w' hw' => ?_) ?_
      · have e0 := E3.out w' hw' 0
        have e1 := E3.out w' hw' 1
        have e2 := E3.out w' hw' 2
        have e3 := E3.out w' hw' 3
        have e4 := E3.out w' hw' 4
        have e5 := E3.out w' hw' 5
        have e6 := E3.out w' hw' 6
        have e7 := E3.out w' hw' 7
        have e8 := E3.out w' hw' 8
        simp at e0 e1 e2 e3 e4 e5 e6 e7 e8
        go_simp
      go_simp
      go_big_quiet_on
      go_big_quiet_want
      refine quiet_call 7 #[.agg #[Value.int .u8 tos, .int .u16 id, .bool keep, .int .u8 ttl, .int .u8 proto, .int .u32 src, .int .u32 dst, .slice ao zo.length co, .slice ad zd.length cd], .agg #[Value.int .u8 tos, .int .u16 id, .bool keep, .int .u8 ttl, .int .u8 proto, .int .u32 src, .int .u32 dst, .slice ar zo.length capr, .slice aq zd.length capq]] (.bool true) (fun w' hw' => ?_) (fun w' hw' => ?_) ?_
      · go_simp
      · exact (same_any tos id ttl proto src dst tos id ttl proto src dst keep keep _ _ _ _ zo zd zo zd w' hBo hBd hBo hBd (R1.out w' hw') (R2.out w' hw') (R5.out w' hw') (R6.out w' hw')).mono fun e w'' ⟨he, hb⟩ => ⟨by rw [he, sm_self], hw'.trans (hb.mono hw'.size)⟩
      go_simp
      go_big_quiet_on
      (first | go_big_quiet_skip | (go_big_quiet_want; first | (refine quiet_move _ rfl ?_; go_big_quiet_on) | (refine quiet_assign _ rfl ?_; go_big_quiet_on) | (refine quiet_ex ?_; apply Exists.intro; refine ⟨fun w' hw' => ?_, ?_⟩; (· (go_simp; rfl)); go_simp; go_big_quiet_on)))
      (first | go_big_quiet_skip | (go_big_quiet_want; first | (refine quiet_move _ rfl ?_; go_big_quiet_on) | (refine quiet_assign _ rfl ?_; go_big_quiet_on) | (refine quiet_ex ?_; apply Exists.intro; refine ⟨fun w' hw' => ?_, ?_⟩; (· (go_simp; rfl)); go_simp; go_big_quiet_on)))
      go_big_quiet_want
      refine quiet_at (.agg #[Value.int .u8 tos, .int .u16 id, .bool keep, .int .u8 ttl, .int .u8 proto, .int .u32 src, .int .u32 dst, .slice ar zo.length capr, .slice aq zd.length capq]) (fun w' hw' => ?_) ?_
      · have e0 := E3.out w' hw' 0
        have e1 := E3.out w' hw' 1
        have e2 := E3.out w' hw' 2
        have e3 := E3.out w' hw' 3
        have e4 := E3.out w' hw' 4
        have e5 := E3.out w' hw' 5
        have e6 := E3.out w' hw' 6
        have e7 := E3.out w' hw' 7
        have e8 := E3.out w' hw' 8
        simp at e0 e1 e2 e3 e4 e5 e6 e7 e8
        go_simp
      go_simp
      go_big_quiet_on
      go_big_quiet_want
      refine quiet_at (.agg #[Value.int .u8 tos, .int .u16 id, .bool keep, .int .u8 ttl, .int .u8 proto, .int .u32 src, .int .u32 dst, .slice ao zo.length co, .slice ad zd.length cd]) (fun w' hw' => ?_) ?_
      · have e0 := E0.out w' hw' 0
        have e1 := E0.out w' hw' 1
        have e2 := E0.out w' hw' 2
        have e3 := E0.out w' hw' 3
        have e4 := E0.out w' hw' 4
        have e5 := E0.out w' hw' 5
        have e6 := E0.out w' hw' 6
        have e7 := E0.out w' hw' 7
        have e8 := E0.out w' hw' 8
        simp at e0 e1 e2 e3 e4 e5 e6 e7 e8
        go_simp
      go_simp
      go_big_quiet_on
      go_big_quiet_want
      refine quiet_call 7 #[.agg #[Value.int .u8 tos, .int .u16 id, .bool keep, .int .u8 ttl, .int .u8 proto, .int .u32 src, .int .u32 dst, .slice ar zo.length capr, .slice aq zd.length capq], .agg #[Value.int .u8 tos, .int .u16 id, .bool keep, .int .u8 ttl, .int .u8 proto, .int .u32 src, .int .u32 dst, .slice ao zo.length co, .slice ad zd.length cd]] (.bool true) (fun w' hw' => ?_) (fun w' hw' => ?_) ?_
      · go_simp
      · exact (same_any tos id ttl proto src dst tos id ttl proto src dst keep keep _ _ _ _ zo zd zo zd w' hBo hBd hBo hBd (R5.out w' hw') (R6.out w' hw') (R1.out w' hw') (R2.out w' hw')).mono fun e w'' ⟨he, hb⟩ => ⟨by rw [he, sm_self], hw'.trans (hb.mono hw'.size)⟩
      go_simp
      go_big_quiet_on
      (first | go_big_quiet_skip | (go_big_quiet_want; first | (refine quiet_move _ rfl ?_; go_big_quiet_on) | (refine quiet_assign _ rfl ?_; go_big_quiet_on) | (refine quiet_ex ?_; apply Exists.intro; refine ⟨fun w' hw' => ?_, ?_⟩; (· (go_simp; rfl)); go_simp; go_big_quiet_on)))
      (first | go_big_quiet_skip | (go_big_quiet_want; first | (refine quiet_move _ rfl ?_; go_big_quiet_on) | (refine quiet_assign _ rfl ?_; go_big_quiet_on) | (refine quiet_ex ?_; apply Exists.intro; refine ⟨fun w' hw' => ?_, ?_⟩; (· (go_simp; rfl)); go_simp; go_big_quiet_on)))
      go_big_quiet_want
      refine quiet_at (.agg #[Value.int .u8 tos, .int .u16 id, .bool keep, .int .u8 ttl, .int .u8 proto, .int .u32 src, .int .u32 dst, .slice ao zo.length co, .slice ad zd.length cd]) (fun w' hw' => ?_) ?_
      · have e0 := E0.out w' hw' 0
        have e1 := E0.out w' hw' 1
        have e2 := E0.out w' hw' 2
        have e3 := E0.out w' hw' 3
        have e4 := E0.out w' hw' 4
        have e5 := E0.out w' hw' 5
        have e6 := E0.out w' hw' 6
        have e7 := E0.out w' hw' 7
        have e8 := E0.out w' hw' 8
        simp at e0 e1 e2 e3 e4 e5 e6 e7 e8
        go_simp
      go_simp
      go_big_quiet_on
      go_big_quiet_want
      refine quiet_at (.agg #[Value.int .u8 tos, .int .u16 id, .bool keep, .int .u8 ((ttl + 1) % 256), .int .u8 proto, .int .u32 src, .int .u32 dst, .slice ao zo.length co, .slice ad zd.length cd]) (fun w' hw' => ?_) ?_
      · have e0 := E2.out w' hw' 0
        have e1 := E2.out w' hw' 1
        have e2 := E2.out w' hw' 2
        have e3 := E2.out w' hw' 3
        have e4 := E2.out w' hw' 4
        have e5 := E2.out w' hw' 5
        have e6 := E2.out w' hw' 6
        have e7 := E2.out w' hw' 7
        have e8 := E2.out w' hw' 8
        simp at e0 e1 e2 e3 e4 e5 e6 e7 e8
        go_simp
      go_simp
      go_big_quiet_on
      go_big_quiet_want
      refine quiet_call 7 #[.agg #[Value.int .u8 tos, .int .u16 id, .bool keep, .int .u8 ttl, .int .u8 proto, .int .u32 src, .int .u32 dst, .slice ao zo.length co, .slice ad zd.length cd], .agg #[Value.int .u8 tos, .int .u16 id, .bool keep, .int .u8 ((ttl + 1) % 256), .int .u8 proto, .int .u32 src, .int .u32 dst, .slice ao zo.length co, .slice ad zd.length cd]] (.bool false) (fun w' hw' => ?_) (fun w' hw' => ?_) ?_
      · go_simp
      · exact (same_any tos id ttl proto src dst tos id ((ttl + 1) % 256) proto src dst keep keep _ _ _ _ zo zd zo zd w' hBo hBd hBo hBd (R1.out w' hw') (R2.out w' hw') (R1.out w' hw') (R2.out w' hw')).mono fun e w'' ⟨he, hb⟩ => ⟨by rw [he, sm_ttl _ _ _ _ _ _ _ _ _ htt], hw'.trans (hb.mono hw'.size)⟩
      go_simp
      go_big_quiet_on
      (first | go_big_quiet_skip | (go_big_quiet_want; first | (refine quiet_move _ rfl ?_; go_big_quiet_on) | (refine quiet_assign _ rfl ?_; go_big_quiet_on) | (refine quiet_ex ?_; apply Exists.intro; refine ⟨fun w' hw' => ?_, ?_⟩; (· (go_simp; rfl)); go_simp; go_big_quiet_on)))
      (first | go_big_quiet_skip | (go_big_quiet_want; first | (refine quiet_move _ rfl ?_; go_big_quiet_on) | (refine quiet_assign _ rfl ?_; go_big_quiet_on) | (refine quiet_ex ?_; apply Exists.intro; refine ⟨fun w' hw' => ?_, ?_⟩; (· (go_simp; rfl)); go_simp; go_big_quiet_on)))
      (first | go_big_quiet_skip | (go_big_quiet_want; first | (refine quiet_move _ rfl ?_; go_big_quiet_on) | (refine quiet_assign _ rfl ?_; go_big_quiet_on) | (refine quiet_ex ?_; apply Exists.intro; refine ⟨fun w' hw' => ?_, ?_⟩; (· (go_simp; rfl)); go_simp; go_big_quiet_on)))
      go_big_quiet_want
      refine quiet_at (.agg #[Value.int .u8 tos, .int .u16 id, .bool keep, .int .u8 ttl, .int .u8 proto, .int .u32 src, .int .u32 dst, .slice ao zo.length co, .slice ad zd.length cd]) (fun w' hw' => ?_) ?_
      · have e0 := E0.out w' hw' 0
        have e1 := E0.out w' hw' 1
        have e2 := E0.out w' hw' 2
        have e3 := E0.out w' hw' 3
        have e4 := E0.out w' hw' 4
        have e5 := E0.out w' hw' 5
        have e6 := E0.out w' hw' 6
        have e7 := E0.out w' hw' 7
        have e8 := E0.out w' hw' 8
        simp at e0 e1 e2 e3 e4 e5 e6 e7 e8
        go_simp
      go_simp
      go_big_quiet_on
      go_big_quiet_want
      refine quiet_at (.agg #[Value.int .u8 tos2, .int .u16 id2, .bool keep2, .int .u8 ttl2, .int .u8 proto2, .int .u32 src2, .int .u32 dst2, .slice ao2 zo2.length co2, .slice ad2 zd2.length cd2]) (fun w' hw' => ?_) ?_
      · have e0 := E1.out w' hw' 0
        have e1 := E1.out w' hw' 1
        have e2 := E1.out w' hw' 2
        have e3 := E1.out w' hw' 3
        have e4 := E1.out w' hw' 4
        have e5 := E1.out w' hw' 5
        have e6 := E1.out w' hw' 6
        have e7 := E1.out w' hw' 7
        have e8 := E1.out w' hw' 8
        simp at e0 e1 e2 e3 e4 e5 e6 e7 e8
        go_simp
      go_simp
      go_big_quiet_on
      go_big_quiet_want
      refine quiet_call 7 #[.agg #[Value.int .u8 tos, .int .u16 id, .bool keep, .int .u8 ttl, .int .u8 proto, .int .u32 src, .int .u32 dst, .slice ao zo.length co, .slice ad zd.length cd], .agg #[Value.int .u8 tos2, .int .u16 id2, .bool keep2, .int .u8 ttl2, .int .u8 proto2, .int .u32 src2, .int .u32 dst2, .slice ao2 zo2.length co2, .slice ad2 zd2.length cd2]] (.bool (smP tos id ttl proto src dst tos2 id2 ttl2 proto2 src2 dst2 keep keep2 zo zd zo2 zd2)) (fun w' hw' => ?_) (fun w' hw' => ?_) ?_
      · go_simp
      · exact (same_any tos id ttl proto src dst tos2 id2 ttl2 proto2 src2 dst2 keep keep2 _ _ _ _ zo zd zo2 zd2 w' hBo hBd hBo2 hBd2 (R1.out w' hw') (R2.out w' hw') (R3.out w' hw') (R4.out w' hw')).mono fun e w'' ⟨he, hb⟩ => ⟨he, hw'.trans (hb.mono hw'.size)⟩
      go_simp
      go_big_quiet_on
      go_big_quiet_want
      refine quiet_at (.agg #[Value.int .u8 tos2, .int .u16 id2, .bool keep2, .int .u8 ttl2, .int .u8 proto2, .int .u32 src2, .int .u32 dst2, .slice ao2 zo2.length co2, .slice ad2 zd2.length cd2]) (fun w' hw' => ?_) ?_
      · have e0 := E1.out w' hw' 0
        have e1 := E1.out w' hw' 1
        have e2 := E1.out w' hw' 2
        have e3 := E1.out w' hw' 3
        have e4 := E1.out w' hw' 4
        have e5 := E1.out w' hw' 5
        have e6 := E1.out w' hw' 6
        have e7 := E1.out w' hw' 7
        have e8 := E1.out w' hw' 8
        simp at e0 e1 e2 e3 e4 e5 e6 e7 e8
        go_simp
      go_simp
      go_big_quiet_on
      go_big_quiet_want
      refine quiet_at (.agg #[Value.int .u8 tos, .int .u16 id, .bool keep, .int .u8 ttl, .int .u8 proto, .int .u32 src, .int .u32 dst, .slice ao zo.length co, .slice ad zd.length cd]) (fun w' hw' => ?_) ?_
      · have e0 := E0.out w' hw' 0
        have e1 := E0.out w' hw' 1
        have e2 := E0.out w' hw' 2
        have e3 := E0.out w' hw' 3
        have e4 := E0.out w' hw' 4
        have e5 := E0.out w' hw' 5
        have e6 := E0.out w' hw' 6
        have e7 := E0.out w' hw' 7
        have e8 := E0.out w' hw' 8
        simp at e0 e1 e2 e3 e4 e5 e6 e7 e8
        go_simp
      go_simp
      go_big_quiet_on
      go_big_quiet_want
      refine quiet_call 7 #[.agg #[Value.int .u8 tos2, .int .u16 id2, .bool keep2, .int .u8 ttl2, .int .u8 proto2, .int .u32 src2, .int .u32 dst2, .slice ao2 zo2.length co2, .slice ad2 zd2.length cd2], .agg #[Value.int .u8 tos, .int .u16 id, .bool keep, .int .u8 ttl, .int .u8 proto, .int .u32 src, .int .u32 dst, .slice ao zo.length co, .slice ad zd.length cd]] (.bool (smP tos id ttl proto src dst tos2 id2 ttl2 proto2 src2 dst2 keep keep2 zo zd zo2 zd2)) (fun w' hw' => ?_) (fun w' hw' => ?_) ?_
      · go_simp
      · exact (same_any tos2 id2 ttl2 proto2 src2 dst2 tos id ttl proto src dst keep2 keep _ _ _ _ zo2 zd2 zo zd w' hBo2 hBd2 hBo hBd (R3.out w' hw') (R4.out w' hw') (R1.out w' hw') (R2.out w' hw')).mono fun e w'' ⟨he, hb⟩ => ⟨by rw [he, sm_comm], hw'.trans (hb.mono hw'.size)⟩
      go_simp
      go_big_quiet_on
      repeat (first | go_big_quiet_skip | (go_big_quiet_want; first | (refine quiet_move _ rfl ?_; go_big_quiet_on) | (refine quiet_assign _ rfl ?_; go_big_quiet_on) | (refine quiet_ex ?_; apply Exists.intro; refine ⟨fun w' hw' => ?_, ?_⟩; (· (go_simp; rfl)); go_simp; go_big_quiet_on)))
      refine wpQuiet_nil ?_
      intro w2 hw2
      go_wp2
      go_ret
      exact ⟨rfl, hWF.trans (hw2.mono hWF.size)⟩
    · go_simp
      have ds := dp.alloc dp.size (.cells #[] 5)
      refine hK.out _ _ ⟨ds.mono (by rw [HS.out]; omega), ds.size⟩ (fun hHeld => ?_)
      clear hK K
      refine wpAnyH_ready (rs := [3]) (by kernel_rfl) (by simp) ?_
      refine AllReadyH.cons rfl (fun K hK => ?_) AllReadyH.nil
      obtain ⟨aq, capq, wq, hrun, hRq, hbq⟩ := run_app_new (P := Try.prog) _ 24 24 i0 Try.underlying24 hi hz0 hz1 hz2 _ w.heap.size _ zd ((I2.out.below HB.out).below (ds.mono (by rw [HS.out]; omega))) hld
      refine step_run rfl (.tmp 13) (.tmp 15) 24 rfl _ _ rfl rfl (.slice aq zd.length capq) wq hrun ?_
      have dq := ds.trans (hbq.mono ds.size)
      clear hrun
      simp only [Act.put, List.setIfInBounds_toArray, List.set_cons_zero, List.set_cons_succ]
      refine hK.out _ _ ⟨dq.mono (by rw [HS.out]; omega), dq.size⟩ (fun hHeld => ?_)
      clear hK K
      refine wpAnyH_take (i := 8) (oi := { dst := some 21, op := .fieldAddr 26 (.tmp 6) 8, type := 0, pos := "law.go:141", after := #[{ on := 0, ground := .phase }, { on := 1, ground := .phase }, { on := 2, ground := .phase }, { on := 3, ground := .phase }, { on := 4, ground := .textOnly .lateStores }, { on := 5, ground := .textOnly .lateStores }, { on := 6, ground := .textOnly .lateStores }, { on := 7, ground := .textOnly .lateStoresUnsure }], guard := none }) (v := .pointer (some ⟨w.heap.size + 1 + 1 + 1, 8, none⟩)) rfl (by kernel_rfl) (by kernel_rfl) (by kernel_rfl) (fun _ _ _ h => h) (Or.inl ⟨by rfl, ?_⟩) (by assumption) ?_
      · intro w' hSw
        go_simp
      simp only [Act.put, List.setIfInBounds_toArray, List.set_cons_zero, List.set_cons_succ]
      refine wpAnyH_ready (rs := [7]) (by kernel_rfl) (by simp) ?_
      refine AllReadyH.cons rfl (fun K hK => ?_) AllReadyH.nil
      obtain ⟨ar, capr, wr, hrun, hRr, hbr⟩ := run_app_new (P := Try.prog) _ 24 24 i0 Try.underlying24 hi hz0 hz1 hz2 _ w.heap.size _ zo ((I1.out.below HB.out).below (dq.mono (by rw [HS.out]; omega))) hlo
      refine step_run rfl (.tmp 17) (.tmp 19) 24 rfl _ _ rfl rfl (.slice ar zo.length capr) wr hrun ?_
      have dr := dq.trans (hbr.mono dq.size)
      clear hrun
      simp only [Act.put, List.setIfInBounds_toArray, List.set_cons_zero, List.set_cons_succ]
      refine hK.out _ _ ⟨dr.mono (by rw [HS.out]; omega), dr.size⟩ (fun hHeld => ?_)
      clear hK K
      have f8 : wr.frozen? ⟨w.heap.size + 1 + 1 + 1, 8, none⟩ = false := (dr.frozen (p := ⟨w.heap.size + 1 + 1 + 1, 8, none⟩) (by rw [HS.out]; show _ + 1 + 1 + 1 < _; omega)).trans (P4.out 8)
      have k8 : wr.cell? ⟨w.heap.size + 1 + 1 + 1, 8, none⟩ = some _ := ((dr.cell (p := ⟨w.heap.size + 1 + 1 + 1, 8, none⟩) (by rw [HS.out]; show _ + 1 + 1 + 1 < _; omega)).trans (P3.out 8)).trans rfl
      have f7 : wr.frozen? ⟨w.heap.size + 1 + 1 + 1, 7, none⟩ = false := (dr.frozen (p := ⟨w.heap.size + 1 + 1 + 1, 7, none⟩) (by rw [HS.out]; show _ + 1 + 1 + 1 < _; omega)).trans (P4.out 7)
      have k7 : wr.cell? ⟨w.heap.size + 1 + 1 + 1, 7, none⟩ = some _ := ((dr.cell (p := ⟨w.heap.size + 1 + 1 + 1, 7, none⟩) (by rw [HS.out]; show _ + 1 + 1 + 1 < _; omega)).trans (P3.out 7)).trans rfl
      have m : Below (w.heap.size + 3) WB wr := dr.mono (by rw [HS.out]; omega)
      refine wpAnyH_ready (rs := [9]) (by kernel_rfl) (by simp) ?_
      refine AllReadyH.cons rfl (fun K hK => ?_) AllReadyH.nil
      go_simp
      refine hK.out _ _ ⟨m.setCell (p := ⟨w.heap.size + 1 + 1 + 1, 8, none⟩) (Nat.le_refl _) _, by simpa using dr.size⟩ (fun hHeld => ?_)
      clear hK K
      refine wpAnyH_take (i := 10) (oi := { dst := some 22, op := .fieldAddr 26 (.tmp 6) 7, type := 0, pos := "law.go:141", after := #[{ on := 0, ground := .phase }, { on := 1, ground := .phase }, { on := 2, ground := .phase }, { on := 3, ground := .phase }, { on := 4, ground := .phase }, { on := 5, ground := .phase }, { on := 6, ground := .phase }, { on := 7, ground := .phase }, { on := 8, ground := .phase }, { on := 9, ground := .phase }], guard := none }) (v := .pointer (some ⟨w.heap.size + 1 + 1 + 1, 7, none⟩)) rfl (by kernel_rfl) (by kernel_rfl) (by kernel_rfl) (fun _ _ _ h => h) (Or.inl ⟨by rfl, ?_⟩) (by assumption) ?_
      · intro w' hSw
        go_simp
      simp only [Act.put, List.setIfInBounds_toArray, List.set_cons_zero, List.set_cons_succ]
      refine wpAnyH_ready (rs := [11]) (by kernel_rfl) (by simp) ?_
      refine AllReadyH.cons rfl (fun K hK => ?_) AllReadyH.nil
      go_simp
      refine hK.out _ _ ⟨(m.setCell (p := ⟨w.heap.size + 1 + 1 + 1, 8, none⟩) (Nat.le_refl _) _).setCell (p := ⟨w.heap.size + 1 + 1 + 1, 7, none⟩) (Nat.le_refl _) _, by simpa using dr.size⟩ (fun hHeld => ?_)
      clear hK K f8 f7 k8 k7 c8 c7
      refine wpAnyH_done (by kernel_rfl) ?_ _
      have mF : Below (w.heap.size + 3) WB ((wr.setCell ⟨w.heap.size + 1 + 1 + 1, 8, none⟩ (.slice aq zd.length capq)).setCell ⟨w.heap.size + 1 + 1 + 1, 7, none⟩ (.slice ar zo.length capr)) := (m.setCell (p := ⟨w.heap.size + 1 + 1 + 1, 8, none⟩) (Nat.le_refl _) _).setCell (p := ⟨w.heap.size + 1 + 1 + 1, 7, none⟩) (Nat.le_refl _) _
      have hq2 : Below wq.heap.size wq wr := hbr
      have hRQ := hRq ((wr.setCell ⟨w.heap.size + 1 + 1 + 1, 8, none⟩ (.slice aq zd.length capq)).setCell ⟨w.heap.size + 1 + 1 + 1, 7, none⟩ (.slice ar zo.length capr)) (fun b h1 h2 => by have := ds.size; rw [HS.out] at this; rw [heap_setCell_ne _ _ _ _ (by show b ≠ w.heap.size + 1 + 1 + 1; omega), heap_setCell_ne _ _ _ _ (by show b ≠ w.heap.size + 1 + 1 + 1; omega), hq2.block b h2])
      have hRR := hRr ((wr.setCell ⟨w.heap.size + 1 + 1 + 1, 8, none⟩ (.slice aq zd.length capq)).setCell ⟨w.heap.size + 1 + 1 + 1, 7, none⟩ (.slice ar zo.length capr)) (fun b h1 h2 => by have := dq.size; rw [HS.out] at this; rw [heap_setCell_ne _ _ _ _ (by show b ≠ w.heap.size + 1 + 1 + 1; omega), heap_setCell_ne _ _ _ _ (by show b ≠ w.heap.size + 1 + 1 + 1; omega)])
      have hoc := own_cells wr (w.heap.size + 1 + 1 + 1) #[Value.int .u8 tos, .int .u16 id, .bool keep, .int .u8 ttl, .int .u8 proto, .int .u32 src, .int .u32 dst, .slice ao zo.length co, .slice ad zd.length cd] rfl (fun j => (dr.cell (p := ⟨w.heap.size + 1 + 1 + 1, j, none⟩) (by rw [HS.out]; show _ + 1 + 1 + 1 < _; omega)).trans (P3.out j)) (.slice aq zd.length capq) (.slice ar zo.length capr)
      have hsz : ((wr.setCell ⟨w.heap.size + 1 + 1 + 1, 8, none⟩ (.slice aq zd.length capq)).setCell ⟨w.heap.size + 1 + 1 + 1, 7, none⟩ (.slice ar zo.length capr)).heap.size = wr.heap.size := by simp
      have hs4 := Nat.le_trans (Nat.le_of_eq HS.out.symm) dr.size
      rw [← hsz] at hRR hs4
      have hRQ' := hRQ.mono (Nat.le_trans hq2.size (Nat.le_of_eq hsz.symm))
      clear hRQ hsz hq2 hHeld
      generalize (wr.setCell ⟨w.heap.size + 1 + 1 + 1, 8, none⟩ (.slice aq zd.length capq)).setCell ⟨w.heap.size + 1 + 1 + 1, 7, none⟩ (.slice ar zo.length capr) = WF at *
      have hWF : Below w.heap.size w WF := HB.out.trans (mF.mono (by omega))
      have E0 : Hid (∀ w', Below WF.heap.size WF w' → ∀ j, w'.cell? ⟨w.heap.size, j, none⟩ = #[Value.int .u8 tos, .int .u16 id, .bool keep, .int .u8 ttl, .int .u8 proto, .int .u32 src, .int .u32 dst, .slice ao zo.length co, .slice ad zd.length cd][j]?) := fun w' h j => (h.cell (p := ⟨w.heap.size, j, none⟩) (by show w.heap.size < _; omega)).trans ((mF.cell (p := ⟨w.heap.size, j, none⟩) (by show w.heap.size < _; omega)).trans (P0.out j))
      have E1 : Hid (∀ w', Below WF.heap.size WF w' → ∀ j, w'.cell? ⟨w.heap.size + 1, j, none⟩ = #[Value.int .u8 tos2, .int .u16 id2, .bool keep2, .int .u8 ttl2, .int .u8 proto2, .int .u32 src2, .int .u32 dst2, .slice ao2 zo2.length co2, .slice ad2 zd2.length cd2][j]?) := fun w' h j => (h.cell (p := ⟨w.heap.size + 1, j, none⟩) (by show w.heap.size + 1 < _; omega)).trans ((mF.cell (p := ⟨w.heap.size + 1, j, none⟩) (by show w.heap.size + 1 < _; omega)).trans (P1.out j))
      have E2 : Hid (∀ w', Below WF.heap.size WF w' → ∀ j, w'.cell? ⟨w.heap.size + 1 + 1, j, none⟩ = #[Value.int .u8 tos, .int .u16 id, .bool keep, .int .u8 ((ttl + 1) % 256), .int .u8 proto, .int .u32 src, .int .u32 dst, .slice ao zo.length co, .slice ad zd.length cd][j]?) := fun w' h j => (h.cell (p := ⟨w.heap.size + 1 + 1, j, none⟩) (by show w.heap.size + 1 + 1 < _; omega)).trans ((mF.cell (p := ⟨w.heap.size + 1 + 1, j, none⟩) (by show w.heap.size + 1 + 1 < _; omega)).trans (P2.out j))
      have E3 : Hid (∀ w', Below WF.heap.size WF w' → ∀ j, w'.cell? ⟨w.heap.size + 1 + 1 + 1, j, none⟩ = #[Value.int .u8 tos, .int .u16 id, .bool keep, .int .u8 ttl, .int .u8 proto, .int .u32 src, .int .u32 dst, .slice ar zo.length capr, .slice aq zd.length capq][j]?) := fun w' h j => (h.cell (p := ⟨w.heap.size + 1 + 1 + 1, j, none⟩) (by show w.heap.size + 1 + 1 + 1 < _; omega)).trans (hoc j)
      have R1 : Hid (∀ w', Below WF.heap.size WF w' → Rd w'.heap.size w' (.slice ao zo.length co) zo) := fun w' h => ((I1.out.below hWF).below (h.mono hWF.size)).mono (Nat.le_trans hWF.size h.size)
      have R2 : Hid (∀ w', Below WF.heap.size WF w' → Rd w'.heap.size w' (.slice ad zd.length cd) zd) := fun w' h => ((I2.out.below hWF).below (h.mono hWF.size)).mono (Nat.le_trans hWF.size h.size)
      have R3 : Hid (∀ w', Below WF.heap.size WF w' → Rd w'.heap.size w' (.slice ao2 zo2.length co2) zo2) := fun w' h => ((I3.out.below hWF).below (h.mono hWF.size)).mono (Nat.le_trans hWF.size h.size)
      have R4 : Hid (∀ w', Below WF.heap.size WF w' → Rd w'.heap.size w' (.slice ad2 zd2.length cd2) zd2) := fun w' h => ((I4.out.below hWF).below (h.mono hWF.size)).mono (Nat.le_trans hWF.size h.size)
      have R5 : Hid (∀ w', Below WF.heap.size WF w' → Rd w'.heap.size w' (.slice ar zo.length capr) zo) := fun w' h => (hRR.below h).mono h.size
      have R6 : Hid (∀ w', Below WF.heap.size WF w' → Rd w'.heap.size w' (.slice aq zd.length capq) zd) := fun w' h => (hRQ'.below h).mono h.size
      clear hRQ' hRR hoc hRq hRr hbq hbr P0 P1 P2 P3 P4 mF m hs4 dr dq dp ds d0
      go_wp2_with fail
      refine wpQuiet_region (C := fun w' => Below WF.heap.size WF w') (by kernel_rfl) (by kernel_rfl) (below_draw (Below.refl _ _) 1) ?_
      go_big_quiet_want
      refine quiet_call 6 #[] (.bool true) (fun w' hw' => ?_) (fun w' hw' => ?_) ?_
      · go_simp
      · exact (live2_any w').mono fun e w'' ⟨he, hb⟩ => ⟨he, hw'.trans (hb.mono hw'.size)⟩
      go_simp
      go_big_quiet_on
      (first | go_big_quiet_skip | (go_big_quiet_want; first | (refine quiet_move _ rfl ?_; go_big_quiet_on) | (refine quiet_assign _ rfl ?_; go_big_quiet_on) | (refine quiet_ex ?_; apply Exists.intro; refine ⟨fun w' hw' => ?_, ?_⟩; (· (go_simp; rfl)); go_simp; go_big_quiet_on)))
      go_big_quiet_want
      refine quiet_at (.agg #[Value.int .u8 tos, .int .u16 id, .bool keep, .int .u8 ttl, .int .u8 proto, .int .u32 src, .int .u32 dst, .slice ao zo.length co, .slice ad zd.length cd]) (fun w' hw' => ?_) ?_
      · have e0 := E0.out w' hw' 0
        have e1 := E0.out w' hw' 1
        have e2 := E0.out w' hw' 2
        have e3 := E0.out w' hw' 3
        have e4 := E0.out w' hw' 4
        have e5 := E0.out w' hw' 5
        have e6 := E0.out w' hw' 6
        have e7 := E0.out w' hw' 7
        have e8 := E0.out w' hw' 8
        simp at e0 e1 e2 e3 e4 e5 e6 e7 e8
        go_simp
      go_simp
      go_big_quiet_on
      go_big_quiet_want
      refine quiet_at (.agg #[Value.int .u8 tos, .int .u16 id, .bool keep, .int .u8 ttl, .int .u8 proto, .int .u32 src, .int .u32 dst, .slice ar zo.length capr, .slice aq zd.length capq]) (fun w' hw' => ?_) ?_
      · have e0 := E3.out w' hw' 0
        have e1 := E3.out w' hw' 1
        have e2 := E3.out w' hw' 2
        have e3 := E3.out w' hw' 3
        have e4 := E3.out w' hw' 4
        have e5 := E3.out w' hw' 5
        have e6 := E3.out w' hw' 6
        have e7 := E3.out w' hw' 7
        have e8 := E3.out w' hw' 8
        simp at e0 e1 e2 e3 e4 e5 e6 e7 e8
        go_simp
      go_simp
      go_big_quiet_on
      go_big_quiet_want
      refine quiet_call 7 #[.agg #[Value.int .u8 tos, .int .u16 id, .bool keep, .int .u8 ttl, .int .u8 proto, .int .u32 src, .int .u32 dst, .slice ao zo.length co, .slice ad zd.length cd], .agg #[Value.int .u8 tos, .int .u16 id, .bool keep, .int .u8 ttl, .int .u8 proto, .int .u32 src, .int .u32 dst, .slice ar zo.length capr, .slice aq zd.length capq]] (.bool true) (fun w' hw' => ?_) (fun w' hw' => ?_) ?_
      · go_simp
      · exact (same_any tos id ttl proto src dst tos id ttl proto src dst keep keep _ _ _ _ zo zd zo zd w' hBo hBd hBo hBd (R1.out w' hw') (R2.out w' hw') (R5.out w' hw') (R6.out w' hw')).mono fun e w'' ⟨he, hb⟩ => ⟨by rw [he, sm_self], hw'.trans (hb.mono hw'.size)⟩
      go_simp
      go_big_quiet_on
      (first | go_big_quiet_skip | (go_big_quiet_want; first | (refine quiet_move _ rfl ?_; go_big_quiet_on) | (refine quiet_assign _ rfl ?_; go_big_quiet_on) | (refine quiet_ex ?_; apply Exists.intro; refine ⟨fun w' hw' => ?_, ?_⟩; (· (go_simp; rfl)); go_simp; go_big_quiet_on)))
      (first | go_big_quiet_skip | (go_big_quiet_want; first | (refine quiet_move _ rfl ?_; go_big_quiet_on) | (refine quiet_assign _ rfl ?_; go_big_quiet_on) | (refine quiet_ex ?_; apply Exists.intro; refine ⟨fun w' hw' => ?_, ?_⟩; (· (go_simp; rfl)); go_simp; go_big_quiet_on)))
      go_big_quiet_want
      refine quiet_at (.agg #[Value.int .u8 tos, .int .u16 id, .bool keep, .int .u8 ttl, .int .u8 proto, .int .u32 src, .int .u32 dst, .slice ar zo.length capr, .slice aq zd.length capq]) (fun w' hw' => ?_) ?_
      · have e0 := E3.out w' hw' 0
        have e1 := E3.out w' hw' 1
        have e2 := E3.out w' hw' 2
        have e3 := E3.out w' hw' 3
        have e4 := E3.out w' hw' 4
        have e5 := E3.out w' hw' 5
        have e6 := E3.out w' hw' 6
        have e7 := E3.out w' hw' 7
        have e8 := E3.out w' hw' 8
        simp at e0 e1 e2 e3 e4 e5 e6 e7 e8
        go_simp
      go_simp
      go_big_quiet_on
      go_big_quiet_want
      refine quiet_at (.agg #[Value.int .u8 tos, .int .u16 id, .bool keep, .int .u8 ttl, .int .u8 proto, .int .u32 src, .int .u32 dst, .slice ao zo.length co, .slice ad zd.length cd]) (fun w' hw' => ?_) ?_
      · have e0 := E0.out w' hw' 0
        have e1 := E0.out w' hw' 1
        have e2 := E0.out w' hw' 2
        have e3 := E0.out w' hw' 3
        have e4 := E0.out w' hw' 4
        have e5 := E0.out w' hw' 5
        have e6 := E0.out w' hw' 6
        have e7 := E0.out w' hw' 7
        have e8 := E0.out w' hw' 8
        simp at e0 e1 e2 e3 e4 e5 e6 e7 e8
        go_simp
      go_simp
      go_big_quiet_on
      go_big_quiet_want
      refine quiet_call 7 #[.agg #[Value.int .u8 tos, .int .u16 id, .bool keep, .int .u8 ttl, .int .u8 proto, .int .u32 src, .int .u32 dst, .slice ar zo.length capr, .slice aq zd.length capq], .agg #[Value.int .u8 tos, .int .u16 id, .bool keep, .int .u8 ttl, .int .u8 proto, .int .u32 src, .int .u32 dst, .slice ao zo.length co, .slice ad zd.length cd]] (.bool true) (fun w' hw' => ?_) (fun w' hw' => ?_) ?_
      · go_simp
      · exact (same_any tos id ttl proto src dst tos id ttl proto src dst keep keep _ _ _ _ zo zd zo zd w' hBo hBd hBo hBd (R5.out w' hw') (R6.out w' hw') (R1.out w' hw') (R2.out w' hw')).mono fun e w'' ⟨he, hb⟩ => ⟨by rw [he, sm_self], hw'.trans (hb.mono hw'.size)⟩
      go_simp
      go_big_quiet_on
      (first | go_big_quiet_skip | (go_big_quiet_want; first | (refine quiet_move _ rfl ?_; go_big_quiet_on) | (refine quiet_assign _ rfl ?_; go_big_quiet_on) | (refine quiet_ex ?_; apply Exists.intro; refine ⟨fun w' hw' => ?_, ?_⟩; (· (go_simp; rfl)); go_simp; go_big_quiet_on)))
      (first | go_big_quiet_skip | (go_big_quiet_want; first | (refine quiet_move _ rfl ?_; go_big_quiet_on) | (refine quiet_assign _ rfl ?_; go_big_quiet_on) | (refine quiet_ex ?_; apply Exists.intro; refine ⟨fun w' hw' => ?_, ?_⟩; (· (go_simp; rfl)); go_simp; go_big_quiet_on)))
      go_big_quiet_want
      refine quiet_at (.agg #[Value.int .u8 tos, .int .u16 id, .bool keep, .int .u8 ttl, .int .u8 proto, .int .u32 src, .int .u32 dst, .slice ao zo.length co, .slice ad zd.length cd]) (fun w' hw' => ?_) ?_
      · have e0 := E0.out w' hw' 0
        have e1 := E0.out w' hw' 1
        have e2 := E0.out w' hw' 2
        have e3 := E0.out w' hw' 3
        have e4 := E0.out w' hw' 4
        have e5 := E0.out w' hw' 5
        have e6 := E0.out w' hw' 6
        have e7 := E0.out w' hw' 7
        have e8 := E0.out w' hw' 8
        simp at e0 e1 e2 e3 e4 e5 e6 e7 e8
        go_simp
      go_simp
      go_big_quiet_on
      go_big_quiet_want
      refine quiet_at (.agg #[Value.int .u8 tos, .int .u16 id, .bool keep, .int .u8 ((ttl + 1) % 256), .int .u8 proto, .int .u32 src, .int .u32 dst, .slice ao zo.length co, .slice ad zd.length cd]) (fun w' hw' => ?_) ?_
      · have e0 := E2.out w' hw' 0
        have e1 := E2.out w' hw' 1
        have e2 := E2.out w' hw' 2
        have e3 := E2.out w' hw' 3
        have e4 := E2.out w' hw' 4
        have e5 := E2.out w' hw' 5
        have e6 := E2.out w' hw' 6
        have e7 := E2.out w' hw' 7
        have e8 := E2.out w' hw' 8
        simp at e0 e1 e2 e3 e4 e5 e6 e7 e8
        go_simp
      go_simp
      go_big_quiet_on
      go_big_quiet_want
      refine quiet_call 7 #[.agg #[Value.int .u8 tos, .int .u16 id, .bool keep, .int .u8 ttl, .int .u8 proto, .int .u32 src, .int .u32 dst, .slice ao zo.length co, .slice ad zd.length cd], .agg #[Value.int .u8 tos, .int .u16 id, .bool keep, .int .u8 ((ttl + 1) % 256), .int .u8 proto, .int .u32 src, .int .u32 dst, .slice ao zo.length co, .slice ad zd.length cd]] (.bool false) (fun w' hw' => ?_) (fun w' hw' => ?_) ?_
      · go_simp
      · exact (same_any tos id ttl proto src dst tos id ((ttl + 1) % 256) proto src dst keep keep _ _ _ _ zo zd zo zd w' hBo hBd hBo hBd (R1.out w' hw') (R2.out w' hw') (R1.out w' hw') (R2.out w' hw')).mono fun e w'' ⟨he, hb⟩ => ⟨by rw [he, sm_ttl _ _ _ _ _ _ _ _ _ htt], hw'.trans (hb.mono hw'.size)⟩
      go_simp
      go_big_quiet_on
      (first | go_big_quiet_skip | (go_big_quiet_want; first | (refine quiet_move _ rfl ?_; go_big_quiet_on) | (refine quiet_assign _ rfl ?_; go_big_quiet_on) | (refine quiet_ex ?_; apply Exists.intro; refine ⟨fun w' hw' => ?_, ?_⟩; (· (go_simp; rfl)); go_simp; go_big_quiet_on)))
      (first | go_big_quiet_skip | (go_big_quiet_want; first | (refine quiet_move _ rfl ?_; go_big_quiet_on) | (refine quiet_assign _ rfl ?_; go_big_quiet_on) | (refine quiet_ex ?_; apply Exists.intro; refine ⟨fun w' hw' => ?_, ?_⟩; (· (go_simp; rfl)); go_simp; go_big_quiet_on)))
      (first | go_big_quiet_skip | (go_big_quiet_want; first | (refine quiet_move _ rfl ?_; go_big_quiet_on) | (refine quiet_assign _ rfl ?_; go_big_quiet_on) | (refine quiet_ex ?_; apply Exists.intro; refine ⟨fun w' hw' => ?_, ?_⟩; (· (go_simp; rfl)); go_simp; go_big_quiet_on)))
      go_big_quiet_want
      refine quiet_at (.agg #[Value.int .u8 tos, .int .u16 id, .bool keep, .int .u8 ttl, .int .u8 proto, .int .u32 src, .int .u32 dst, .slice ao zo.length co, .slice ad zd.length cd]) (fun w' hw' => ?_) ?_
      · have e0 := E0.out w' hw' 0
        have e1 := E0.out w' hw' 1
        have e2 := E0.out w' hw' 2
        have e3 := E0.out w' hw' 3
        have e4 := E0.out w' hw' 4
        have e5 := E0.out w' hw' 5
        have e6 := E0.out w' hw' 6
        have e7 := E0.out w' hw' 7
        have e8 := E0.out w' hw' 8
        simp at e0 e1 e2 e3 e4 e5 e6 e7 e8
        go_simp
      go_simp
      go_big_quiet_on
      go_big_quiet_want
      refine quiet_at (.agg #[Value.int .u8 tos2, .int .u16 id2, .bool keep2, .int .u8 ttl2, .int .u8 proto2, .int .u32 src2, .int .u32 dst2, .slice ao2 zo2.length co2, .slice ad2 zd2.length cd2]) (fun w' hw' => ?_) ?_
      · have e0 := E1.out w' hw' 0
        have e1 := E1.out w' hw' 1
        have e2 := E1.out w' hw' 2
        have e3 := E1.out w' hw' 3
        have e4 := E1.out w' hw' 4
        have e5 := E1.out w' hw' 5
        have e6 := E1.out w' hw' 6
        have e7 := E1.out w' hw' 7
        have e8 := E1.out w' hw' 8
        simp at e0 e1 e2 e3 e4 e5 e6 e7 e8
        go_simp
      go_simp
      go_big_quiet_on
      go_big_quiet_want
      refine quiet_call 7 #[.agg #[Value.int .u8 tos, .int .u16 id, .bool keep, .int .u8 ttl, .int .u8 proto, .int .u32 src, .int .u32 dst, .slice ao zo.length co, .slice ad zd.length cd], .agg #[Value.int .u8 tos2, .int .u16 id2, .bool keep2, .int .u8 ttl2, .int .u8 proto2, .int .u32 src2, .int .u32 dst2, .slice ao2 zo2.length co2, .slice ad2 zd2.length cd2]] (.bool (smP tos id ttl proto src dst tos2 id2 ttl2 proto2 src2 dst2 keep keep2 zo zd zo2 zd2)) (fun w' hw' => ?_) (fun w' hw' => ?_) ?_
      · go_simp
      · exact (same_any tos id ttl proto src dst tos2 id2 ttl2 proto2 src2 dst2 keep keep2 _ _ _ _ zo zd zo2 zd2 w' hBo hBd hBo2 hBd2 (R1.out w' hw') (R2.out w' hw') (R3.out w' hw') (R4.out w' hw')).mono fun e w'' ⟨he, hb⟩ => ⟨he, hw'.trans (hb.mono hw'.size)⟩
      go_simp
      go_big_quiet_on
      go_big_quiet_want
      refine quiet_at (.agg #[Value.int .u8 tos2, .int .u16 id2, .bool keep2, .int .u8 ttl2, .int .u8 proto2, .int .u32 src2, .int .u32 dst2, .slice ao2 zo2.length co2, .slice ad2 zd2.length cd2]) (fun w' hw' => ?_) ?_
      · have e0 := E1.out w' hw' 0
        have e1 := E1.out w' hw' 1
        have e2 := E1.out w' hw' 2
        have e3 := E1.out w' hw' 3
        have e4 := E1.out w' hw' 4
        have e5 := E1.out w' hw' 5
        have e6 := E1.out w' hw' 6
        have e7 := E1.out w' hw' 7
        have e8 := E1.out w' hw' 8
        simp at e0 e1 e2 e3 e4 e5 e6 e7 e8
        go_simp
      go_simp
      go_big_quiet_on
      go_big_quiet_want
      refine quiet_at (.agg #[Value.int .u8 tos, .int .u16 id, .bool keep, .int .u8 ttl, .int .u8 proto, .int .u32 src, .int .u32 dst, .slice ao zo.length co, .slice ad zd.length cd]) (fun w' hw' => ?_) ?_
      · have e0 := E0.out w' hw' 0
        have e1 := E0.out w' hw' 1
        have e2 := E0.out w' hw' 2
        have e3 := E0.out w' hw' 3
        have e4 := E0.out w' hw' 4
        have e5 := E0.out w' hw' 5
        have e6 := E0.out w' hw' 6
        have e7 := E0.out w' hw' 7
        have e8 := E0.out w' hw' 8
        simp at e0 e1 e2 e3 e4 e5 e6 e7 e8
        go_simp
      go_simp
      go_big_quiet_on
      go_big_quiet_want
      refine quiet_call 7 #[.agg #[Value.int .u8 tos2, .int .u16 id2, .bool keep2, .int .u8 ttl2, .int .u8 proto2, .int .u32 src2, .int .u32 dst2, .slice ao2 zo2.length co2, .slice ad2 zd2.length cd2], .agg #[Value.int .u8 tos, .int .u16 id, .bool keep, .int .u8 ttl, .int .u8 proto, .int .u32 src, .int .u32 dst, .slice ao zo.length co, .slice ad zd.length cd]] (.bool (smP tos id ttl proto src dst tos2 id2 ttl2 proto2 src2 dst2 keep keep2 zo zd zo2 zd2)) (fun w' hw' => ?_) (fun w' hw' => ?_) ?_
      · go_simp
      · exact (same_any tos2 id2 ttl2 proto2 src2 dst2 tos id ttl proto src dst keep2 keep _ _ _ _ zo2 zd2 zo zd w' hBo2 hBd2 hBo hBd (R3.out w' hw') (R4.out w' hw') (R1.out w' hw') (R2.out w' hw')).mono fun e w'' ⟨he, hb⟩ => ⟨by rw [he, sm_comm], hw'.trans (hb.mono hw'.size)⟩
      go_simp
      go_big_quiet_on
      repeat (first | go_big_quiet_skip | (go_big_quiet_want; first | (refine quiet_move _ rfl ?_; go_big_quiet_on) | (refine quiet_assign _ rfl ?_; go_big_quiet_on) | (refine quiet_ex ?_; apply Exists.intro; refine ⟨fun w' hw' => ?_, ?_⟩; (· (go_simp; rfl)); go_simp; go_big_quiet_on)))
      refine wpQuiet_nil ?_
      intro w2 hw2
      go_wp2
      go_ret
      exact ⟨rfl, hWF.trans (hw2.mono hWF.size)⟩
  · go_simp
    have dp := d0.alloc d0.size (.cells #[] 5)
    refine hK.out _ _ ⟨dp.mono (by rw [HS.out]; omega), dp.size⟩ (fun hHeld => ?_)
    clear hK K
    refine wpAnyH_ready (rs := [0]) (by kernel_rfl) (by simp) ?_
    refine AllReadyH.cons rfl (fun K hK => ?_) AllReadyH.nil
    go_simp
    have ds := dp.alloc dp.size (.cells #[] 5)
    refine hK.out _ _ ⟨ds.mono (by rw [HS.out]; omega), ds.size⟩ (fun hHeld => ?_)
    clear hK K
    refine wpAnyH_ready (rs := [3]) (by kernel_rfl) (by simp) ?_
    refine AllReadyH.cons rfl (fun K hK => ?_) AllReadyH.nil
    obtain ⟨aq, capq, wq, hrun, hRq, hbq⟩ := run_app_new (P := Try.prog) _ 24 24 i0 Try.underlying24 hi hz0 hz1 hz2 _ w.heap.size _ zd ((I2.out.below HB.out).below (ds.mono (by rw [HS.out]; omega))) hld
    refine step_run rfl (.tmp 13) (.tmp 15) 24 rfl _ _ rfl rfl (.slice aq zd.length capq) wq hrun ?_
    have dq := ds.trans (hbq.mono ds.size)
    clear hrun
    simp only [Act.put, List.setIfInBounds_toArray, List.set_cons_zero, List.set_cons_succ]
    refine hK.out _ _ ⟨dq.mono (by rw [HS.out]; omega), dq.size⟩ (fun hHeld => ?_)
    clear hK K
    refine wpAnyH_take (i := 8) (oi := { dst := some 21, op := .fieldAddr 26 (.tmp 6) 8, type := 0, pos := "law.go:141", after := #[{ on := 0, ground := .phase }, { on := 1, ground := .phase }, { on := 2, ground := .phase }, { on := 3, ground := .phase }, { on := 4, ground := .textOnly .lateStores }, { on := 5, ground := .textOnly .lateStores }, { on := 6, ground := .textOnly .lateStores }, { on := 7, ground := .textOnly .lateStoresUnsure }], guard := none }) (v := .pointer (some ⟨w.heap.size + 1 + 1 + 1, 8, none⟩)) rfl (by kernel_rfl) (by kernel_rfl) (by kernel_rfl) (fun _ _ _ h => h) (Or.inl ⟨by rfl, ?_⟩) (by assumption) ?_
    · intro w' hSw
      go_simp
    simp only [Act.put, List.setIfInBounds_toArray, List.set_cons_zero, List.set_cons_succ]
    refine wpAnyH_ready (rs := [7]) (by kernel_rfl) (by simp) ?_
    refine AllReadyH.cons rfl (fun K hK => ?_) AllReadyH.nil
    obtain ⟨ar, capr, wr, hrun, hRr, hbr⟩ := run_app_new (P := Try.prog) _ 24 24 i0 Try.underlying24 hi hz0 hz1 hz2 _ w.heap.size _ zo ((I1.out.below HB.out).below (dq.mono (by rw [HS.out]; omega))) hlo
    refine step_run rfl (.tmp 17) (.tmp 19) 24 rfl _ _ rfl rfl (.slice ar zo.length capr) wr hrun ?_
    have dr := dq.trans (hbr.mono dq.size)
    clear hrun
    simp only [Act.put, List.setIfInBounds_toArray, List.set_cons_zero, List.set_cons_succ]
    refine hK.out _ _ ⟨dr.mono (by rw [HS.out]; omega), dr.size⟩ (fun hHeld => ?_)
    clear hK K
    have f8 : wr.frozen? ⟨w.heap.size + 1 + 1 + 1, 8, none⟩ = false := (dr.frozen (p := ⟨w.heap.size + 1 + 1 + 1, 8, none⟩) (by rw [HS.out]; show _ + 1 + 1 + 1 < _; omega)).trans (P4.out 8)
    have k8 : wr.cell? ⟨w.heap.size + 1 + 1 + 1, 8, none⟩ = some _ := ((dr.cell (p := ⟨w.heap.size + 1 + 1 + 1, 8, none⟩) (by rw [HS.out]; show _ + 1 + 1 + 1 < _; omega)).trans (P3.out 8)).trans rfl
    have f7 : wr.frozen? ⟨w.heap.size + 1 + 1 + 1, 7, none⟩ = false := (dr.frozen (p := ⟨w.heap.size + 1 + 1 + 1, 7, none⟩) (by rw [HS.out]; show _ + 1 + 1 + 1 < _; omega)).trans (P4.out 7)
    have k7 : wr.cell? ⟨w.heap.size + 1 + 1 + 1, 7, none⟩ = some _ := ((dr.cell (p := ⟨w.heap.size + 1 + 1 + 1, 7, none⟩) (by rw [HS.out]; show _ + 1 + 1 + 1 < _; omega)).trans (P3.out 7)).trans rfl
    have m : Below (w.heap.size + 3) WB wr := dr.mono (by rw [HS.out]; omega)
    refine wpAnyH_ready (rs := [9]) (by kernel_rfl) (by simp) ?_
    refine AllReadyH.cons rfl (fun K hK => ?_) AllReadyH.nil
    go_simp
    refine hK.out _ _ ⟨m.setCell (p := ⟨w.heap.size + 1 + 1 + 1, 8, none⟩) (Nat.le_refl _) _, by simpa using dr.size⟩ (fun hHeld => ?_)
    clear hK K
    refine wpAnyH_take (i := 10) (oi := { dst := some 22, op := .fieldAddr 26 (.tmp 6) 7, type := 0, pos := "law.go:141", after := #[{ on := 0, ground := .phase }, { on := 1, ground := .phase }, { on := 2, ground := .phase }, { on := 3, ground := .phase }, { on := 4, ground := .phase }, { on := 5, ground := .phase }, { on := 6, ground := .phase }, { on := 7, ground := .phase }, { on := 8, ground := .phase }, { on := 9, ground := .phase }], guard := none }) (v := .pointer (some ⟨w.heap.size + 1 + 1 + 1, 7, none⟩)) rfl (by kernel_rfl) (by kernel_rfl) (by kernel_rfl) (fun _ _ _ h => h) (Or.inl ⟨by rfl, ?_⟩) (by assumption) ?_
    · intro w' hSw
      go_simp
    simp only [Act.put, List.setIfInBounds_toArray, List.set_cons_zero, List.set_cons_succ]
    refine wpAnyH_ready (rs := [11]) (by kernel_rfl) (by simp) ?_
    refine AllReadyH.cons rfl (fun K hK => ?_) AllReadyH.nil
    go_simp
    refine hK.out _ _ ⟨(m.setCell (p := ⟨w.heap.size + 1 + 1 + 1, 8, none⟩) (Nat.le_refl _) _).setCell (p := ⟨w.heap.size + 1 + 1 + 1, 7, none⟩) (Nat.le_refl _) _, by simpa using dr.size⟩ (fun hHeld => ?_)
    clear hK K f8 f7 k8 k7 c8 c7
    refine wpAnyH_done (by kernel_rfl) ?_ _
    have mF : Below (w.heap.size + 3) WB ((wr.setCell ⟨w.heap.size + 1 + 1 + 1, 8, none⟩ (.slice aq zd.length capq)).setCell ⟨w.heap.size + 1 + 1 + 1, 7, none⟩ (.slice ar zo.length capr)) := (m.setCell (p := ⟨w.heap.size + 1 + 1 + 1, 8, none⟩) (Nat.le_refl _) _).setCell (p := ⟨w.heap.size + 1 + 1 + 1, 7, none⟩) (Nat.le_refl _) _
    have hq2 : Below wq.heap.size wq wr := hbr
    have hRQ := hRq ((wr.setCell ⟨w.heap.size + 1 + 1 + 1, 8, none⟩ (.slice aq zd.length capq)).setCell ⟨w.heap.size + 1 + 1 + 1, 7, none⟩ (.slice ar zo.length capr)) (fun b h1 h2 => by have := ds.size; rw [HS.out] at this; rw [heap_setCell_ne _ _ _ _ (by show b ≠ w.heap.size + 1 + 1 + 1; omega), heap_setCell_ne _ _ _ _ (by show b ≠ w.heap.size + 1 + 1 + 1; omega), hq2.block b h2])
    have hRR := hRr ((wr.setCell ⟨w.heap.size + 1 + 1 + 1, 8, none⟩ (.slice aq zd.length capq)).setCell ⟨w.heap.size + 1 + 1 + 1, 7, none⟩ (.slice ar zo.length capr)) (fun b h1 h2 => by have := dq.size; rw [HS.out] at this; rw [heap_setCell_ne _ _ _ _ (by show b ≠ w.heap.size + 1 + 1 + 1; omega), heap_setCell_ne _ _ _ _ (by show b ≠ w.heap.size + 1 + 1 + 1; omega)])
    have hoc := own_cells wr (w.heap.size + 1 + 1 + 1) #[Value.int .u8 tos, .int .u16 id, .bool keep, .int .u8 ttl, .int .u8 proto, .int .u32 src, .int .u32 dst, .slice ao zo.length co, .slice ad zd.length cd] rfl (fun j => (dr.cell (p := ⟨w.heap.size + 1 + 1 + 1, j, none⟩) (by rw [HS.out]; show _ + 1 + 1 + 1 < _; omega)).trans (P3.out j)) (.slice aq zd.length capq) (.slice ar zo.length capr)
    have hsz : ((wr.setCell ⟨w.heap.size + 1 + 1 + 1, 8, none⟩ (.slice aq zd.length capq)).setCell ⟨w.heap.size + 1 + 1 + 1, 7, none⟩ (.slice ar zo.length capr)).heap.size = wr.heap.size := by simp
    have hs4 := Nat.le_trans (Nat.le_of_eq HS.out.symm) dr.size
    rw [← hsz] at hRR hs4
    have hRQ' := hRQ.mono (Nat.le_trans hq2.size (Nat.le_of_eq hsz.symm))
    clear hRQ hsz hq2 hHeld
    generalize (wr.setCell ⟨w.heap.size + 1 + 1 + 1, 8, none⟩ (.slice aq zd.length capq)).setCell ⟨w.heap.size + 1 + 1 + 1, 7, none⟩ (.slice ar zo.length capr) = WF at *
    have hWF : Below w.heap.size w WF := HB.out.trans (mF.mono (by omega))
    have E0 : Hid (∀ w', Below WF.heap.size WF w' → ∀ j, w'.cell? ⟨w.heap.size, j, none⟩ = #[Value.int .u8 tos, .int .u16 id, .bool keep, .int .u8 ttl, .int .u8 proto, .int .u32 src, .int .u32 dst, .slice ao zo.length co, .slice ad zd.length cd][j]?) := fun w' h j => (h.cell (p := ⟨w.heap.size, j, none⟩) (by show w.heap.size < _; omega)).trans ((mF.cell (p := ⟨w.heap.size, j, none⟩) (by show w.heap.size < _; omega)).trans (P0.out j))
    have E1 : Hid (∀ w', Below WF.heap.size WF w' → ∀ j, w'.cell? ⟨w.heap.size + 1, j, none⟩ = #[Value.int .u8 tos2, .int .u16 id2, .bool keep2, .int .u8 ttl2, .int .u8 proto2, .int .u32 src2, .int .u32 dst2, .slice ao2 zo2.length co2, .slice ad2 zd2.length cd2][j]?) := fun w' h j => (h.cell (p := ⟨w.heap.size + 1, j, none⟩) (by show w.heap.size + 1 < _; omega)).trans ((mF.cell (p := ⟨w.heap.size + 1, j, none⟩) (by show w.heap.size + 1 < _; omega)).trans (P1.out j))
    have E2 : Hid (∀ w', Below WF.heap.size WF w' → ∀ j, w'.cell? ⟨w.heap.size + 1 + 1, j, none⟩ = #[Value.int .u8 tos, .int .u16 id, .bool keep, .int .u8 ((ttl + 1) % 256), .int .u8 proto, .int .u32 src, .int .u32 dst, .slice ao zo.length co, .slice ad zd.length cd][j]?) := fun w' h j => (h.cell (p := ⟨w.heap.size + 1 + 1, j, none⟩) (by show w.heap.size + 1 + 1 < _; omega)).trans ((mF.cell (p := ⟨w.heap.size + 1 + 1, j, none⟩) (by show w.heap.size + 1 + 1 < _; omega)).trans (P2.out j))
    have E3 : Hid (∀ w', Below WF.heap.size WF w' → ∀ j, w'.cell? ⟨w.heap.size + 1 + 1 + 1, j, none⟩ = #[Value.int .u8 tos, .int .u16 id, .bool keep, .int .u8 ttl, .int .u8 proto, .int .u32 src, .int .u32 dst, .slice ar zo.length capr, .slice aq zd.length capq][j]?) := fun w' h j => (h.cell (p := ⟨w.heap.size + 1 + 1 + 1, j, none⟩) (by show w.heap.size + 1 + 1 + 1 < _; omega)).trans (hoc j)
    have R1 : Hid (∀ w', Below WF.heap.size WF w' → Rd w'.heap.size w' (.slice ao zo.length co) zo) := fun w' h => ((I1.out.below hWF).below (h.mono hWF.size)).mono (Nat.le_trans hWF.size h.size)
    have R2 : Hid (∀ w', Below WF.heap.size WF w' → Rd w'.heap.size w' (.slice ad zd.length cd) zd) := fun w' h => ((I2.out.below hWF).below (h.mono hWF.size)).mono (Nat.le_trans hWF.size h.size)
    have R3 : Hid (∀ w', Below WF.heap.size WF w' → Rd w'.heap.size w' (.slice ao2 zo2.length co2) zo2) := fun w' h => ((I3.out.below hWF).below (h.mono hWF.size)).mono (Nat.le_trans hWF.size h.size)
    have R4 : Hid (∀ w', Below WF.heap.size WF w' → Rd w'.heap.size w' (.slice ad2 zd2.length cd2) zd2) := fun w' h => ((I4.out.below hWF).below (h.mono hWF.size)).mono (Nat.le_trans hWF.size h.size)
    have R5 : Hid (∀ w', Below WF.heap.size WF w' → Rd w'.heap.size w' (.slice ar zo.length capr) zo) := fun w' h => (hRR.below h).mono h.size
    have R6 : Hid (∀ w', Below WF.heap.size WF w' → Rd w'.heap.size w' (.slice aq zd.length capq) zd) := fun w' h => (hRQ'.below h).mono h.size
    clear hRQ' hRR hoc hRq hRr hbq hbr P0 P1 P2 P3 P4 mF m hs4 dr dq dp ds d0
    go_wp2_with fail
    refine wpQuiet_region (C := fun w' => Below WF.heap.size WF w') (by kernel_rfl) (by kernel_rfl) (below_draw (Below.refl _ _) 1) ?_
    go_big_quiet_want
    refine quiet_call 6 #[] (.bool true) (fun w' hw' => ?_) (fun w' hw' => ?_) ?_
    · go_simp
    · exact (live2_any w').mono fun e w'' ⟨he, hb⟩ => ⟨he, hw'.trans (hb.mono hw'.size)⟩
    go_simp
    go_big_quiet_on
    (first | go_big_quiet_skip | (go_big_quiet_want; first | (refine quiet_move _ rfl ?_; go_big_quiet_on) | (refine quiet_assign _ rfl ?_; go_big_quiet_on) | (refine quiet_ex ?_; apply Exists.intro; refine ⟨fun w' hw' => ?_, ?_⟩; (· (go_simp; rfl)); go_simp; go_big_quiet_on)))
    go_big_quiet_want
    refine quiet_at (.agg #[Value.int .u8 tos, .int .u16 id, .bool keep, .int .u8 ttl, .int .u8 proto, .int .u32 src, .int .u32 dst, .slice ao zo.length co, .slice ad zd.length cd]) (fun w' hw' => ?_) ?_
    · have e0 := E0.out w' hw' 0
      have e1 := E0.out w' hw' 1
      have e2 := E0.out w' hw' 2
      have e3 := E0.out w' hw' 3
      have e4 := E0.out w' hw' 4
      have e5 := E0.out w' hw' 5
      have e6 := E0.out w' hw' 6
      have e7 := E0.out w' hw' 7
      have e8 := E0.out w' hw' 8
      simp at e0 e1 e2 e3 e4 e5 e6 e7 e8
      go_simp
    go_simp
    go_big_quiet_on
    go_big_quiet_want
    refine quiet_at (.agg #[Value.int .u8 tos, .int .u16 id, .bool keep, .int .u8 ttl, .int .u8 proto, .int .u32 src, .int .u32 dst, .slice ar zo.length capr, .slice aq zd.length capq]) (fun w' hw' => ?_) ?_
    · have e0 := E3.out w' hw' 0
      have e1 := E3.out w' hw' 1
      have e2 := E3.out w' hw' 2
      have e3 := E3.out w' hw' 3
      have e4 := E3.out w' hw' 4
      have e5 := E3.out w' hw' 5
      have e6 := E3.out w' hw' 6
      have e7 := E3.out w' hw' 7
      have e8 := E3.out w' hw' 8
      simp at e0 e1 e2 e3 e4 e5 e6 e7 e8
      go_simp
    go_simp
    go_big_quiet_on
    go_big_quiet_want
    refine quiet_call 7 #[.agg #[Value.int .u8 tos, .int .u16 id, .bool keep, .int .u8 ttl, .int .u8 proto, .int .u32 src, .int .u32 dst, .slice ao zo.length co, .slice ad zd.length cd], .agg #[Value.int .u8 tos, .int .u16 id, .bool keep, .int .u8 ttl, .int .u8 proto, .int .u32 src, .int .u32 dst, .slice ar zo.length capr, .slice aq zd.length capq]] (.bool true) (fun w' hw' => ?_) (fun w' hw' => ?_) ?_
    · go_simp
    · exact (same_any tos id ttl proto src dst tos id ttl proto src dst keep keep _ _ _ _ zo zd zo zd w' hBo hBd hBo hBd (R1.out w' hw') (R2.out w' hw') (R5.out w' hw') (R6.out w' hw')).mono fun e w'' ⟨he, hb⟩ => ⟨by rw [he, sm_self], hw'.trans (hb.mono hw'.size)⟩
    go_simp
    go_big_quiet_on
    (first | go_big_quiet_skip | (go_big_quiet_want; first | (refine quiet_move _ rfl ?_; go_big_quiet_on) | (refine quiet_assign _ rfl ?_; go_big_quiet_on) | (refine quiet_ex ?_; apply Exists.intro; refine ⟨fun w' hw' => ?_, ?_⟩; (· (go_simp; rfl)); go_simp; go_big_quiet_on)))
    (first | go_big_quiet_skip | (go_big_quiet_want; first | (refine quiet_move _ rfl ?_; go_big_quiet_on) | (refine quiet_assign _ rfl ?_; go_big_quiet_on) | (refine quiet_ex ?_; apply Exists.intro; refine ⟨fun w' hw' => ?_, ?_⟩; (· (go_simp; rfl)); go_simp; go_big_quiet_on)))
    go_big_quiet_want
    refine quiet_at (.agg #[Value.int .u8 tos, .int .u16 id, .bool keep, .int .u8 ttl, .int .u8 proto, .int .u32 src, .int .u32 dst, .slice ar zo.length capr, .slice aq zd.length capq]) (fun w' hw' => ?_) ?_
    · have e0 := E3.out w' hw' 0
      have e1 := E3.out w' hw' 1
      have e2 := E3.out w' hw' 2
      have e3 := E3.out w' hw' 3
      have e4 := E3.out w' hw' 4
      have e5 := E3.out w' hw' 5
      have e6 := E3.out w' hw' 6
      have e7 := E3.out w' hw' 7
      have e8 := E3.out w' hw' 8
      simp at e0 e1 e2 e3 e4 e5 e6 e7 e8
      go_simp
    go_simp
    go_big_quiet_on
    go_big_quiet_want
    refine quiet_at (.agg #[Value.int .u8 tos, .int .u16 id, .bool keep, .int .u8 ttl, .int .u8 proto, .int .u32 src, .int .u32 dst, .slice ao zo.length co, .slice ad zd.length cd]) (fun w' hw' => ?_) ?_
    · have e0 := E0.out w' hw' 0
      have e1 := E0.out w' hw' 1
      have e2 := E0.out w' hw' 2
      have e3 := E0.out w' hw' 3
      have e4 := E0.out w' hw' 4
      have e5 := E0.out w' hw' 5
      have e6 := E0.out w' hw' 6
      have e7 := E0.out w' hw' 7
      have e8 := E0.out w' hw' 8
      simp at e0 e1 e2 e3 e4 e5 e6 e7 e8
      go_simp
    go_simp
    go_big_quiet_on
    go_big_quiet_want
    refine quiet_call 7 #[.agg #[Value.int .u8 tos, .int .u16 id, .bool keep, .int .u8 ttl, .int .u8 proto, .int .u32 src, .int .u32 dst, .slice ar zo.length capr, .slice aq zd.length capq], .agg #[Value.int .u8 tos, .int .u16 id, .bool keep, .int .u8 ttl, .int .u8 proto, .int .u32 src, .int .u32 dst, .slice ao zo.length co, .slice ad zd.length cd]] (.bool true) (fun w' hw' => ?_) (fun w' hw' => ?_) ?_
    · go_simp
    · exact (same_any tos id ttl proto src dst tos id ttl proto src dst keep keep _ _ _ _ zo zd zo zd w' hBo hBd hBo hBd (R5.out w' hw') (R6.out w' hw') (R1.out w' hw') (R2.out w' hw')).mono fun e w'' ⟨he, hb⟩ => ⟨by rw [he, sm_self], hw'.trans (hb.mono hw'.size)⟩
    go_simp
    go_big_quiet_on
    (first | go_big_quiet_skip | (go_big_quiet_want; first | (refine quiet_move _ rfl ?_; go_big_quiet_on) | (refine quiet_assign _ rfl ?_; go_big_quiet_on) | (refine quiet_ex ?_; apply Exists.intro; refine ⟨fun w' hw' => ?_, ?_⟩; (· (go_simp; rfl)); go_simp; go_big_quiet_on)))
    (first | go_big_quiet_skip | (go_big_quiet_want; first | (refine quiet_move _ rfl ?_; go_big_quiet_on) | (refine quiet_assign _ rfl ?_; go_big_quiet_on) | (refine quiet_ex ?_; apply Exists.intro; refine ⟨fun w' hw' => ?_, ?_⟩; (· (go_simp; rfl)); go_simp; go_big_quiet_on)))
    go_big_quiet_want
    refine quiet_at (.agg #[Value.int .u8 tos, .int .u16 id, .bool keep, .int .u8 ttl, .int .u8 proto, .int .u32 src, .int .u32 dst, .slice ao zo.length co, .slice ad zd.length cd]) (fun w' hw' => ?_) ?_
    · have e0 := E0.out w' hw' 0
      have e1 := E0.out w' hw' 1
      have e2 := E0.out w' hw' 2
      have e3 := E0.out w' hw' 3
      have e4 := E0.out w' hw' 4
      have e5 := E0.out w' hw' 5
      have e6 := E0.out w' hw' 6
      have e7 := E0.out w' hw' 7
      have e8 := E0.out w' hw' 8
      simp at e0 e1 e2 e3 e4 e5 e6 e7 e8
      go_simp
    go_simp
    go_big_quiet_on
    go_big_quiet_want
    refine quiet_at (.agg #[Value.int .u8 tos, .int .u16 id, .bool keep, .int .u8 ((ttl + 1) % 256), .int .u8 proto, .int .u32 src, .int .u32 dst, .slice ao zo.length co, .slice ad zd.length cd]) (fun w' hw' => ?_) ?_
    · have e0 := E2.out w' hw' 0
      have e1 := E2.out w' hw' 1
      have e2 := E2.out w' hw' 2
      have e3 := E2.out w' hw' 3
      have e4 := E2.out w' hw' 4
      have e5 := E2.out w' hw' 5
      have e6 := E2.out w' hw' 6
      have e7 := E2.out w' hw' 7
      have e8 := E2.out w' hw' 8
      simp at e0 e1 e2 e3 e4 e5 e6 e7 e8
      go_simp
    go_simp
    go_big_quiet_on
    go_big_quiet_want
    refine quiet_call 7 #[.agg #[Value.int .u8 tos, .int .u16 id, .bool keep, .int .u8 ttl, .int .u8 proto, .int .u32 src, .int .u32 dst, .slice ao zo.length co, .slice ad zd.length cd], .agg #[Value.int .u8 tos, .int .u16 id, .bool keep, .int .u8 ((ttl + 1) % 256), .int .u8 proto, .int .u32 src, .int .u32 dst, .slice ao zo.length co, .slice ad zd.length cd]] (.bool false) (fun w' hw' => ?_) (fun w' hw' => ?_) ?_
    · go_simp
    · exact (same_any tos id ttl proto src dst tos id ((ttl + 1) % 256) proto src dst keep keep _ _ _ _ zo zd zo zd w' hBo hBd hBo hBd (R1.out w' hw') (R2.out w' hw') (R1.out w' hw') (R2.out w' hw')).mono fun e w'' ⟨he, hb⟩ => ⟨by rw [he, sm_ttl _ _ _ _ _ _ _ _ _ htt], hw'.trans (hb.mono hw'.size)⟩
    go_simp
    go_big_quiet_on
    (first | go_big_quiet_skip | (go_big_quiet_want; first | (refine quiet_move _ rfl ?_; go_big_quiet_on) | (refine quiet_assign _ rfl ?_; go_big_quiet_on) | (refine quiet_ex ?_; apply Exists.intro; refine ⟨fun w' hw' => ?_, ?_⟩; (· (go_simp; rfl)); go_simp; go_big_quiet_on)))
    (first | go_big_quiet_skip | (go_big_quiet_want; first | (refine quiet_move _ rfl ?_; go_big_quiet_on) | (refine quiet_assign _ rfl ?_; go_big_quiet_on) | (refine quiet_ex ?_; apply Exists.intro; refine ⟨fun w' hw' => ?_, ?_⟩; (· (go_simp; rfl)); go_simp; go_big_quiet_on)))
    (first | go_big_quiet_skip | (go_big_quiet_want; first | (refine quiet_move _ rfl ?_; go_big_quiet_on) | (refine quiet_assign _ rfl ?_; go_big_quiet_on) | (refine quiet_ex ?_; apply Exists.intro; refine ⟨fun w' hw' => ?_, ?_⟩; (· (go_simp; rfl)); go_simp; go_big_quiet_on)))
    go_big_quiet_want
    refine quiet_at (.agg #[Value.int .u8 tos, .int .u16 id, .bool keep, .int .u8 ttl, .int .u8 proto, .int .u32 src, .int .u32 dst, .slice ao zo.length co, .slice ad zd.length cd]) (fun w' hw' => ?_) ?_
    · have e0 := E0.out w' hw' 0
      have e1 := E0.out w' hw' 1
      have e2 := E0.out w' hw' 2
      have e3 := E0.out w' hw' 3
      have e4 := E0.out w' hw' 4
      have e5 := E0.out w' hw' 5
      have e6 := E0.out w' hw' 6
      have e7 := E0.out w' hw' 7
      have e8 := E0.out w' hw' 8
      simp at e0 e1 e2 e3 e4 e5 e6 e7 e8
      go_simp
    go_simp
    go_big_quiet_on
    go_big_quiet_want
    refine quiet_at (.agg #[Value.int .u8 tos2, .int .u16 id2, .bool keep2, .int .u8 ttl2, .int .u8 proto2, .int .u32 src2, .int .u32 dst2, .slice ao2 zo2.length co2, .slice ad2 zd2.length cd2]) (fun w' hw' => ?_) ?_
    · have e0 := E1.out w' hw' 0
      have e1 := E1.out w' hw' 1
      have e2 := E1.out w' hw' 2
      have e3 := E1.out w' hw' 3
      have e4 := E1.out w' hw' 4
      have e5 := E1.out w' hw' 5
      have e6 := E1.out w' hw' 6
      have e7 := E1.out w' hw' 7
      have e8 := E1.out w' hw' 8
      simp at e0 e1 e2 e3 e4 e5 e6 e7 e8
      go_simp
    go_simp
    go_big_quiet_on
    go_big_quiet_want
    refine quiet_call 7 #[.agg #[Value.int .u8 tos, .int .u16 id, .bool keep, .int .u8 ttl, .int .u8 proto, .int .u32 src, .int .u32 dst, .slice ao zo.length co, .slice ad zd.length cd], .agg #[Value.int .u8 tos2, .int .u16 id2, .bool keep2, .int .u8 ttl2, .int .u8 proto2, .int .u32 src2, .int .u32 dst2, .slice ao2 zo2.length co2, .slice ad2 zd2.length cd2]] (.bool (smP tos id ttl proto src dst tos2 id2 ttl2 proto2 src2 dst2 keep keep2 zo zd zo2 zd2)) (fun w' hw' => ?_) (fun w' hw' => ?_) ?_
    · go_simp
    · exact (same_any tos id ttl proto src dst tos2 id2 ttl2 proto2 src2 dst2 keep keep2 _ _ _ _ zo zd zo2 zd2 w' hBo hBd hBo2 hBd2 (R1.out w' hw') (R2.out w' hw') (R3.out w' hw') (R4.out w' hw')).mono fun e w'' ⟨he, hb⟩ => ⟨he, hw'.trans (hb.mono hw'.size)⟩
    go_simp
    go_big_quiet_on
    go_big_quiet_want
    refine quiet_at (.agg #[Value.int .u8 tos2, .int .u16 id2, .bool keep2, .int .u8 ttl2, .int .u8 proto2, .int .u32 src2, .int .u32 dst2, .slice ao2 zo2.length co2, .slice ad2 zd2.length cd2]) (fun w' hw' => ?_) ?_
    · have e0 := E1.out w' hw' 0
      have e1 := E1.out w' hw' 1
      have e2 := E1.out w' hw' 2
      have e3 := E1.out w' hw' 3
      have e4 := E1.out w' hw' 4
      have e5 := E1.out w' hw' 5
      have e6 := E1.out w' hw' 6
      have e7 := E1.out w' hw' 7
      have e8 := E1.out w' hw' 8
      simp at e0 e1 e2 e3 e4 e5 e6 e7 e8
      go_simp
    go_simp
    go_big_quiet_on
    go_big_quiet_want
    refine quiet_at (.agg #[Value.int .u8 tos, .int .u16 id, .bool keep, .int .u8 ttl, .int .u8 proto, .int .u32 src, .int .u32 dst, .slice ao zo.length co, .slice ad zd.length cd]) (fun w' hw' => ?_) ?_
    · have e0 := E0.out w' hw' 0
      have e1 := E0.out w' hw' 1
      have e2 := E0.out w' hw' 2
      have e3 := E0.out w' hw' 3
      have e4 := E0.out w' hw' 4
      have e5 := E0.out w' hw' 5
      have e6 := E0.out w' hw' 6
      have e7 := E0.out w' hw' 7
      have e8 := E0.out w' hw' 8
      simp at e0 e1 e2 e3 e4 e5 e6 e7 e8
      go_simp
    go_simp
    go_big_quiet_on
    go_big_quiet_want
    refine quiet_call 7 #[.agg #[Value.int .u8 tos2, .int .u16 id2, .bool keep2, .int .u8 ttl2, .int .u8 proto2, .int .u32 src2, .int .u32 dst2, .slice ao2 zo2.length co2, .slice ad2 zd2.length cd2], .agg #[Value.int .u8 tos, .int .u16 id, .bool keep, .int .u8 ttl, .int .u8 proto, .int .u32 src, .int .u32 dst, .slice ao zo.length co, .slice ad zd.length cd]] (.bool (smP tos id ttl proto src dst tos2 id2 ttl2 proto2 src2 dst2 keep keep2 zo zd zo2 zd2)) (fun w' hw' => ?_) (fun w' hw' => ?_) ?_
    · go_simp
    · exact (same_any tos2 id2 ttl2 proto2 src2 dst2 tos id ttl proto src dst keep2 keep _ _ _ _ zo2 zd2 zo zd w' hBo2 hBd2 hBo hBd (R3.out w' hw') (R4.out w' hw') (R1.out w' hw') (R2.out w' hw')).mono fun e w'' ⟨he, hb⟩ => ⟨by rw [he, sm_comm], hw'.trans (hb.mono hw'.size)⟩
    go_simp
    go_big_quiet_on
    repeat (first | go_big_quiet_skip | (go_big_quiet_want; first | (refine quiet_move _ rfl ?_; go_big_quiet_on) | (refine quiet_assign _ rfl ?_; go_big_quiet_on) | (refine quiet_ex ?_; apply Exists.intro; refine ⟨fun w' hw' => ?_, ?_⟩; (· (go_simp; rfl)); go_simp; go_big_quiet_on)))
    refine wpQuiet_nil ?_
    intro w2 hw2
    go_wp2
    go_ret
    exact ⟨rfl, hWF.trans (hw2.mono hWF.size)⟩
end Go.Proofs.Ytiigmhddnaocoad
