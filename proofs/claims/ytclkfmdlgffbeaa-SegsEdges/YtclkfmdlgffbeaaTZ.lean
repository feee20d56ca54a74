/- The walk of SegsEdges. -/
import Derived.Test.YtclkfmdlgffbeaaTY
import Derived.Test.YtclkfmdlgffbeaaHd
namespace Go.Proofs.Ytclkfmdlgffbeaa
open Go.RowKit Go.Shelf
set_option maxRecDepth 100000
set_option linter.unusedVariables false
set_option linter.unusedSimpArgs false

theorem put2_self (zs : List Int) (hB : Mt.By zs) (k : Nat) (h : k + 1 < zs.length) : Mt.put2 zs k (wat zs k) = zs := by
  have b1 := hB.at (k + 1)
  have e0 : wat zs k / 256 = zs[k] := by unfold wat; simp [show k < zs.length by omega, h]; simp [h] at b1; omega
  have e1 : wat zs k % 256 = zs[k + 1] := by unfold wat; simp [show k < zs.length by omega, h]; simp [h] at b1; omega
  unfold Mt.put2
  rw [e0, e1, List.set_getElem_self]
  exact List.set_getElem_self h
theorem put4_self (zs : List Int) (hB : Mt.By zs) (k : Nat) (h : k + 3 < zs.length) : put4 zs k (wat4 zs k) = zs := by
  have b1 := wat_bd hB k
  have b2 := wat_bd hB (k + 2)
  unfold put4 wat4
  rw [show (wat zs k * 65536 + wat zs (k + 2)) / 65536 = wat zs k from by omega, show (wat zs k * 65536 + wat zs (k + 2)) % 65536 = wat zs (k + 2) from by omega, put2_self zs hB k (by omega), put2_self zs hB (k + 2) (by omega)]
theorem wat4_other (zs : List Int) (k j : Nat) (v : Int) (h : j + 4 ≤ k ∨ k + 4 ≤ j) : wat4 (put4 zs k v) j = wat4 zs j := by
  unfold wat4 wat
  rw [put4_other _ _ _ _ (by omega), put4_other _ _ _ _ (by omega), put4_other _ _ _ _ (by omega), put4_other _ _ _ _ (by omega)]
theorem wat4_bd {zs : List Int} (hB : Mt.By zs) (k : Nat) : 0 ≤ wat4 zs k ∧ wat4 zs k ≤ 4294967295 := by
  have b1 := wat_bd hB k
  have b2 := wat_bd hB (k + 2)
  unfold wat4
  omega
theorem pk_self (dt : List Int) (hB : Mt.By dt) : ∀ m, m * 4 ≤ dt.length → pk (quads dt) dt m = dt
  | 0, _ => rfl
  | m + 1, h => by
    rw [pk, pk_self dt hB m (by omega), quads_at dt m (by omega), putAt4_lit dt (m * 4) _ _ (by omega) (by omega)]
    exact put4_self dt hB (m * 4) (by omega)
theorem pk_at (es dt : List Int) (hU : U32s es) (i : Nat) (hi : i * 4 + 4 ≤ dt.length) : ∀ m, m * 4 ≤ dt.length → wat4 (pk es dt m) (i * 4) = if i < m then es[i]?.getD 0 else wat4 dt (i * 4)
  | 0, _ => by rw [if_neg (by omega)]; rfl
  | m + 1, h => by
    rw [pk, putAt4_lit _ (m * 4) _ _ (by omega) (by rw [pk_length]; omega)]
    by_cases e : i = m
    · subst e
      rw [wat4_put4 _ _ _ (by rw [pk_length]; omega) (hU.at i).1, if_pos (by omega)]
    · rw [wat4_other _ _ _ _ (by omega), pk_at es dt hU i hi m (by omega)]
      by_cases h2 : i < m
      · rw [if_pos h2, if_pos (by omega)]
      · rw [if_neg h2, if_neg (by omega)]
theorem tlo_wsd (es : List Int) (o : Opt) : tlo (wsd es o) = tlo o := by unfold tlo wsd; simp only [pk_length]
theorem skx_wsk (os : List Opt) (es : List Int) : skx (wsk os es) = skx os := by
  cases h : skx os with
  | none => unfold wsk; rw [h]; exact h
  | some k =>
    have hk := skx_lt h
    unfold skx at h
    rw [List.findIdx?_eq_some_iff_getElem] at h
    obtain ⟨_, _, hb⟩ := h
    refine skx_some (by rw [wsk_length]; exact hk.1) (fun j hj => ?_) ?_
    · rw [wsk_at os es j (by omega)]
      show tlo (wso os es j) = false
      have hjf := hb j hj
      have : tlo (os[j]?.getD (0, [])) = false := by simpa [show j < os.length by omega] using hjf
      unfold wso
      split
      · rw [tlo_wsd]; exact this
      · exact this
    · rw [wsk_at os es k hk.1]
      show tlo (wso os es k) = true
      unfold wso
      split
      · rw [tlo_wsd]; exact hk.2
      · exact hk.2
theorem skx_bd {os : List Opt} {k : Nat} (h : skx os = some k) : (os[k]?.getD (0, [])).2.length % 8 = 0 ∧ (os[k]?.getD (0, [])).2.length ≤ 32 := by
  have htl := (skx_lt h).2
  unfold tlo telb at htl
  have := of_decide_eq_true htl
  omega
theorem wsk_self {os : List Opt} (hB : ByO os) : wsk os (sacks os) = os := by
  unfold wsk
  cases h : skx os with
  | none => rfl
  | some k =>
    have hk := (skx_lt h).1
    have hb := skx_bd h
    have hBk := (hB (os[k]?.getD (0, [])) (by simp [hk])).2
    have hs : sacks os = quads (os[k]?.getD (0, [])).2 := by unfold sacks; rw [h]
    show os.set k (wsd (sacks os) (os[k]?.getD (0, []))) = os
    have : wsd (sacks os) (os[k]?.getD (0, [])) = os[k] := by
      unfold wsd
      rw [hs, quads_length, Nat.min_self, pk_self _ hBk _ (by omega)]
      simp [hk]
    rw [this, List.set_getElem_self]
theorem sacks_wsk_some {os : List Opt} {es : List Int} {k : Nat} (h : skx os = some k) : sacks (wsk os es) = quads (pk es (os[k]?.getD (0, [])).2 (min es.length ((os[k]?.getD (0, [])).2.length / 4))) := by
  unfold sacks
  rw [skx_wsk, h]
  show quads ((wsk os es)[k]?.getD (0, [])).2 = _
  rw [wsk_at os es k (skx_lt h).1]
  unfold wso
  rw [if_pos h]
  rfl
theorem sacks_wsk_length (os : List Opt) (es : List Int) : (sacks (wsk os es)).length = (sacks os).length := by
  cases h : skx os with
  | none => unfold sacks; rw [skx_wsk, h]
  | some k => rw [sacks_wsk_some h, quads_length, pk_length]; unfold sacks; rw [h]; simp [quads_length]
theorem sacks_wsk_at (os : List Opt) (es : List Int) (hU : U32s es) (i : Nat) (hi : i < (sacks os).length) : (sacks (wsk os es))[i]?.getD 0 = if i < es.length then es[i]?.getD 0 else (sacks os)[i]?.getD 0 := by
  cases h : skx os with
  | none => unfold sacks at hi; rw [h] at hi; simp at hi
  | some k =>
    have hs : sacks os = quads (os[k]?.getD (0, [])).2 := by unfold sacks; rw [h]
    have hb := skx_bd h
    rw [hs, quads_length] at hi
    rw [sacks_wsk_some h, hs, quads_at _ i (by rw [pk_length]; exact hi), quads_at _ i hi]
    show wat4 _ _ = _
    rw [pk_at es _ hU i (by omega) _ (by omega)]
    by_cases hl : i < es.length
    · rw [if_pos hl, if_pos (by omega)]
    · rw [if_neg hl, if_neg (by omega)]; rfl
theorem U32s_sacks {os : List Opt} (hB : ByO os) : U32s (sacks os) := by
  intro e he
  unfold sacks at he
  cases h : skx os with
  | none => rw [h] at he; simp at he
  | some k =>
    rw [h] at he
    have hk := (skx_lt h).1
    have hBk := (hB (os[k]?.getD (0, [])) (by simp [hk])).2
    simp only [quads, List.mem_map] at he
    obtain ⟨i, _, rfl⟩ := he
    exact wat4_bd hBk _
theorem ByO_wsk {os : List Opt} {es : List Int} (hB : ByO os) (hU : U32s es) : ByO (wsk os es) := by
  unfold wsk
  cases h : skx os with
  | none => exact hB
  | some k =>
    intro o ho
    have hk := (skx_lt h).1
    have hBk := hB (os[k]?.getD (0, [])) (by simp [hk])
    rcases List.mem_or_eq_of_mem_set ho with h1 | rfl
    · exact hB o h1
    · exact ⟨hBk.1, By_pk hU hBk.2 _⟩
theorem wsk_bd {os : List Opt} (es : List Int) (hz : ∀ o ∈ os, o.2.length ≤ 140737488355328) : ∀ o ∈ wsk os es, o.2.length ≤ 140737488355328 := by
  unfold wsk
  cases h : skx os with
  | none => exact hz
  | some k =>
    intro o ho
    have hk := (skx_lt h).1
    rcases List.mem_or_eq_of_mem_set ho with h1 | rfl
    · exact hz o h1
    · simp only [wsd, pk_length]; exact hz _ (by simp [hk])

set_option maxHeartbeats 16000000 in
theorem walk_SegsEdges (w : World) (sp dp sq ak fl wn ur : Int) (sO sm : Value) (os : List Opt) (zm : List Int) (hB : ByO os) (hBm : Mt.By zm) (hI : RdO w.heap.size w sO os) (hM : Rd w.heap.size w sm zm) (hz : ∀ o ∈ os, o.2.length ≤ 140737488351232) (hzm : zm.length ≤ 140737488351232) (bsp : 0 ≤ sp ∧ sp ≤ 65535) (bdp : 0 ≤ dp ∧ dp ≤ 65535) (bsq : 0 ≤ sq ∧ sq ≤ 4294967295) (bak : 0 ≤ ak ∧ ak ≤ 4294967295) (bfl : 0 ≤ fl ∧ fl ≤ 255) (bwn : 0 ≤ wn ∧ wn ≤ 65535) (bur : 0 ≤ ur ∧ ur ≤ 65535) (sE : Value) (es : List Int) (hU : U32s es) (hE : RdU w.heap.size w sE es) :
    Calls Try.prog 6 #[.agg #[.int .u16 sp, .int .u16 dp, .int .u32 sq, .int .u32 ak, .int .u8 fl, .int .u16 wn, .int .u16 ur, sO, sm], sE] w fun e w' => e = .returned (.bool true) ∧ Below w.heap.size w w' := by
  obtain ⟨a, cap, rfl, hc1, hc2⟩ := hI.slice
  obtain ⟨am, cm, rfl, _, _⟩ := hM.slice
  obtain ⟨ae, ce, rfl, _, _⟩ := hE.slice
  have hb0 : Below w.heap.size w (w.alloc (.cells #[.int .u16 sp, .int .u16 dp, .int .u32 sq, .int .u32 ak, .int .u8 fl, .int .u16 wn, .int .u16 ur, .slice a os.length cap, .slice am zm.length cm] 29)) := (Below.refl _ _).alloc (Nat.le_refl _) _
  have s0 := heap_alloc_new w (.cells #[.int .u16 sp, .int .u16 dp, .int .u32 sq, .int .u32 ak, .int .u8 fl, .int .u16 wn, .int .u16 ur, .slice a os.length cap, .slice am zm.length cm] 29)
  by_cases h50 : os.length ≤ 50
  · obtain ⟨os', ho'⟩ : ∃ os', os' = os := ⟨_, rfl⟩
    have hB' : ByO os' := by rw [ho']; exact hB
    have hz' : ∀ o ∈ os', o.2.length ≤ 140737488351232 := by rw [ho']; exact hz
    have hl' : os'.length ≤ 50 := by rw [ho']; exact h50
    have h50' : ¬ (50 : Int) < os.length := by omega
    have S0 := hide s0
    clear s0
    go_enter Try.func6, Try.ntmps6
    go_upto_region 3 with fail
    have s1 := S0.out
    have hI0 := hI.below hb0
    generalize w.alloc (.cells #[.int .u16 sp, .int .u16 dp, .int .u32 sq, .int .u32 ak, .int .u8 fl, .int .u16 wn, .int .u16 ur, .slice a os.length cap, .slice am zm.length cm] 29) = W1 at *
    have hw1 := hb0
    have hI1 : RdO w.heap.size W1 (.slice a os.length cap) os' := by rw [ho']; exact hI0
    have HO := hide ho'
    clear S0 hI0 h50' ho' hI hb0
    generalize os.length = n' at *
    have S1 := hide s1
    have k1 := block_cell s1
    clear s1
    go_wp2_with fail
    clear k1
    refine (sacks_any sp dp sq ak fl wn ur _ _ os' W1 hB' (hI1.mono hw1.size) (fun o ho => Nat.le_trans (hz' o ho) (by omega))).mono ?_
    rintro e w2 ⟨hb2, va, rfl, hO⟩
    obtain ⟨a1, rfl⟩ := hO.slice
    have l2 : Later W1 w2 := hb2
    have hns : (sacks os').length ≤ 8 := sacks_le os'
    have hnu : U32s (sacks os') := U32s_sacks hB'
    have HWS : Hid (wsk os' (sacks os') = os') := wsk_self hB'
    have HML := hide (sacks_wsk_length os' es)
    have HMA := hide (sacks_wsk_at os' es hU)
    generalize hNS : sacks os' = ns at *
    have HNS := hide hNS
    clear hNS hb2
    go_upto_region 4 with fail
    go_cut [24] (fun v wx => v = .bool false ∧ Later w2 wx)
    case first =>
      refine anyR_begin (R := Later) Later.pre Later.drew 6 rfl (by kernel_rfl) (fun V1 hV1 => ?_)
      have q0 : ∀ v1, Later V1 v1 → ∀ i, v1.cell? ⟨w.heap.size, i, none⟩ = #[Value.int .u16 sp, .int .u16 dp, .int .u32 sq, .int .u32 ak, .int .u8 fl, .int .u16 wn, .int .u16 ur, .slice a n' cap, .slice am zm.length cm][i]? := fun v1 h => block_cell (later_keep (l2.trans (hV1.trans h)) S1.out)
      refine anyR_val Later.pre 0 rfl (by kernel_rfl) (by kernel_rfl) (by kernel_rfl) (fun _ _ _ _ h => h) rfl ?_; apply Exists.intro; refine ⟨fun w1 hw1 => ?_, ?_⟩; (· (go_simp; rfl)); simp only [Act.put, List.setIfInBounds_toArray, List.set_cons_zero, List.set_cons_succ]
      refine anyR_val Later.pre 1 rfl (by kernel_rfl) (by kernel_rfl) (by kernel_rfl) (fun _ _ _ _ h => h) rfl ?_; apply Exists.intro; refine ⟨fun w1 hw1 => ?_, ?_⟩; (· (go_simp; rfl)); simp only [Act.put, List.setIfInBounds_toArray, List.set_cons_zero, List.set_cons_succ]
      refine anyR_val Later.pre 3 rfl (by kernel_rfl) (by kernel_rfl) (by kernel_rfl) (fun _ _ _ _ h => h) rfl ?_; apply Exists.intro; refine ⟨fun w1 hw1 => ?_, ?_⟩; (· (go_simp; rfl)); simp only [Act.put, List.setIfInBounds_toArray, List.set_cons_zero, List.set_cons_succ]
      clear q0
      refine anyR_one 2 rfl (by kernel_rfl) rfl (fun V2 hV2 => ?_)
      refine wp_enter 18 #[.agg #[.int .u16 sp, .int .u16 dp, .int .u32 sq, .int .u32 ak, .int .u8 fl, .int .u16 wn, .int .u16 ur, .slice a n' cap, .slice am zm.length cm], .slice a1 ns.length ns.length] (by go_simp) ?_
      have lx := hV1.trans hV2
      have ly := l2.trans lx
      have hw2 := hw1.trans (ly.mono hw1.size)
      refine (wsacks_any sp dp sq ak fl wn ur _ _ _ os' zm ns V2 hB' ((hI1.below (ly.mono hw1.size)).mono (Nat.le_trans hw1.size ly.size)) ((hM.below hw2).mono hw2.size) ((hO.later lx).rd (by omega)) hnu (by omega) (fun o ho => Nat.le_trans (hz' o ho) (by omega)) (by omega)).mono ?_
      rw [HWS.out]
      rintro e V3 ⟨hb3, vO, vm, rfl, hO3, hD3⟩
      have l3 : Later V2 V3 := hb3
      refine ⟨l3, ?_⟩
      simp only [Act.put, List.setIfInBounds_toArray, List.set_cons_zero, List.set_cons_succ]
      have lz := ly.trans l3
      have hw3 := hw1.trans (lz.mono hw1.size)
      refine anyR_take Later.pre 4 (.bool true) rfl (by kernel_rfl) (by kernel_rfl) (by kernel_rfl) (fun _ _ _ h => h) rfl (fun w1 hw1' => goes_call 10 #[.agg #[.int .u16 sp, .int .u16 dp, .int .u32 sq, .int .u32 ak, .int .u8 fl, .int .u16 wn, .int .u16 ur, vO, vm], .agg #[.int .u16 sp, .int .u16 dp, .int .u32 sq, .int .u32 ak, .int .u8 fl, .int .u16 wn, .int .u16 ur, .slice a n' cap, .slice am zm.length cm]] (by go_simp) ((rsameTcp_yes sp dp sq ak fl wn ur _ _ _ _ os' zm w1 (hO3.later hw1').rd ((hI1.below ((lz.trans hw1').mono hw1.size)).mono (Nat.le_trans hw1.size (lz.trans hw1').size)) (hD3.later' hw1').rd ((hM.below (hw3.trans (hw1'.mono hw3.size))).mono (Nat.le_trans hw3.size hw1'.size))).mono fun e w2 h => h)) ?_
      simp only [Act.put, List.setIfInBounds_toArray, List.set_cons_zero, List.set_cons_succ]
      refine anyR_val Later.pre 5 rfl (by kernel_rfl) (by kernel_rfl) (by kernel_rfl) (fun _ _ _ _ h => h) rfl ?_; apply Exists.intro; refine ⟨fun w1 hw1 => ?_, ?_⟩; (· (go_simp; rfl)); simp only [Act.put, List.setIfInBounds_toArray, List.set_cons_zero, List.set_cons_succ]
      refine anyR_done (by kernel_rfl) (fun V6 hV6 => ?_)
      have l6 := lx.trans (l3.trans hV6)
      go_wp2_with fail
      go_meet
      exact ⟨rfl, l6⟩
    case rest =>
      obtain ⟨rfl, lc⟩ := hcut
      have l3 := l2.trans lc
      have hw3 := hw1.trans (l3.mono hw1.size)
      have k3 := block_cell (later_keep l3 S1.out)
      go_wp2_with fail
      clear k3
      refine (wsacks_any sp dp sq ak fl wn ur _ _ _ os' zm es wc hB' ((hI1.below (l3.mono hw1.size)).mono (Nat.le_trans hw1.size l3.size)) ((hM.below hw3).mono hw3.size) ((hE.below hw3).mono hw3.size) hU (by omega) (fun o ho => Nat.le_trans (hz' o ho) (by omega)) (by omega)).mono ?_
      rintro e w4 ⟨hb4, vO, vm, rfl, hO4, hD4⟩
      have l4 : Later wc w4 := hb4
      go_wp2_with fail
      refine (sacks_any sp dp sq ak fl wn ur _ _ (wsk os' es) w4 (ByO_wsk hB' hU) hO4.rd (wsk_bd es (fun o ho => Nat.le_trans (hz' o ho) (by omega)))).mono ?_
      rintro e w5 ⟨hb5, vb, rfl, hO5⟩
      obtain ⟨a3, rfl⟩ := hO5.slice
      have l5 : Later w4 w5 := hb5
      rw [HML.out] at hO5 ⊢
      have hO1 := hO.later (lc.trans (l4.trans l5))
      have hw5 := hw3.trans ((l4.trans l5).mono hw3.size)
      have e7 : ((ns.length : Int) != (ns.length : Int)) = false := by simp
      go_wp2_with fail
      clear e7
      go_loopw [7] (fun i wr => ∃ k : Nat, k ≤ ns.length ∧ i = .int .i64 (k : Int) ∧ wr = w5) (fun i _ => ns.length - (intOf i).toNat)
      case atStart => exact ⟨0, by omega, rfl, rfl⟩
      case round =>
        obtain ⟨k, hk, rfl, rfl⟩ := hrel
        by_cases hlt : k < ns.length
        · have hlt' : (k : Int) < ns.length := by omega
          obtain ⟨g, rfl, _, _, _, hcs⟩ := hO1.cell (by omega)
          have c1 := hcs k hlt
          obtain ⟨g3, e3, _, _, _, hcs3⟩ := (show Ow4 w4.heap.size wr (.slice a3 (sacks (wsk os' es)).length (sacks (wsk os' es)).length) (sacks (wsk os' es)) from by rw [HML.out]; exact hO5).cell (by rw [HML.out]; omega)
          subst e3
          have d1 := hcs3 k (by rw [HML.out]; exact hlt)
          rw [HMA.out k hlt] at d1
          clear hcs hcs3
          by_cases hke : k < es.length
          · rw [if_pos hke] at d1
            have hke' : (k : Int) < es.length := by omega
            obtain ⟨b2, o2, cp2, e2, _, _, _, hcs2⟩ := (hE.below hw5).cells (by omega)
            simp at e2
            obtain ⟨rfl, rfl⟩ := e2
            have f1 := hcs2 k hke
            clear hcs2
            generalize ns[k]?.getD 0 = x at *
            generalize es[k]?.getD 0 = y at *
            have ey : (y != y) = false := by simp
            go_wp2_with fail
            go_roundw
            case rel => exact ⟨k + 1, by omega, by go_num, trivial⟩
            case measure => simp [intOf]; omega
          · rw [if_neg hke] at d1
            have hke' : ¬ (k : Int) < es.length := by omega
            generalize ns[k]?.getD 0 = x at *
            have ex : (x != x) = false := by simp
            go_wp2_with fail
            go_roundw
            case rel => exact ⟨k + 1, by omega, by go_num, trivial⟩
            case measure => simp [intOf]; omega
        · obtain rfl : k = ns.length := by omega
          go_wp2_with fail
          refine (live3_any _).mono ?_
          rintro e w7 ⟨rfl, hb7⟩
          have hw7 := hw5.trans (hb7.mono hw5.size)
          go_wp2_with fail
          go_ret
          exact ⟨rfl, hw7⟩
  · obtain ⟨os', ho'⟩ : ∃ os', os' = os.take 50 := ⟨_, rfl⟩
    have hB' : ByO os' := by rw [ho']; exact fun o ho => hB o (List.mem_of_mem_take ho)
    have hz' : ∀ o ∈ os', o.2.length ≤ 140737488351232 := by rw [ho']; exact fun o ho => hz o (List.mem_of_mem_take ho)
    have hl' : os'.length ≤ 50 := by rw [ho']; simp; omega
    have h50' : (50 : Int) < os.length := by omega
    obtain ⟨b, off, cp, e, _, _, hbb, hcs⟩ := hI.cells (by omega)
    simp at e
    obtain ⟨rfl, rfl⟩ := e
    clear hcs s0
    have hb2 : Below w.heap.size w (w.alloc (.cells #[.int .u16 sp, .int .u16 dp, .int .u32 sq, .int .u32 ak, .int .u8 fl, .int .u16 wn, .int .u16 ur, .slice (some ⟨b, off, none⟩) 50 cap, .slice am zm.length cm] 29)) := (Below.refl _ _).alloc (Nat.le_refl _) _
    have s2 := heap_alloc_new w (.cells #[.int .u16 sp, .int .u16 dp, .int .u32 sq, .int .u32 ak, .int .u8 fl, .int .u16 wn, .int .u16 ur, .slice (some ⟨b, off, none⟩) 50 cap, .slice am zm.length cm] 29)
    have HI2 := hide (RdO.take hI (by omega))
    have S2 := hide s2
    clear s2
    go_enter Try.func6, Try.ntmps6
    go_upto_region 3 with fail
    have s1 := S2.out
    have hI1 : RdO w.heap.size (w.alloc (.cells #[.int .u16 sp, .int .u16 dp, .int .u32 sq, .int .u32 ak, .int .u8 fl, .int .u16 wn, .int .u16 ur, .slice (some ⟨b, off, none⟩) 50 cap, .slice am zm.length cm] 29)) (.slice (some ⟨b, off, none⟩) 50 cap) os' := by rw [ho']; exact HI2.out.below hb2
    have hw1 := hb2
    clear hb0 h50' S2 hb2
    have HO := hide ho'
    clear ho' hI HI2
    generalize w.alloc (.cells #[.int .u16 sp, .int .u16 dp, .int .u32 sq, .int .u32 ak, .int .u8 fl, .int .u16 wn, .int .u16 ur, .slice (some ⟨b, off, none⟩) 50 cap, .slice am zm.length cm] 29) = W1 at *
    have S1 := hide s1
    have k1 := block_cell s1
    clear s1
    go_wp2_with fail
    clear k1
    refine (sacks_any sp dp sq ak fl wn ur _ _ os' W1 hB' (hI1.mono hw1.size) (fun o ho => Nat.le_trans (hz' o ho) (by omega))).mono ?_
    rintro e w2 ⟨hb2, va, rfl, hO⟩
    obtain ⟨a1, rfl⟩ := hO.slice
    have l2 : Later W1 w2 := hb2
    have hns : (sacks os').length ≤ 8 := sacks_le os'
    have hnu : U32s (sacks os') := U32s_sacks hB'
    have HWS : Hid (wsk os' (sacks os') = os') := wsk_self hB'
    have HML := hide (sacks_wsk_length os' es)
    have HMA := hide (sacks_wsk_at os' es hU)
    generalize hNS : sacks os' = ns at *
    have HNS := hide hNS
    clear hNS hb2
    go_upto_region 4 with fail
    go_cut [24] (fun v wx => v = .bool false ∧ Later w2 wx)
    case first =>
      refine anyR_begin (R := Later) Later.pre Later.drew 6 rfl (by kernel_rfl) (fun V1 hV1 => ?_)
      have q0 : ∀ v1, Later V1 v1 → ∀ i, v1.cell? ⟨w.heap.size, i, none⟩ = #[Value.int .u16 sp, .int .u16 dp, .int .u32 sq, .int .u32 ak, .int .u8 fl, .int .u16 wn, .int .u16 ur, .slice (some ⟨b, off, none⟩) 50 cap, .slice am zm.length cm][i]? := fun v1 h => block_cell (later_keep (l2.trans (hV1.trans h)) S1.out)
      refine anyR_val Later.pre 0 rfl (by kernel_rfl) (by kernel_rfl) (by kernel_rfl) (fun _ _ _ _ h => h) rfl ?_; apply Exists.intro; refine ⟨fun w1 hw1 => ?_, ?_⟩; (· (go_simp; rfl)); simp only [Act.put, List.setIfInBounds_toArray, List.set_cons_zero, List.set_cons_succ]
      refine anyR_val Later.pre 1 rfl (by kernel_rfl) (by kernel_rfl) (by kernel_rfl) (fun _ _ _ _ h => h) rfl ?_; apply Exists.intro; refine ⟨fun w1 hw1 => ?_, ?_⟩; (· (go_simp; rfl)); simp only [Act.put, List.setIfInBounds_toArray, List.set_cons_zero, List.set_cons_succ]
      refine anyR_val Later.pre 3 rfl (by kernel_rfl) (by kernel_rfl) (by kernel_rfl) (fun _ _ _ _ h => h) rfl ?_; apply Exists.intro; refine ⟨fun w1 hw1 => ?_, ?_⟩; (· (go_simp; rfl)); simp only [Act.put, List.setIfInBounds_toArray, List.set_cons_zero, List.set_cons_succ]
      clear q0
      refine anyR_one 2 rfl (by kernel_rfl) rfl (fun V2 hV2 => ?_)
      refine wp_enter 18 #[.agg #[.int .u16 sp, .int .u16 dp, .int .u32 sq, .int .u32 ak, .int .u8 fl, .int .u16 wn, .int .u16 ur, .slice (some ⟨b, off, none⟩) 50 cap, .slice am zm.length cm], .slice a1 ns.length ns.length] (by go_simp) ?_
      have lx := hV1.trans hV2
      have ly := l2.trans lx
      have hw2 := hw1.trans (ly.mono hw1.size)
      refine (wsacks_any sp dp sq ak fl wn ur _ _ _ os' zm ns V2 hB' ((hI1.below (ly.mono hw1.size)).mono (Nat.le_trans hw1.size ly.size)) ((hM.below hw2).mono hw2.size) ((hO.later lx).rd (by omega)) hnu (by omega) (fun o ho => Nat.le_trans (hz' o ho) (by omega)) (by omega)).mono ?_
      rw [HWS.out]
      rintro e V3 ⟨hb3, vO, vm, rfl, hO3, hD3⟩
      have l3 : Later V2 V3 := hb3
      refine ⟨l3, ?_⟩
      simp only [Act.put, List.setIfInBounds_toArray, List.set_cons_zero, List.set_cons_succ]
      have lz := ly.trans l3
      have hw3 := hw1.trans (lz.mono hw1.size)
      refine anyR_take Later.pre 4 (.bool true) rfl (by kernel_rfl) (by kernel_rfl) (by kernel_rfl) (fun _ _ _ h => h) rfl (fun w1 hw1' => goes_call 10 #[.agg #[.int .u16 sp, .int .u16 dp, .int .u32 sq, .int .u32 ak, .int .u8 fl, .int .u16 wn, .int .u16 ur, vO, vm], .agg #[.int .u16 sp, .int .u16 dp, .int .u32 sq, .int .u32 ak, .int .u8 fl, .int .u16 wn, .int .u16 ur, .slice (some ⟨b, off, none⟩) 50 cap, .slice am zm.length cm]] (by go_simp) ((rsameTcp_yes sp dp sq ak fl wn ur _ _ _ _ os' zm w1 (hO3.later hw1').rd ((hI1.below ((lz.trans hw1').mono hw1.size)).mono (Nat.le_trans hw1.size (lz.trans hw1').size)) (hD3.later' hw1').rd ((hM.below (hw3.trans (hw1'.mono hw3.size))).mono (Nat.le_trans hw3.size hw1'.size))).mono fun e w2 h => h)) ?_
      simp only [Act.put, List.setIfInBounds_toArray, List.set_cons_zero, List.set_cons_succ]
      refine anyR_val Later.pre 5 rfl (by kernel_rfl) (by kernel_rfl) (by kernel_rfl) (fun _ _ _ _ h => h) rfl ?_; apply Exists.intro; refine ⟨fun w1 hw1 => ?_, ?_⟩; (· (go_simp; rfl)); simp only [Act.put, List.setIfInBounds_toArray, List.set_cons_zero, List.set_cons_succ]
      refine anyR_done (by kernel_rfl) (fun V6 hV6 => ?_)
      have l6 := lx.trans (l3.trans hV6)
      go_wp2_with fail
      go_meet
      exact ⟨rfl, l6⟩
    case rest =>
      obtain ⟨rfl, lc⟩ := hcut
      have l3 := l2.trans lc
      have hw3 := hw1.trans (l3.mono hw1.size)
      have k3 := block_cell (later_keep l3 S1.out)
      go_wp2_with fail
      clear k3
      refine (wsacks_any sp dp sq ak fl wn ur _ _ _ os' zm es wc hB' ((hI1.below (l3.mono hw1.size)).mono (Nat.le_trans hw1.size l3.size)) ((hM.below hw3).mono hw3.size) ((hE.below hw3).mono hw3.size) hU (by omega) (fun o ho => Nat.le_trans (hz' o ho) (by omega)) (by omega)).mono ?_
      rintro e w4 ⟨hb4, vO, vm, rfl, hO4, hD4⟩
      have l4 : Later wc w4 := hb4
      go_wp2_with fail
      refine (sacks_any sp dp sq ak fl wn ur _ _ (wsk os' es) w4 (ByO_wsk hB' hU) hO4.rd (wsk_bd es (fun o ho => Nat.le_trans (hz' o ho) (by omega)))).mono ?_
      rintro e w5 ⟨hb5, vb, rfl, hO5⟩
      obtain ⟨a3, rfl⟩ := hO5.slice
      have l5 : Later w4 w5 := hb5
      rw [HML.out] at hO5 ⊢
      have hO1 := hO.later (lc.trans (l4.trans l5))
      have hw5 := hw3.trans ((l4.trans l5).mono hw3.size)
      have e7 : ((ns.length : Int) != (ns.length : Int)) = false := by simp
      go_wp2_with fail
      clear e7
      go_loopw [7] (fun i wr => ∃ k : Nat, k ≤ ns.length ∧ i = .int .i64 (k : Int) ∧ wr = w5) (fun i _ => ns.length - (intOf i).toNat)
      case atStart => exact ⟨0, by omega, rfl, rfl⟩
      case round =>
        obtain ⟨k, hk, rfl, rfl⟩ := hrel
        by_cases hlt : k < ns.length
        · have hlt' : (k : Int) < ns.length := by omega
          obtain ⟨g, rfl, _, _, _, hcs⟩ := hO1.cell (by omega)
          have c1 := hcs k hlt
          obtain ⟨g3, e3, _, _, _, hcs3⟩ := (show Ow4 w4.heap.size wr (.slice a3 (sacks (wsk os' es)).length (sacks (wsk os' es)).length) (sacks (wsk os' es)) from by rw [HML.out]; exact hO5).cell (by rw [HML.out]; omega)
          subst e3
          have d1 := hcs3 k (by rw [HML.out]; exact hlt)
          rw [HMA.out k hlt] at d1
          clear hcs hcs3
          by_cases hke : k < es.length
          · rw [if_pos hke] at d1
            have hke' : (k : Int) < es.length := by omega
            obtain ⟨b2, o2, cp2, e2, _, _, _, hcs2⟩ := (hE.below hw5).cells (by omega)
            simp at e2
            obtain ⟨rfl, rfl⟩ := e2
            have f1 := hcs2 k hke
            clear hcs2
            generalize ns[k]?.getD 0 = x at *
            generalize es[k]?.getD 0 = y at *
            have ey : (y != y) = false := by simp
            go_wp2_with fail
            go_roundw
            case rel => exact ⟨k + 1, by omega, by go_num, trivial⟩
            case measure => simp [intOf]; omega
          · rw [if_neg hke] at d1
            have hke' : ¬ (k : Int) < es.length := by omega
            generalize ns[k]?.getD 0 = x at *
            have ex : (x != x) = false := by simp
            go_wp2_with fail
            go_roundw
            case rel => exact ⟨k + 1, by omega, by go_num, trivial⟩
            case measure => simp [intOf]; omega
        · obtain rfl : k = ns.length := by omega
          go_wp2_with fail
          refine (live3_any _).mono ?_
          rintro e w7 ⟨rfl, hb7⟩
          have hw7 := hw5.trans (hb7.mono hw5.size)
          go_wp2_with fail
          go_ret
          exact ⟨rfl, hw7⟩
end Go.Proofs.Ytclkfmdlgffbeaa
