/- The walk of SegsSacks. -/
import Derived.Test.YtclkfmdlgffbeaaX1
import Derived.Test.YtclkfmdlgffbeaaTD
import Derived.Test.YtclkfmdlgffbeaaSS
namespace Go.Proofs.Ytclkfmdlgffbeaa
open Go.RowKit Go.Shelf
set_option maxRecDepth 100000
set_option linter.unusedVariables false
set_option linter.unusedSimpArgs false

section
variable {P : Program} {l : List Oper} {Q : Exit → Act → World → Prop} {fuel : Nat} {listed : Array Bool} {a : Act} {w : World} {R : World → World → Prop}
/-- One that may come up, whose guard holds. -/
theorem anyR_oneG (i : Nat) {oi : Oper} (hi : nthOp l i = some oi) (hr : Region.ready .any l.toArray listed = [i]) (hg : Region.wanted oi (yielded l.toArray a.tmps) = true)
    (h1 : ∀ w', R w w' → oi.wp P a w' (fun a' w'' => R w' w'' ∧ wpAnyR P .any l.toArray Q R fuel (listed.setIfInBounds i true) a' w'') Q) :
    wpAnyR P .any l.toArray Q R (fuel + 1) listed a w := by
  have hi' : l.toArray[i]? = some oi := by rw [← hi, nthOp_eq]; simp
  refine ⟨fun h0 => (by rw [hr] at h0; cases h0), fun k hk w' hw' => ?_⟩
  rw [hr] at hk
  unfold wpOp
  obtain rfl : k = i := by simpa using hk
  rw [hi']; simp only [hg, if_true]; exact .inl (h1 w' hw')
end

theorem sacks_le (os : List Opt) : (sacks os).length ≤ 8 := by
  unfold sacks
  cases h : skx os with
  | none => simp
  | some k =>
    have htl := (skx_lt h).2
    unfold tlo telb at htl
    have := of_decide_eq_true htl
    simp only [quads_length]
    omega
theorem RdO.take {n₀ : Nat} {W : World} {a : Option Addr} {cap : Nat} {os : List Opt} (h : RdO n₀ W (.slice a os.length cap) os) (hl : 50 < os.length) : RdO n₀ W (.slice a 50 cap) (os.take 50) := by
  rcases h with ⟨_, _, _, rfl, _⟩ | ⟨b, off, cap', e, hne, hl1, hm, hb, hc⟩
  · simp at hl
  · simp at e
    obtain ⟨rfl, rfl⟩ := e
    have h50 : (os.take 50).length = 50 := by simp; omega
    refine .inr ⟨b, off, cap, by rw [h50], fun e => by rw [e] at h50; simp at h50, by omega, hm, hb, fun j hj => ?_⟩
    rw [h50] at hj
    have := hc j (by omega)
    rw [List.getElem?_take_of_lt hj]
    exact this

set_option maxHeartbeats 16000000 in
theorem walk_SegsSacks (w : World) (sp dp sq ak fl wn ur : Int) (sO sm : Value) (os : List Opt) (zm : List Int) (hB : ByO os) (hBm : Mt.By zm) (hI : RdO w.heap.size w sO os) (hM : Rd w.heap.size w sm zm) (hz : ∀ o ∈ os, o.2.length ≤ 140737488351232) (hzm : zm.length ≤ 140737488351232) (bsp : 0 ≤ sp ∧ sp ≤ 65535) (bdp : 0 ≤ dp ∧ dp ≤ 65535) (bsq : 0 ≤ sq ∧ sq ≤ 4294967295) (bak : 0 ≤ ak ∧ ak ≤ 4294967295) (bfl : 0 ≤ fl ∧ fl ≤ 255) (bwn : 0 ≤ wn ∧ wn ≤ 65535) (bur : 0 ≤ ur ∧ ur ≤ 65535) (sE : Value) (es : List Int) (hU : U32s es) (hE : RdU w.heap.size w sE es) :
    Calls Try.prog 5 #[.agg #[.int .u16 sp, .int .u16 dp, .int .u32 sq, .int .u32 ak, .int .u8 fl, .int .u16 wn, .int .u16 ur, sO, sm], sE] w fun e w' => e = .returned (.bool true) ∧ Below w.heap.size w w' := by
  obtain ⟨a, cap, rfl, hc1, hc2⟩ := hI.slice
  obtain ⟨am, cm, rfl, _, _⟩ := hM.slice
  obtain ⟨ae, ce, rfl, _, _⟩ := hE.slice
  have hb0 : Below w.heap.size w (w.alloc (.cells #[.int .u16 sp, .int .u16 dp, .int .u32 sq, .int .u32 ak, .int .u8 fl, .int .u16 wn, .int .u16 ur, .slice a os.length cap, .slice am zm.length cm] 29)) := (Below.refl _ _).alloc (Nat.le_refl _) _
  have s0 := heap_alloc_new w (.cells #[.int .u16 sp, .int .u16 dp, .int .u32 sq, .int .u32 ak, .int .u8 fl, .int .u16 wn, .int .u16 ur, .slice a os.length cap, .slice am zm.length cm] 29)
  by_cases h50 : os.length ≤ 50
  · obtain ⟨os', ho'⟩ : ∃ os', os' = os := ⟨_, rfl⟩
    have hB' : ByO os' := by rw [ho']; exact hB
    have hz' : ∀ o ∈ os', o.2.length ≤ 140737488351232 := by rw [ho']; exact hz
    have hl' : os'.length ≤ 50 := by rw [ho']; exact h50
    have h50' : ¬ (50 : Int) < os.length := by omega
    have S0 := hide s0
    clear s0
    go_enter Try.func5, Try.ntmps5
    go_upto_region 3 with fail
    have s1 := S0.out
    have hI0 := hI.below hb0
    generalize w.alloc (.cells #[.int .u16 sp, .int .u16 dp, .int .u32 sq, .int .u32 ak, .int .u8 fl, .int .u16 wn, .int .u16 ur, .slice a os.length cap, .slice am zm.length cm] 29) = W1 at *
    have hw1 := hb0
    have hI1 : RdO w.heap.size W1 (.slice a os.length cap) os' := by rw [ho']; exact hI0
    have HO := hide ho'
    clear S0 hI0 h50' ho' hI hb0
    generalize os.length = n' at *
    have S1 := hide s1
    clear s1
    have HIB := hide (hI1.mono hw1.size)
    go_cut [5, 6] (fun x y wx => ∃ a1 a2 c2, x = .slice a1 (sacks os').length (sacks os').length ∧ y = .slice a2 (sacks os').length c2 ∧ Ow4 W1.heap.size wx (.slice a1 (sacks os').length (sacks os').length) (sacks os') ∧ RdU wx.heap.size wx (.slice a2 (sacks os').length c2) (sacks os') ∧ Later W1 wx)
    case first =>
      refine anyR_begin (R := Later) Later.pre Later.drew 6 rfl (by kernel_rfl) (fun V1 hV1 => ?_)
      have q0 : ∀ v1, Later V1 v1 → ∀ i, v1.cell? ⟨w.heap.size, i, none⟩ = #[Value.int .u16 sp, .int .u16 dp, .int .u32 sq, .int .u32 ak, .int .u8 fl, .int .u16 wn, .int .u16 ur, .slice a n' cap, .slice am zm.length cm][i]? := fun v1 h => block_cell (later_keep (hV1.trans h) S1.out)
      refine anyR_val Later.pre 0 rfl (by kernel_rfl) (by kernel_rfl) (by kernel_rfl) (fun _ _ _ _ h => h) rfl ?_; apply Exists.intro; refine ⟨fun w1 hw1 => ?_, ?_⟩; (· (go_simp; rfl)); simp only [Act.put, List.setIfInBounds_toArray, List.set_cons_zero, List.set_cons_succ]
      refine anyR_val Later.pre 2 rfl (by kernel_rfl) (by kernel_rfl) (by kernel_rfl) (fun _ _ _ _ h => h) rfl ?_; apply Exists.intro; refine ⟨fun w1 hw1 => ?_, ?_⟩; (· (go_simp; rfl)); simp only [Act.put, List.setIfInBounds_toArray, List.set_cons_zero, List.set_cons_succ]
      clear q0
      refine anyR_one 1 rfl (by kernel_rfl) rfl (fun V2 hV2 => ?_)
      refine wp_enter 16 #[.agg #[.int .u16 sp, .int .u16 dp, .int .u32 sq, .int .u32 ak, .int .u8 fl, .int .u16 wn, .int .u16 ur, .slice a n' cap, .slice am zm.length cm]] (by go_simp) ?_
      have l2 := hV1.trans hV2
      refine (sacks_any sp dp sq ak fl wn ur _ _ os' V2 hB' ((hI1.below (l2.mono hw1.size)).mono (Nat.le_trans hw1.size l2.size)) (fun o ho => Nat.le_trans (hz' o ho) (by omega))).mono ?_
      rintro e V3 ⟨hb3, va, rfl, hO3⟩
      obtain ⟨a1, rfl⟩ := hO3.slice
      have l3 : Later V2 V3 := hb3
      refine ⟨l3, ?_⟩
      simp only [Act.put, List.setIfInBounds_toArray, List.set_cons_zero, List.set_cons_succ]
      refine anyR_one 3 rfl (by kernel_rfl) rfl (fun V4 hV4 => ?_)
      refine wp_enter 17 #[.agg #[.int .u16 sp, .int .u16 dp, .int .u32 sq, .int .u32 ak, .int .u8 fl, .int .u16 wn, .int .u16 ur, .slice a n' cap, .slice am zm.length cm]] (by go_simp) ?_
      have l4 := l2.trans (l3.trans hV4)
      refine (rsacks_any sp dp sq ak fl wn ur _ _ os' V4 hB' ((hI1.below (l4.mono hw1.size)).mono (Nat.le_trans hw1.size l4.size))).mono ?_
      rintro e V5 ⟨hb5, vb, rfl, hO5⟩
      have l5 : Later V4 V5 := hb5
      have hR5 := hO5.rd
      obtain ⟨a2, c2, rfl, _, _⟩ := hR5.slice
      refine ⟨l5, ?_⟩
      simp only [Act.put, List.setIfInBounds_toArray, List.set_cons_zero, List.set_cons_succ]
      have H3 := hide ((hO3.later (hV4.trans l5)).mono l2.size)
      have H5 := hide hR5
      clear hO3 hO5 hR5
      refine anyR_val Later.pre 4 rfl (by kernel_rfl) (by kernel_rfl) (by kernel_rfl) (fun _ _ _ _ h => h) rfl ?_; apply Exists.intro; refine ⟨fun w1 hw1 => ?_, ?_⟩; (· (go_simp; rfl)); simp only [Act.put, List.setIfInBounds_toArray, List.set_cons_zero, List.set_cons_succ]
      refine anyR_val Later.pre 5 rfl (by kernel_rfl) (by kernel_rfl) (by kernel_rfl) (fun _ _ _ _ h => h) rfl ?_; apply Exists.intro; refine ⟨fun w1 hw1 => ?_, ?_⟩; (· (go_simp; rfl)); simp only [Act.put, List.setIfInBounds_toArray, List.set_cons_zero, List.set_cons_succ]
      refine anyR_done (by kernel_rfl) (fun V6 hV6 => ?_)
      have l6 := l4.trans (l5.trans hV6)
      have O6 := H3.out.later hV6
      have R6 := (H5.out.below hV6).mono hV6.size
      clear H3 H5
      go_wp2_with fail
      go_meet
      exact ⟨a1, a2, c2, rfl, rfl, O6, R6, l6⟩
    case rest =>
      obtain ⟨a1, a2, c2, rfl, rfl, hO, hR, lc⟩ := hcut
      have hns : (sacks os').length ≤ 8 := sacks_le os'
      generalize hNS : sacks os' = ns at *
      have e7 : ((ns.length : Int) != (ns.length : Int)) = false := by simp
      go_wp2_with fail
      clear e7
      go_loopw [7] (fun i wr => ∃ k : Nat, k ≤ ns.length ∧ i = .int .i64 (k : Int) ∧ Later wc wr) (fun i _ => ns.length - (intOf i).toNat)
      case atStart => exact ⟨0, by omega, rfl, Later.refl _⟩
      case round =>
        obtain ⟨k, hk, rfl, hl⟩ := hrel
        have hl1 := lc.trans hl
        have hwr := hw1.trans (hl1.mono hw1.size)
        by_cases hlt : k < ns.length
        · have hlt' : (k : Int) < ns.length := by omega
          obtain ⟨g, rfl, _, _, _, hcs⟩ := hO.cell (by omega)
          have c1 := hcs k hlt
          obtain ⟨b2, o2, cp2, e2, _, _, _, hcs2⟩ := hR.cells (by omega)
          simp at e2
          obtain ⟨rfl, rfl⟩ := e2
          have d1 := hcs2 k hlt
          clear hcs hcs2
          generalize ns[k]?.getD 0 = x at *
          have ek : (x != x) = false := by simp
          go_upto_region 9 with fail
          refine anyR_begin (R := Later) Later.pre Later.drew 9 rfl (by kernel_rfl) (fun V1 hV1 => ?_)
          have q1 : ∀ v1, Later V1 v1 → v1.cell? ⟨g, k, none⟩ = some (.int .u32 x) := fun v1 h => (hl.trans (hV1.trans h)).cell c1
          have q2 : ∀ v1, Later V1 v1 → v1.cell? ⟨b2, o2 + k, none⟩ = some (.int .u32 x) := fun v1 h => (hl.trans (hV1.trans h)).cell d1
          clear c1 d1
          refine anyR_val Later.pre 0 rfl (by kernel_rfl) (by kernel_rfl) (by kernel_rfl) (fun _ _ _ _ h => h) rfl ?_; apply Exists.intro; refine ⟨fun w1 hw1 => ?_, ?_⟩; (· (go_simp; rfl)); simp only [Act.put, List.setIfInBounds_toArray, List.set_cons_zero, List.set_cons_succ]
          refine anyR_val Later.pre 1 rfl (by kernel_rfl) (by kernel_rfl) (by kernel_rfl) (fun _ _ _ _ h => h) rfl ?_; apply Exists.intro; refine ⟨fun w1 hw1 => ?_, ?_⟩; (· (go_simp; rfl)); simp only [Act.put, List.setIfInBounds_toArray, List.set_cons_zero, List.set_cons_succ]
          refine anyR_val Later.pre 2 rfl (by kernel_rfl) (by kernel_rfl) (by kernel_rfl) (fun _ _ _ _ h => h) rfl ?_; apply Exists.intro; refine ⟨fun w1 hw1 => ?_, ?_⟩; (· (go_simp; rfl)); simp only [Act.put, List.setIfInBounds_toArray, List.set_cons_zero, List.set_cons_succ]
          refine anyR_val Later.pre 3 rfl (by kernel_rfl) (by kernel_rfl) (by kernel_rfl) (fun _ _ _ _ h => h) rfl ?_; apply Exists.intro; refine ⟨fun w1 hw1 => ?_, ?_⟩; (· (go_simp; rfl)); simp only [Act.put, List.setIfInBounds_toArray, List.set_cons_zero, List.set_cons_succ]
          refine anyR_val Later.pre 4 rfl (by kernel_rfl) (by kernel_rfl) (by kernel_rfl) (fun _ _ _ _ h => h) rfl ?_; apply Exists.intro; refine ⟨fun w1 hw1 => ?_, ?_⟩; (· (go_simp; rfl)); simp only [Act.put, List.setIfInBounds_toArray, List.set_cons_zero, List.set_cons_succ]
          refine anyR_val Later.pre 5 rfl (by kernel_rfl) (by kernel_rfl) (by kernel_rfl) (fun _ _ _ _ h => h) rfl ?_; apply Exists.intro; refine ⟨fun w1 hw1 => ?_, ?_⟩; (· (go_simp; rfl)); simp only [Act.put, List.setIfInBounds_toArray, List.set_cons_zero, List.set_cons_succ]
          refine anyR_val Later.pre 6 rfl (by kernel_rfl) (by kernel_rfl) (by kernel_rfl) (fun _ _ _ _ h => h) rfl ?_; apply Exists.intro; refine ⟨fun w1 hw1 => ?_, ?_⟩; (· (go_simp; rfl)); simp only [Act.put, List.setIfInBounds_toArray, List.set_cons_zero, List.set_cons_succ]
          refine anyR_val Later.pre 7 rfl (by kernel_rfl) (by kernel_rfl) (by kernel_rfl) (fun _ _ _ _ h => h) rfl ?_; apply Exists.intro; refine ⟨fun w1 hw1 => ?_, ?_⟩; (· (go_simp; rfl)); simp only [Act.put, List.setIfInBounds_toArray, List.set_cons_zero, List.set_cons_succ]
          refine anyR_val Later.pre 8 rfl (by kernel_rfl) (by kernel_rfl) (by kernel_rfl) (fun _ _ _ _ h => h) rfl ?_; apply Exists.intro; refine ⟨fun w1 hw1 => ?_, ?_⟩; (· (go_simp; rfl)); simp only [Act.put, List.setIfInBounds_toArray, List.set_cons_zero, List.set_cons_succ]
          refine anyR_done (by kernel_rfl) (fun V2 hV2 => ?_)
          have hl2 := hl.trans (hV1.trans hV2)
          clear q1 q2
          go_wp2_with fail
          go_roundw
          case rel => exact ⟨k + 1, by omega, by go_num, hl2⟩
          case measure => simp [intOf]; omega
        · obtain rfl : k = ns.length := by omega
          go_upto_region 11 with fail
          refine anyR_begin (R := Later) Later.pre Later.drew 11 rfl (by kernel_rfl) (fun V1 hV1 => ?_)
          have q0 : ∀ v1, Later V1 v1 → ∀ i, v1.cell? ⟨w.heap.size, i, none⟩ = #[Value.int .u16 sp, .int .u16 dp, .int .u32 sq, .int .u32 ak, .int .u8 fl, .int .u16 wn, .int .u16 ur, .slice a n' cap, .slice am zm.length cm][i]? := fun v1 h => block_cell (later_keep (hl1.trans (hV1.trans h)) S1.out)
          refine anyR_take Later.pre 0 (.bool true) rfl (by kernel_rfl) (by kernel_rfl) (by kernel_rfl) (fun _ _ _ h => h) rfl (fun w1 hw1 => goes_call 9 #[] (by go_simp) ((live3_any w1).mono fun e w2 h => h)) ?_
          simp only [Act.put, List.setIfInBounds_toArray, List.set_cons_zero, List.set_cons_succ]
          refine anyR_val Later.pre 1 rfl (by kernel_rfl) (by kernel_rfl) (by kernel_rfl) (fun _ _ _ _ h => h) rfl ?_; apply Exists.intro; refine ⟨fun w1 hw1 => ?_, ?_⟩; (· (go_simp; rfl)); simp only [Act.put, List.setIfInBounds_toArray, List.set_cons_zero, List.set_cons_succ]
          refine anyR_valG Later.pre 2 rfl (by kernel_rfl) (by kernel_rfl) (by kernel_rfl) (fun _ _ _ _ h => h) (by rfl) ?_; apply Exists.intro; refine ⟨fun w1 hw1 => ?_, ?_⟩; (· (go_simp; rfl)); simp only [Act.put, List.setIfInBounds_toArray, List.set_cons_zero, List.set_cons_succ]
          refine anyR_valG Later.pre 3 rfl (by kernel_rfl) (by kernel_rfl) (by kernel_rfl) (fun _ _ _ _ h => h) (by rfl) ?_; apply Exists.intro; refine ⟨fun w1 hw1 => ?_, ?_⟩; (· (go_simp; rfl)); simp only [Act.put, List.setIfInBounds_toArray, List.set_cons_zero, List.set_cons_succ]
          refine anyR_valG Later.pre 5 rfl (by kernel_rfl) (by kernel_rfl) (by kernel_rfl) (fun _ _ _ _ h => h) (by rfl) ?_; apply Exists.intro; refine ⟨fun w1 hw1 => ?_, ?_⟩; (· (go_simp; rfl)); simp only [Act.put, List.setIfInBounds_toArray, List.set_cons_zero, List.set_cons_succ]
          refine anyR_valG Later.pre 6 rfl (by kernel_rfl) (by kernel_rfl) (by kernel_rfl) (fun _ _ _ _ h => h) (by rfl) ?_; apply Exists.intro; refine ⟨fun w1 hw1 => ?_, ?_⟩; (· (go_simp; rfl)); simp only [Act.put, List.setIfInBounds_toArray, List.set_cons_zero, List.set_cons_succ]
          clear q0
          refine anyR_oneG 4 rfl (by kernel_rfl) (by rfl) (fun V2 hV2 => ?_)
          refine wp_enter 18 #[.agg #[.int .u16 sp, .int .u16 dp, .int .u32 sq, .int .u32 ak, .int .u8 fl, .int .u16 wn, .int .u16 ur, .slice a n' cap, .slice am zm.length cm], .slice ae es.length ce] (by go_simp) ?_
          have l2 := hl1.trans (hV1.trans hV2)
          have hw2 := hw1.trans (l2.mono hw1.size)
          refine (wsacks_any sp dp sq ak fl wn ur _ _ _ os' zm es V2 hB' ((hI1.below (l2.mono hw1.size)).mono (Nat.le_trans hw1.size l2.size)) ((hM.below hw2).mono hw2.size) ((hE.below hw2).mono hw2.size) hU (by omega) (fun o ho => Nat.le_trans (hz' o ho) (by omega)) (by omega)).mono ?_
          rintro e V3 ⟨hb3, vO, vm, rfl, hO3, hD3⟩
          have l3 : Later V2 V3 := hb3
          refine ⟨l3, ?_⟩
          simp only [Act.put, List.setIfInBounds_toArray, List.set_cons_zero, List.set_cons_succ]
          refine anyR_oneG 7 rfl (by kernel_rfl) (by rfl) (fun V4 hV4 => ?_)
          refine wp_enter 19 #[.agg #[.int .u16 sp, .int .u16 dp, .int .u32 sq, .int .u32 ak, .int .u8 fl, .int .u16 wn, .int .u16 ur, .slice a n' cap, .slice am zm.length cm], .slice ae es.length ce] (by go_simp) ?_
          have l4 := l2.trans (l3.trans hV4)
          have hw4 := hw1.trans (l4.mono hw1.size)
          refine (rwsacks_any sp dp sq ak fl wn ur _ _ _ os' zm es V4 hB' ((hI1.below (l4.mono hw1.size)).mono (Nat.le_trans hw1.size l4.size)) ((hM.below hw4).mono hw4.size) ((hE.below hw4).mono hw4.size) hU (by omega) (fun o ho => Nat.le_trans (hz' o ho) (by omega)) (by omega)).mono ?_
          rintro e V5 ⟨hb5, vP, vn, rfl, hO5, hD5⟩
          have l5 : Later V4 V5 := hb5
          refine ⟨l5, ?_⟩
          simp only [Act.put, List.setIfInBounds_toArray, List.set_cons_zero, List.set_cons_succ]
          have H3 := hO3.later (hV4.trans l5)
          have D3 := hD3.later' (hV4.trans l5)
          refine anyR_takeG Later.pre 8 (.bool true) rfl (by kernel_rfl) (by kernel_rfl) (by kernel_rfl) (fun _ _ _ h => h) (by rfl) (fun w1 hw1 => goes_call 10 #[.agg #[.int .u16 sp, .int .u16 dp, .int .u32 sq, .int .u32 ak, .int .u8 fl, .int .u16 wn, .int .u16 ur, vO, vm], .agg #[.int .u16 sp, .int .u16 dp, .int .u32 sq, .int .u32 ak, .int .u8 fl, .int .u16 wn, .int .u16 ur, vP, vn]] (by go_simp) ((rsameTcp_yes sp dp sq ak fl wn ur _ _ _ _ (wsk os' es) zm w1 (H3.later hw1).rd (hO5.later hw1).rd (D3.later' hw1).rd (hD5.later' hw1).rd).mono fun e w2 h => h)) ?_
          simp only [Act.put, List.setIfInBounds_toArray, List.set_cons_zero, List.set_cons_succ]
          refine anyR_val Later.pre 9 rfl (by kernel_rfl) (by kernel_rfl) (by kernel_rfl) (fun _ _ _ _ h => h) rfl ?_; apply Exists.intro; refine ⟨fun w1 hw1 => ?_, ?_⟩; (· (go_simp; rfl)); simp only [Act.put, List.setIfInBounds_toArray, List.set_cons_zero, List.set_cons_succ]
          refine anyR_val Later.pre 10 rfl (by kernel_rfl) (by kernel_rfl) (by kernel_rfl) (fun _ _ _ _ h => h) rfl ?_; apply Exists.intro; refine ⟨fun w1 hw1 => ?_, ?_⟩; (· (go_simp; rfl)); simp only [Act.put, List.setIfInBounds_toArray, List.set_cons_zero, List.set_cons_succ]
          refine anyR_done (by kernel_rfl) (fun V6 hV6 => ?_)
          have l6 := l4.trans (l5.trans hV6)
          have hw6 := hw1.trans (l6.mono hw1.size)
          go_wp2_with fail
          go_ret
          exact ⟨rfl, hw6⟩
  · obtain ⟨os', ho'⟩ : ∃ os', os' = os.take 50 := ⟨_, rfl⟩
    have hB' : ByO os' := by rw [ho']; exact fun o ho => hB o (List.mem_of_mem_take ho)
    have hz' : ∀ o ∈ os', o.2.length ≤ 140737488351232 := by rw [ho']; exact fun o ho => hz o (List.mem_of_mem_take ho)
    have hl' : os'.length ≤ 50 := by rw [ho']; simp; omega
    have h50' : (50 : Int) < os.length := by omega
    obtain ⟨b, off, cp, e, _, _, hbb, hcs⟩ := hI.cells (by omega)
    simp at e
    obtain ⟨rfl, rfl⟩ := e
    clear hcs s0
    have hb2 : Below w.heap.size w (w.alloc (.cells #[.int .u16 sp, .int .u16 dp, .int .u32 sq, .int .u32 ak, .int .u8 fl, .int .u16 wn, .int .u16 ur, .slice (some ⟨b, off, none⟩) 50 cap, .slice am zm.length cm] 29)) := (Below.refl _ _).alloc (Nat.le_refl _) _
    have s2 := heap_alloc_new w (.cells #[.int .u16 sp, .int .u16 dp, .int .u32 sq, .int .u32 ak, .int .u8 fl, .int .u16 wn, .int .u16 ur, .slice (some ⟨b, off, none⟩) 50 cap, .slice am zm.length cm] 29)
    have HI2 := hide (RdO.take hI (by omega))
    have S2 := hide s2
    clear s2
    go_enter Try.func5, Try.ntmps5
    go_upto_region 3 with fail
    have s1 := S2.out
    have hI1 : RdO w.heap.size (w.alloc (.cells #[.int .u16 sp, .int .u16 dp, .int .u32 sq, .int .u32 ak, .int .u8 fl, .int .u16 wn, .int .u16 ur, .slice (some ⟨b, off, none⟩) 50 cap, .slice am zm.length cm] 29)) (.slice (some ⟨b, off, none⟩) 50 cap) os' := by rw [ho']; exact HI2.out.below hb2
    have hw1 := hb2
    clear hb0 h50' S2 hb2
    have HO := hide ho'
    clear ho' hI HI2
    generalize w.alloc (.cells #[.int .u16 sp, .int .u16 dp, .int .u32 sq, .int .u32 ak, .int .u8 fl, .int .u16 wn, .int .u16 ur, .slice (some ⟨b, off, none⟩) 50 cap, .slice am zm.length cm] 29) = W1 at *
    have S1 := hide s1
    clear s1
    have HIB := hide (hI1.mono hw1.size)
    go_cut [5, 6] (fun x y wx => ∃ a1 a2 c2, x = .slice a1 (sacks os').length (sacks os').length ∧ y = .slice a2 (sacks os').length c2 ∧ Ow4 W1.heap.size wx (.slice a1 (sacks os').length (sacks os').length) (sacks os') ∧ RdU wx.heap.size wx (.slice a2 (sacks os').length c2) (sacks os') ∧ Later W1 wx)
    case first =>
      refine anyR_begin (R := Later) Later.pre Later.drew 6 rfl (by kernel_rfl) (fun V1 hV1 => ?_)
      have q0 : ∀ v1, Later V1 v1 → ∀ i, v1.cell? ⟨w.heap.size, i, none⟩ = #[Value.int .u16 sp, .int .u16 dp, .int .u32 sq, .int .u32 ak, .int .u8 fl, .int .u16 wn, .int .u16 ur, .slice (some ⟨b, off, none⟩) 50 cap, .slice am zm.length cm][i]? := fun v1 h => block_cell (later_keep (hV1.trans h) S1.out)
      refine anyR_val Later.pre 0 rfl (by kernel_rfl) (by kernel_rfl) (by kernel_rfl) (fun _ _ _ _ h => h) rfl ?_; apply Exists.intro; refine ⟨fun w1 hw1 => ?_, ?_⟩; (· (go_simp; rfl)); simp only [Act.put, List.setIfInBounds_toArray, List.set_cons_zero, List.set_cons_succ]
      refine anyR_val Later.pre 2 rfl (by kernel_rfl) (by kernel_rfl) (by kernel_rfl) (fun _ _ _ _ h => h) rfl ?_; apply Exists.intro; refine ⟨fun w1 hw1 => ?_, ?_⟩; (· (go_simp; rfl)); simp only [Act.put, List.setIfInBounds_toArray, List.set_cons_zero, List.set_cons_succ]
      clear q0
      refine anyR_one 1 rfl (by kernel_rfl) rfl (fun V2 hV2 => ?_)
      refine wp_enter 16 #[.agg #[.int .u16 sp, .int .u16 dp, .int .u32 sq, .int .u32 ak, .int .u8 fl, .int .u16 wn, .int .u16 ur, .slice (some ⟨b, off, none⟩) 50 cap, .slice am zm.length cm]] (by go_simp) ?_
      have l2 := hV1.trans hV2
      refine (sacks_any sp dp sq ak fl wn ur _ _ os' V2 hB' ((hI1.below (l2.mono hw1.size)).mono (Nat.le_trans hw1.size l2.size)) (fun o ho => Nat.le_trans (hz' o ho) (by omega))).mono ?_
      rintro e V3 ⟨hb3, va, rfl, hO3⟩
      obtain ⟨a1, rfl⟩ := hO3.slice
      have l3 : Later V2 V3 := hb3
      refine ⟨l3, ?_⟩
      simp only [Act.put, List.setIfInBounds_toArray, List.set_cons_zero, List.set_cons_succ]
      refine anyR_one 3 rfl (by kernel_rfl) rfl (fun V4 hV4 => ?_)
      refine wp_enter 17 #[.agg #[.int .u16 sp, .int .u16 dp, .int .u32 sq, .int .u32 ak, .int .u8 fl, .int .u16 wn, .int .u16 ur, .slice (some ⟨b, off, none⟩) 50 cap, .slice am zm.length cm]] (by go_simp) ?_
      have l4 := l2.trans (l3.trans hV4)
      refine (rsacks_any sp dp sq ak fl wn ur _ _ os' V4 hB' ((hI1.below (l4.mono hw1.size)).mono (Nat.le_trans hw1.size l4.size))).mono ?_
      rintro e V5 ⟨hb5, vb, rfl, hO5⟩
      have l5 : Later V4 V5 := hb5
      have hR5 := hO5.rd
      obtain ⟨a2, c2, rfl, _, _⟩ := hR5.slice
      refine ⟨l5, ?_⟩
      simp only [Act.put, List.setIfInBounds_toArray, List.set_cons_zero, List.set_cons_succ]
      have H3 := hide ((hO3.later (hV4.trans l5)).mono l2.size)
      have H5 := hide hR5
      clear hO3 hO5 hR5
      refine anyR_val Later.pre 4 rfl (by kernel_rfl) (by kernel_rfl) (by kernel_rfl) (fun _ _ _ _ h => h) rfl ?_; apply Exists.intro; refine ⟨fun w1 hw1 => ?_, ?_⟩; (· (go_simp; rfl)); simp only [Act.put, List.setIfInBounds_toArray, List.set_cons_zero, List.set_cons_succ]
      refine anyR_val Later.pre 5 rfl (by kernel_rfl) (by kernel_rfl) (by kernel_rfl) (fun _ _ _ _ h => h) rfl ?_; apply Exists.intro; refine ⟨fun w1 hw1 => ?_, ?_⟩; (· (go_simp; rfl)); simp only [Act.put, List.setIfInBounds_toArray, List.set_cons_zero, List.set_cons_succ]
      refine anyR_done (by kernel_rfl) (fun V6 hV6 => ?_)
      have l6 := l4.trans (l5.trans hV6)
      have O6 := H3.out.later hV6
      have R6 := (H5.out.below hV6).mono hV6.size
      clear H3 H5
      go_wp2_with fail
      go_meet
      exact ⟨a1, a2, c2, rfl, rfl, O6, R6, l6⟩
    case rest =>
      obtain ⟨a1, a2, c2, rfl, rfl, hO, hR, lc⟩ := hcut
      have hns : (sacks os').length ≤ 8 := sacks_le os'
      generalize hNS : sacks os' = ns at *
      have e7 : ((ns.length : Int) != (ns.length : Int)) = false := by simp
      go_wp2_with fail
      clear e7
      go_loopw [7] (fun i wr => ∃ k : Nat, k ≤ ns.length ∧ i = .int .i64 (k : Int) ∧ Later wc wr) (fun i _ => ns.length - (intOf i).toNat)
      case atStart => exact ⟨0, by omega, rfl, Later.refl _⟩
      case round =>
        obtain ⟨k, hk, rfl, hl⟩ := hrel
        have hl1 := lc.trans hl
        have hwr := hw1.trans (hl1.mono hw1.size)
        by_cases hlt : k < ns.length
        · have hlt' : (k : Int) < ns.length := by omega
          obtain ⟨g, rfl, _, _, _, hcs⟩ := hO.cell (by omega)
          have c1 := hcs k hlt
          obtain ⟨b2, o2, cp2, e2, _, _, _, hcs2⟩ := hR.cells (by omega)
          simp at e2
          obtain ⟨rfl, rfl⟩ := e2
          have d1 := hcs2 k hlt
          clear hcs hcs2
          generalize ns[k]?.getD 0 = x at *
          have ek : (x != x) = false := by simp
          go_upto_region 9 with fail
          refine anyR_begin (R := Later) Later.pre Later.drew 9 rfl (by kernel_rfl) (fun V1 hV1 => ?_)
          have q1 : ∀ v1, Later V1 v1 → v1.cell? ⟨g, k, none⟩ = some (.int .u32 x) := fun v1 h => (hl.trans (hV1.trans h)).cell c1
          have q2 : ∀ v1, Later V1 v1 → v1.cell? ⟨b2, o2 + k, none⟩ = some (.int .u32 x) := fun v1 h => (hl.trans (hV1.trans h)).cell d1
          clear c1 d1
          refine anyR_val Later.pre 0 rfl (by kernel_rfl) (by kernel_rfl) (by kernel_rfl) (fun _ _ _ _ h => h) rfl ?_; apply Exists.intro; refine ⟨fun w1 hw1 => ?_, ?_⟩; (· (go_simp; rfl)); simp only [Act.put, List.setIfInBounds_toArray, List.set_cons_zero, List.set_cons_succ]
          refine anyR_val Later.pre 1 rfl (by kernel_rfl) (by kernel_rfl) (by kernel_rfl) (fun _ _ _ _ h => h) rfl ?_; apply Exists.intro; refine ⟨fun w1 hw1 => ?_, ?_⟩; (· (go_simp; rfl)); simp only [Act.put, List.setIfInBounds_toArray, List.set_cons_zero, List.set_cons_succ]
          refine anyR_val Later.pre 2 rfl (by kernel_rfl) (by kernel_rfl) (by kernel_rfl) (fun _ _ _ _ h => h) rfl ?_; apply Exists.intro; refine ⟨fun w1 hw1 => ?_, ?_⟩; (· (go_simp; rfl)); simp only [Act.put, List.setIfInBounds_toArray, List.set_cons_zero, List.set_cons_succ]
          refine anyR_val Later.pre 3 rfl (by kernel_rfl) (by kernel_rfl) (by kernel_rfl) (fun _ _ _ _ h => h) rfl ?_; apply Exists.intro; refine ⟨fun w1 hw1 => ?_, ?_⟩; (· (go_simp; rfl)); simp only [Act.put, List.setIfInBounds_toArray, List.set_cons_zero, List.set_cons_succ]
          refine anyR_val Later.pre 4 rfl (by kernel_rfl) (by kernel_rfl) (by kernel_rfl) (fun _ _ _ _ h => h) rfl ?_; apply Exists.intro; refine ⟨fun w1 hw1 => ?_, ?_⟩; (· (go_simp; rfl)); simp only [Act.put, List.setIfInBounds_toArray, List.set_cons_zero, List.set_cons_succ]
          refine anyR_val Later.pre 5 rfl (by kernel_rfl) (by kernel_rfl) (by kernel_rfl) (fun _ _ _ _ h => h) rfl ?_; apply Exists.intro; refine ⟨fun w1 hw1 => ?_, ?_⟩; (· (go_simp; rfl)); simp only [Act.put, List.setIfInBounds_toArray, List.set_cons_zero, List.set_cons_succ]
          refine anyR_val Later.pre 6 rfl (by kernel_rfl) (by kernel_rfl) (by kernel_rfl) (fun _ _ _ _ h => h) rfl ?_; apply Exists.intro; refine ⟨fun w1 hw1 => ?_, ?_⟩; (· (go_simp; rfl)); simp only [Act.put, List.setIfInBounds_toArray, List.set_cons_zero, List.set_cons_succ]
          refine anyR_val Later.pre 7 rfl (by kernel_rfl) (by kernel_rfl) (by kernel_rfl) (fun _ _ _ _ h => h) rfl ?_; apply Exists.intro; refine ⟨fun w1 hw1 => ?_, ?_⟩; (· (go_simp; rfl)); simp only [Act.put, List.setIfInBounds_toArray, List.set_cons_zero, List.set_cons_succ]
          refine anyR_val Later.pre 8 rfl (by kernel_rfl) (by kernel_rfl) (by kernel_rfl) (fun _ _ _ _ h => h) rfl ?_; apply Exists.intro; refine ⟨fun w1 hw1 => ?_, ?_⟩; (· (go_simp; rfl)); simp only [Act.put, List.setIfInBounds_toArray, List.set_cons_zero, List.set_cons_succ]
          refine anyR_done (by kernel_rfl) (fun V2 hV2 => ?_)
          have hl2 := hl.trans (hV1.trans hV2)
          clear q1 q2
          go_wp2_with fail
          go_roundw
          case rel => exact ⟨k + 1, by omega, by go_num, hl2⟩
          case measure => simp [intOf]; omega
        · obtain rfl : k = ns.length := by omega
          go_upto_region 11 with fail
          refine anyR_begin (R := Later) Later.pre Later.drew 11 rfl (by kernel_rfl) (fun V1 hV1 => ?_)
          have q0 : ∀ v1, Later V1 v1 → ∀ i, v1.cell? ⟨w.heap.size, i, none⟩ = #[Value.int .u16 sp, .int .u16 dp, .int .u32 sq, .int .u32 ak, .int .u8 fl, .int .u16 wn, .int .u16 ur, .slice (some ⟨b, off, none⟩) 50 cap, .slice am zm.length cm][i]? := fun v1 h => block_cell (later_keep (hl1.trans (hV1.trans h)) S1.out)
          refine anyR_take Later.pre 0 (.bool true) rfl (by kernel_rfl) (by kernel_rfl) (by kernel_rfl) (fun _ _ _ h => h) rfl (fun w1 hw1 => goes_call 9 #[] (by go_simp) ((live3_any w1).mono fun e w2 h => h)) ?_
          simp only [Act.put, List.setIfInBounds_toArray, List.set_cons_zero, List.set_cons_succ]
          refine anyR_val Later.pre 1 rfl (by kernel_rfl) (by kernel_rfl) (by kernel_rfl) (fun _ _ _ _ h => h) rfl ?_; apply Exists.intro; refine ⟨fun w1 hw1 => ?_, ?_⟩; (· (go_simp; rfl)); simp only [Act.put, List.setIfInBounds_toArray, List.set_cons_zero, List.set_cons_succ]
          refine anyR_valG Later.pre 2 rfl (by kernel_rfl) (by kernel_rfl) (by kernel_rfl) (fun _ _ _ _ h => h) (by rfl) ?_; apply Exists.intro; refine ⟨fun w1 hw1 => ?_, ?_⟩; (· (go_simp; rfl)); simp only [Act.put, List.setIfInBounds_toArray, List.set_cons_zero, List.set_cons_succ]
          refine anyR_valG Later.pre 3 rfl (by kernel_rfl) (by kernel_rfl) (by kernel_rfl) (fun _ _ _ _ h => h) (by rfl) ?_; apply Exists.intro; refine ⟨fun w1 hw1 => ?_, ?_⟩; (· (go_simp; rfl)); simp only [Act.put, List.setIfInBounds_toArray, List.set_cons_zero, List.set_cons_succ]
          refine anyR_valG Later.pre 5 rfl (by kernel_rfl) (by kernel_rfl) (by kernel_rfl) (fun _ _ _ _ h => h) (by rfl) ?_; apply Exists.intro; refine ⟨fun w1 hw1 => ?_, ?_⟩; (· (go_simp; rfl)); simp only [Act.put, List.setIfInBounds_toArray, List.set_cons_zero, List.set_cons_succ]
          refine anyR_valG Later.pre 6 rfl (by kernel_rfl) (by kernel_rfl) (by kernel_rfl) (fun _ _ _ _ h => h) (by rfl) ?_; apply Exists.intro; refine ⟨fun w1 hw1 => ?_, ?_⟩; (· (go_simp; rfl)); simp only [Act.put, List.setIfInBounds_toArray, List.set_cons_zero, List.set_cons_succ]
          clear q0
          refine anyR_oneG 4 rfl (by kernel_rfl) (by rfl) (fun V2 hV2 => ?_)
          refine wp_enter 18 #[.agg #[.int .u16 sp, .int .u16 dp, .int .u32 sq, .int .u32 ak, .int .u8 fl, .int .u16 wn, .int .u16 ur, .slice (some ⟨b, off, none⟩) 50 cap, .slice am zm.length cm], .slice ae es.length ce] (by go_simp) ?_
          have l2 := hl1.trans (hV1.trans hV2)
          have hw2 := hw1.trans (l2.mono hw1.size)
          refine (wsacks_any sp dp sq ak fl wn ur _ _ _ os' zm es V2 hB' ((hI1.below (l2.mono hw1.size)).mono (Nat.le_trans hw1.size l2.size)) ((hM.below hw2).mono hw2.size) ((hE.below hw2).mono hw2.size) hU (by omega) (fun o ho => Nat.le_trans (hz' o ho) (by omega)) (by omega)).mono ?_
          rintro e V3 ⟨hb3, vO, vm, rfl, hO3, hD3⟩
          have l3 : Later V2 V3 := hb3
          refine ⟨l3, ?_⟩
          simp only [Act.put, List.setIfInBounds_toArray, List.set_cons_zero, List.set_cons_succ]
          refine anyR_oneG 7 rfl (by kernel_rfl) (by rfl) (fun V4 hV4 => ?_)
          refine wp_enter 19 #[.agg #[.int .u16 sp, .int .u16 dp, .int .u32 sq, .int .u32 ak, .int .u8 fl, .int .u16 wn, .int .u16 ur, .slice (some ⟨b, off, none⟩) 50 cap, .slice am zm.length cm], .slice ae es.length ce] (by go_simp) ?_
          have l4 := l2.trans (l3.trans hV4)
          have hw4 := hw1.trans (l4.mono hw1.size)
          refine (rwsacks_any sp dp sq ak fl wn ur _ _ _ os' zm es V4 hB' ((hI1.below (l4.mono hw1.size)).mono (Nat.le_trans hw1.size l4.size)) ((hM.below hw4).mono hw4.size) ((hE.below hw4).mono hw4.size) hU (by omega) (fun o ho => Nat.le_trans (hz' o ho) (by omega)) (by omega)).mono ?_
          rintro e V5 ⟨hb5, vP, vn, rfl, hO5, hD5⟩
          have l5 : Later V4 V5 := hb5
          refine ⟨l5, ?_⟩
          simp only [Act.put, List.setIfInBounds_toArray, List.set_cons_zero, List.set_cons_succ]
          have H3 := hO3.later (hV4.trans l5)
          have D3 := hD3.later' (hV4.trans l5)
          refine anyR_takeG Later.pre 8 (.bool true) rfl (by kernel_rfl) (by kernel_rfl) (by kernel_rfl) (fun _ _ _ h => h) (by rfl) (fun w1 hw1 => goes_call 10 #[.agg #[.int .u16 sp, .int .u16 dp, .int .u32 sq, .int .u32 ak, .int .u8 fl, .int .u16 wn, .int .u16 ur, vO, vm], .agg #[.int .u16 sp, .int .u16 dp, .int .u32 sq, .int .u32 ak, .int .u8 fl, .int .u16 wn, .int .u16 ur, vP, vn]] (by go_simp) ((rsameTcp_yes sp dp sq ak fl wn ur _ _ _ _ (wsk os' es) zm w1 (H3.later hw1).rd (hO5.later hw1).rd (D3.later' hw1).rd (hD5.later' hw1).rd).mono fun e w2 h => h)) ?_
          simp only [Act.put, List.setIfInBounds_toArray, List.set_cons_zero, List.set_cons_succ]
          refine anyR_val Later.pre 9 rfl (by kernel_rfl) (by kernel_rfl) (by kernel_rfl) (fun _ _ _ _ h => h) rfl ?_; apply Exists.intro; refine ⟨fun w1 hw1 => ?_, ?_⟩; (· (go_simp; rfl)); simp only [Act.put, List.setIfInBounds_toArray, List.set_cons_zero, List.set_cons_succ]
          refine anyR_val Later.pre 10 rfl (by kernel_rfl) (by kernel_rfl) (by kernel_rfl) (fun _ _ _ _ h => h) rfl ?_; apply Exists.intro; refine ⟨fun w1 hw1 => ?_, ?_⟩; (· (go_simp; rfl)); simp only [Act.put, List.setIfInBounds_toArray, List.set_cons_zero, List.set_cons_succ]
          refine anyR_done (by kernel_rfl) (fun V6 hV6 => ?_)
          have l6 := l4.trans (l5.trans hV6)
          have hw6 := hw1.trans (l6.mono hw1.size)
          go_wp2_with fail
          go_ret
          exact ⟨rfl, hw6⟩
end Go.Proofs.Ytclkfmdlgffbeaa
