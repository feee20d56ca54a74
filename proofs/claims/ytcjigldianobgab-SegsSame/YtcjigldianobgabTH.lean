/- The document's answer whether two segments are the same. -/
import Derived.Test.YtcjigldianobgabTG
import Derived.Test.YtcjigldianobgabW8
namespace Go.Proofs.Ytcjigldianobgab
open Go.RowKit Go.Shelf
set_option maxRecDepth 100000
set_option linter.unusedVariables false
set_option linter.unusedSimpArgs false

set_option maxHeartbeats 16000000 in
theorem rsameTcp_any (sp1 sp2 : Int) (dp1 dp2 : Int) (sq1 sq2 : Int) (ak1 ak2 : Int) (fl1 fl2 : Int) (wn1 wn2 : Int) (ur1 ur2 : Int) (sO1 sO2 sm1 sm2 : Value) (os1 os2 : List Opt) (zm1 zm2 : List Int) (w : World) (hB1 : ByO os1) (hB2 : ByO os2) (hD1 : Mt.By zm1) (hD2 : Mt.By zm2) (hI1 : RdO w.heap.size w sO1 os1) (hI2 : RdO w.heap.size w sO2 os2) (hM1 : Rd w.heap.size w sm1 zm1) (hM2 : Rd w.heap.size w sm2 zm2) :
    Calls Try.prog 9 #[.agg #[.int .u16 sp1, .int .u16 dp1, .int .u32 sq1, .int .u32 ak1, .int .u8 fl1, .int .u16 wn1, .int .u16 ur1, sO1, sm1], .agg #[.int .u16 sp2, .int .u16 dp2, .int .u32 sq2, .int .u32 ak2, .int .u8 fl2, .int .u16 wn2, .int .u16 ur2, sO2, sm2]] w fun e w' => e = .returned (.bool (smT sp1 sp2 dp1 dp2 sq1 sq2 ak1 ak2 fl1 fl2 wn1 wn2 ur1 ur2 os1 os2 zm1 zm2)) ∧ Below w.heap.size w w' := by
  obtain ⟨aO1, cO1, rfl, _, _⟩ := hI1.slice
  obtain ⟨aO2, cO2, rfl, _, _⟩ := hI2.slice
  obtain ⟨am1, cm1, rfl, _, _⟩ := hM1.slice
  obtain ⟨am2, cm2, rfl, _, _⟩ := hM2.slice
  have hbox : Below w.heap.size w ((w.alloc (.cells #[.int .u16 sp1, .int .u16 dp1, .int .u32 sq1, .int .u32 ak1, .int .u8 fl1, .int .u16 wn1, .int .u16 ur1, .slice aO1 os1.length cO1, .slice am1 zm1.length cm1] 27)).alloc (.cells #[.int .u16 sp2, .int .u16 dp2, .int .u32 sq2, .int .u32 ak2, .int .u8 fl2, .int .u16 wn2, .int .u16 ur2, .slice aO2 os2.length cO2, .slice am2 zm2.length cm2] 27)) := ((Below.refl w.heap.size w).alloc (Nat.le_refl _) _).alloc (by simp) _
  have s0 : ((w.alloc (.cells #[.int .u16 sp1, .int .u16 dp1, .int .u32 sq1, .int .u32 ak1, .int .u8 fl1, .int .u16 wn1, .int .u16 ur1, .slice aO1 os1.length cO1, .slice am1 zm1.length cm1] 27)).alloc (.cells #[.int .u16 sp2, .int .u16 dp2, .int .u32 sq2, .int .u32 ak2, .int .u8 fl2, .int .u16 wn2, .int .u16 ur2, .slice aO2 os2.length cO2, .slice am2 zm2.length cm2] 27)).heap[w.heap.size]? = some (.cells #[.int .u16 sp1, .int .u16 dp1, .int .u32 sq1, .int .u32 ak1, .int .u8 fl1, .int .u16 wn1, .int .u16 ur1, .slice aO1 os1.length cO1, .slice am1 zm1.length cm1] 27) := (Below.heap_alloc _ _ _ (by simp)).trans (heap_alloc_new w _)
  have s1 : ((w.alloc (.cells #[.int .u16 sp1, .int .u16 dp1, .int .u32 sq1, .int .u32 ak1, .int .u8 fl1, .int .u16 wn1, .int .u16 ur1, .slice aO1 os1.length cO1, .slice am1 zm1.length cm1] 27)).alloc (.cells #[.int .u16 sp2, .int .u16 dp2, .int .u32 sq2, .int .u32 ak2, .int .u8 fl2, .int .u16 wn2, .int .u16 ur2, .slice aO2 os2.length cO2, .slice am2 zm2.length cm2] 27)).heap[w.heap.size + 1]? = some (.cells #[.int .u16 sp2, .int .u16 dp2, .int .u32 sq2, .int .u32 ak2, .int .u8 fl2, .int .u16 wn2, .int .u16 ur2, .slice aO2 os2.length cO2, .slice am2 zm2.length cm2] 27) := by have := heap_alloc_new (w.alloc (.cells #[.int .u16 sp1, .int .u16 dp1, .int .u32 sq1, .int .u32 ak1, .int .u8 fl1, .int .u16 wn1, .int .u16 ur1, .slice aO1 os1.length cO1, .slice am1 zm1.length cm1] 27)) (.cells #[.int .u16 sp2, .int .u16 dp2, .int .u32 sq2, .int .u32 ak2, .int .u8 fl2, .int .u16 wn2, .int .u16 ur2, .slice aO2 os2.length cO2, .slice am2 zm2.length cm2] 27); simpa only [World.size_alloc] using this
  have S0 := hide s0
  have S1 := hide s1
  have ca := conv_rd 25 9 5 Try.underlying25 Try.underlying5 Try.underlying9 (hM1.below hbox)
  have cb := conv_rd 25 9 5 Try.underlying25 Try.underlying5 Try.underlying9 (hM2.below hbox)
  have HE := hide (str_eq hD1 hD2)
  have HS : Hid (smT sp1 sp2 dp1 dp2 sq1 sq2 ak1 ak2 fl1 fl2 wn1 wn2 ur1 ur2 os1 os2 zm1 zm2 = (sp1 == sp2 && (dp1 == dp2 && (sq1 == sq2 && (ak1 == ak2 && (fl1 == fl2 && (wn1 == wn2 && (ur1 == ur2 && (decide (os1 = os2) && decide (zm1 = zm2)))))))))) := rfl
  generalize smT sp1 sp2 dp1 dp2 sq1 sq2 ak1 ak2 fl1 fl2 wn1 wn2 ur1 ur2 os1 os2 zm1 zm2 = r at *
  clear s0 s1
  cases h0 : (sp1 == sp2)
  · rw [h0] at HS
    have t0 : (sp1 != sp2) = true := by simp only [bne, h0]; rfl
    clear h0
    go_enter Try.func9, Try.ntmps9
    go_wp2
    go_ret
    exact ⟨by rw [HS.out]; rfl, hbox⟩
  · rw [h0] at HS
    have t0 : (sp1 != sp2) = false := by simp only [bne, h0]; rfl
    clear h0
    cases h1 : (dp1 == dp2)
    · rw [h1] at HS
      have t1 : (dp1 != dp2) = true := by simp only [bne, h1]; rfl
      clear h1
      go_enter Try.func9, Try.ntmps9
      go_wp2
      go_ret
      exact ⟨by rw [HS.out]; rfl, hbox⟩
    · rw [h1] at HS
      have t1 : (dp1 != dp2) = false := by simp only [bne, h1]; rfl
      clear h1
      cases h2 : (sq1 == sq2)
      · rw [h2] at HS
        have t2 : (sq1 != sq2) = true := by simp only [bne, h2]; rfl
        clear h2
        go_enter Try.func9, Try.ntmps9
        go_wp2
        go_ret
        exact ⟨by rw [HS.out]; rfl, hbox⟩
      · rw [h2] at HS
        have t2 : (sq1 != sq2) = false := by simp only [bne, h2]; rfl
        clear h2
        cases h3 : (ak1 == ak2)
        · rw [h3] at HS
          have t3 : (ak1 != ak2) = true := by simp only [bne, h3]; rfl
          clear h3
          go_enter Try.func9, Try.ntmps9
          go_wp2
          go_ret
          exact ⟨by rw [HS.out]; rfl, hbox⟩
        · rw [h3] at HS
          have t3 : (ak1 != ak2) = false := by simp only [bne, h3]; rfl
          clear h3
          cases h4 : (fl1 == fl2)
          · rw [h4] at HS
            have t4 : (fl1 != fl2) = true := by simp only [bne, h4]; rfl
            clear h4
            go_enter Try.func9, Try.ntmps9
            go_wp2
            go_ret
            exact ⟨by rw [HS.out]; rfl, hbox⟩
          · rw [h4] at HS
            have t4 : (fl1 != fl2) = false := by simp only [bne, h4]; rfl
            clear h4
            cases h5 : (wn1 == wn2)
            · rw [h5] at HS
              have t5 : (wn1 != wn2) = true := by simp only [bne, h5]; rfl
              clear h5
              go_enter Try.func9, Try.ntmps9
              go_wp2
              go_ret
              exact ⟨by rw [HS.out]; rfl, hbox⟩
            · rw [h5] at HS
              have t5 : (wn1 != wn2) = false := by simp only [bne, h5]; rfl
              clear h5
              cases h6 : (ur1 == ur2)
              · rw [h6] at HS
                have t6 : (ur1 != ur2) = true := by simp only [bne, h6]; rfl
                clear h6
                go_enter Try.func9, Try.ntmps9
                go_wp2
                go_ret
                exact ⟨by rw [HS.out]; rfl, hbox⟩
              · rw [h6] at HS
                have t6 : (ur1 != ur2) = false := by simp only [bne, h6]; rfl
                clear h6
                simp only [Bool.true_and] at HS
                by_cases hlen : os1.length = os2.length
                · have tl : ((os1.length : Int) != (os2.length : Int)) = false := by simp [hlen]
                  have HL := hide hlen
                  clear hlen
                  by_cases hz : zm1 = zm2
                  · have tz : ((strOfNums zm1).toList == (strOfNums zm2).toList) = true := by rw [HE.out]; exact decide_eq_true hz
                    have HZM := hide hz
                    clear hz
                    go_enter Try.func9, Try.ntmps9
                    go_upto_region 3 with fail
                    generalize (w.alloc (.cells #[.int .u16 sp1, .int .u16 dp1, .int .u32 sq1, .int .u32 ak1, .int .u8 fl1, .int .u16 wn1, .int .u16 ur1, .slice aO1 os1.length cO1, .slice am1 zm1.length cm1] 27)).alloc (.cells #[.int .u16 sp2, .int .u16 dp2, .int .u32 sq2, .int .u32 ak2, .int .u8 fl2, .int .u16 wn2, .int .u16 ur2, .slice aO2 os2.length cO2, .slice am2 zm2.length cm2] 27) = W0 at *
                    clear ca cb tz tl t0 t1 t2 t3 t4 t5 t6
                    have K0 := block_cell S0.out
                    have K1 := block_cell S1.out
                    go_wp2_with fail
                    go_loopw [5] (fun i wr => ∃ k : Nat, k ≤ os1.length ∧ i = .int .i64 (k : Int) ∧ (∀ j, j < k → os1[j]?.getD (0, []) = os2[j]?.getD (0, [])) ∧ Later W0 wr) (fun i _ => os1.length - (intOf i).toNat)
                    case atStart => exact ⟨0, by omega, rfl, fun j h => by omega, Later.refl _⟩
                    case round =>
                      obtain ⟨k, hk, rfl, hzz, hl⟩ := hrel
                      have HZ := hide hzz
                      have k0 := block_cell (later_keep hl S0.out)
                      have k1 := block_cell (later_keep hl S1.out)
                      have hbr := hbox.trans (hl.mono hbox.size)
                      clear K0 K1 hzz
                      by_cases hlt : k < os1.length
                      · have hlt2 : k < os2.length := by have := HL.out; omega
                        obtain ⟨b, off, cp, e, _, _, hbb, hcs⟩ := (hI1.below hbr).cells (by omega)
                        simp at e
                        obtain ⟨rfl, rfl⟩ := e
                        obtain ⟨b', off', cp', e', _, _, hbb', hcs'⟩ := (hI2.below hbr).cells (by omega)
                        simp at e'
                        obtain ⟨rfl, rfl⟩ := e'
                        obtain ⟨s, c0, c1, hRs⟩ := hcs k hlt
                        obtain ⟨s', c0', c1', hRs'⟩ := hcs' k hlt2
                        clear hcs hcs'
                        obtain ⟨sa, sc, rfl, _, _⟩ := hRs.slice
                        obtain ⟨sb, sd, rfl, _, _⟩ := hRs'.slice
                        have hy1 := (hB1 (os1[k]?.getD (0, [])) (by simp [hlt])).2
                        have hy2 := (hB2 (os2[k]?.getD (0, [])) (by simp [hlt2])).2
                        generalize hg1 : os1[k]?.getD (0, []) = o1 at *
                        generalize hg2 : os2[k]?.getD (0, []) = o2 at *
                        have HG1 := hide hg1
                        have HG2 := hide hg2
                        clear hg1 hg2
                        obtain ⟨kd, dt⟩ := o1
                        obtain ⟨ke, du⟩ := o2
                        dsimp only at c0 c1 hRs c0' c1' hRs' hy1 hy2
                        have HEd := hide (str_eq hy1 hy2)
                        have hlt' : (k : Int) < os1.length := by omega
                        have hlt2' : (k : Int) < os2.length := by omega
                        go_upto_region 6 with fail
                        refine anyR_begin Later.pre Later.drew 30 rfl (by kernel_rfl) (fun W2 hW2 => ?_)
                        have q0 : ∀ v1, Later W2 v1 → ∀ i, v1.cell? ⟨w.heap.size, i, none⟩ = #[Value.int .u16 sp1, .int .u16 dp1, .int .u32 sq1, .int .u32 ak1, .int .u8 fl1, .int .u16 wn1, .int .u16 ur1, .slice (some ⟨b, off, none⟩) os1.length cO1, .slice am1 zm1.length cm1][i]? := fun v1 h => block_cell (later_keep ((hl.trans hW2).trans h) S0.out)
                        have q1 : ∀ v1, Later W2 v1 → ∀ i, v1.cell? ⟨w.heap.size + 1, i, none⟩ = #[Value.int .u16 sp2, .int .u16 dp2, .int .u32 sq2, .int .u32 ak2, .int .u8 fl2, .int .u16 wn2, .int .u16 ur2, .slice (some ⟨b', off', none⟩) os2.length cO2, .slice am2 zm2.length cm2][i]? := fun v1 h => block_cell (later_keep ((hl.trans hW2).trans h) S1.out)
                        have q2 : ∀ v1, Later W2 v1 → v1.cell? ⟨b, off + k * 2, none⟩ = some (.int .u8 kd) := fun v1 h => (hW2.trans h).cell c0
                        have q3 : ∀ v1, Later W2 v1 → v1.cell? ⟨b, off + k * 2 + 1, none⟩ = some (.slice sa dt.length sc) := fun v1 h => (hW2.trans h).cell c1
                        have q4 : ∀ v1, Later W2 v1 → v1.cell? ⟨b', off' + k * 2, none⟩ = some (.int .u8 ke) := fun v1 h => (hW2.trans h).cell c0'
                        have q5 : ∀ v1, Later W2 v1 → v1.cell? ⟨b', off' + k * 2 + 1, none⟩ = some (.slice sb du.length sd) := fun v1 h => (hW2.trans h).cell c1'
                        have q6 : ∀ v1, Later W2 v1 → (convert 25 9 (.slice sa dt.length sc)).run Try.prog v1 = .ok (.string (strOfNums dt)) v1 := fun v1 h => conv_rd 25 9 5 Try.underlying25 Try.underlying5 Try.underlying9 (hRs.below (((hW2.trans h)).mono hbr.size))
                        have q7 : ∀ v1, Later W2 v1 → (convert 25 9 (.slice sb du.length sd)).run Try.prog v1 = .ok (.string (strOfNums du)) v1 := fun v1 h => conv_rd 25 9 5 Try.underlying25 Try.underlying5 Try.underlying9 (hRs'.below (((hW2.trans h)).mono hbr.size))
                        clear k0 k1 c0 c1 c0' c1'
                        refine anyR_val Later.pre 0 rfl (by kernel_rfl) (by kernel_rfl) (by kernel_rfl) (fun _ _ _ _ h => h) rfl ?_; apply Exists.intro; refine ⟨fun w1 hw1 => ?_, ?_⟩; (· (go_simp; rfl)); simp only [Act.put, List.setIfInBounds_toArray, List.set_cons_zero, List.set_cons_succ]
                        refine anyR_val Later.pre 1 rfl (by kernel_rfl) (by kernel_rfl) (by kernel_rfl) (fun _ _ _ _ h => h) rfl ?_; apply Exists.intro; refine ⟨fun w1 hw1 => ?_, ?_⟩; (· (go_simp; rfl)); simp only [Act.put, List.setIfInBounds_toArray, List.set_cons_zero, List.set_cons_succ]
                        refine anyR_val Later.pre 2 rfl (by kernel_rfl) (by kernel_rfl) (by kernel_rfl) (fun _ _ _ _ h => h) rfl ?_; apply Exists.intro; refine ⟨fun w1 hw1 => ?_, ?_⟩; (· (go_simp; rfl)); simp only [Act.put, List.setIfInBounds_toArray, List.set_cons_zero, List.set_cons_succ]
                        refine anyR_val Later.pre 3 rfl (by kernel_rfl) (by kernel_rfl) (by kernel_rfl) (fun _ _ _ _ h => h) rfl ?_; apply Exists.intro; refine ⟨fun w1 hw1 => ?_, ?_⟩; (· (go_simp; rfl)); simp only [Act.put, List.setIfInBounds_toArray, List.set_cons_zero, List.set_cons_succ]
                        refine anyR_val Later.pre 4 rfl (by kernel_rfl) (by kernel_rfl) (by kernel_rfl) (fun _ _ _ _ h => h) rfl ?_; apply Exists.intro; refine ⟨fun w1 hw1 => ?_, ?_⟩; (· (go_simp; rfl)); simp only [Act.put, List.setIfInBounds_toArray, List.set_cons_zero, List.set_cons_succ]
                        refine anyR_val Later.pre 5 rfl (by kernel_rfl) (by kernel_rfl) (by kernel_rfl) (fun _ _ _ _ h => h) rfl ?_; apply Exists.intro; refine ⟨fun w1 hw1 => ?_, ?_⟩; (· (go_simp; rfl)); simp only [Act.put, List.setIfInBounds_toArray, List.set_cons_zero, List.set_cons_succ]
                        refine anyR_val Later.pre 6 rfl (by kernel_rfl) (by kernel_rfl) (by kernel_rfl) (fun _ _ _ _ h => h) rfl ?_; apply Exists.intro; refine ⟨fun w1 hw1 => ?_, ?_⟩; (· (go_simp; rfl)); simp only [Act.put, List.setIfInBounds_toArray, List.set_cons_zero, List.set_cons_succ]
                        refine anyR_val Later.pre 7 rfl (by kernel_rfl) (by kernel_rfl) (by kernel_rfl) (fun _ _ _ _ h => h) rfl ?_; apply Exists.intro; refine ⟨fun w1 hw1 => ?_, ?_⟩; (· (go_simp; rfl)); simp only [Act.put, List.setIfInBounds_toArray, List.set_cons_zero, List.set_cons_succ]
                        refine anyR_val Later.pre 8 rfl (by kernel_rfl) (by kernel_rfl) (by kernel_rfl) (fun _ _ _ _ h => h) rfl ?_; apply Exists.intro; refine ⟨fun w1 hw1 => ?_, ?_⟩; (· (go_simp; rfl)); simp only [Act.put, List.setIfInBounds_toArray, List.set_cons_zero, List.set_cons_succ]
                        refine anyR_val Later.pre 9 rfl (by kernel_rfl) (by kernel_rfl) (by kernel_rfl) (fun _ _ _ _ h => h) rfl ?_; apply Exists.intro; refine ⟨fun w1 hw1 => ?_, ?_⟩; (· (go_simp; rfl)); simp only [Act.put, List.setIfInBounds_toArray, List.set_cons_zero, List.set_cons_succ]
                        refine anyR_val Later.pre 10 rfl (by kernel_rfl) (by kernel_rfl) (by kernel_rfl) (fun _ _ _ _ h => h) rfl ?_; apply Exists.intro; refine ⟨fun w1 hw1 => ?_, ?_⟩; (· (go_simp; rfl)); simp only [Act.put, List.setIfInBounds_toArray, List.set_cons_zero, List.set_cons_succ]
                        refine anyR_val Later.pre 11 rfl (by kernel_rfl) (by kernel_rfl) (by kernel_rfl) (fun _ _ _ _ h => h) rfl ?_; apply Exists.intro; refine ⟨fun w1 hw1 => ?_, ?_⟩; (· (go_simp; rfl)); simp only [Act.put, List.setIfInBounds_toArray, List.set_cons_zero, List.set_cons_succ]
                        by_cases hkd : kd = ke
                        · have tk : (kd != ke) = false := by simp [hkd]
                          have HKD := hide hkd
                          clear hkd
                          refine anyR_val Later.pre 12 rfl (by kernel_rfl) (by kernel_rfl) (by kernel_rfl) (fun _ _ _ _ h => h) rfl ?_; apply Exists.intro; refine ⟨fun w1 hw1 => ?_, ?_⟩; (· (go_simp; rfl)); simp only [Act.put, List.setIfInBounds_toArray, List.set_cons_zero, List.set_cons_succ]
                          refine anyR_val Later.pre 13 rfl (by kernel_rfl) (by kernel_rfl) (by kernel_rfl) (fun _ _ _ _ h => h) rfl ?_; apply Exists.intro; refine ⟨fun w1 hw1 => ?_, ?_⟩; (· (go_simp; rfl)); simp only [Act.put, List.setIfInBounds_toArray, List.set_cons_zero, List.set_cons_succ]
                          refine anyR_valG Later.pre 14 rfl (by kernel_rfl) (by kernel_rfl) (by kernel_rfl) (fun _ _ _ _ h => h) (by rfl) ?_; apply Exists.intro; refine ⟨fun w1 hw1 => ?_, ?_⟩; (· (go_simp; rfl)); simp only [Act.put, List.setIfInBounds_toArray, List.set_cons_zero, List.set_cons_succ]
                          refine anyR_valG Later.pre 15 rfl (by kernel_rfl) (by kernel_rfl) (by kernel_rfl) (fun _ _ _ _ h => h) (by rfl) ?_; apply Exists.intro; refine ⟨fun w1 hw1 => ?_, ?_⟩; (· (go_simp; rfl)); simp only [Act.put, List.setIfInBounds_toArray, List.set_cons_zero, List.set_cons_succ]
                          refine anyR_valG Later.pre 16 rfl (by kernel_rfl) (by kernel_rfl) (by kernel_rfl) (fun _ _ _ _ h => h) (by rfl) ?_; apply Exists.intro; refine ⟨fun w1 hw1 => ?_, ?_⟩; (· (go_simp; rfl)); simp only [Act.put, List.setIfInBounds_toArray, List.set_cons_zero, List.set_cons_succ]
                          refine anyR_valG Later.pre 17 rfl (by kernel_rfl) (by kernel_rfl) (by kernel_rfl) (fun _ _ _ _ h => h) (by rfl) ?_; apply Exists.intro; refine ⟨fun w1 hw1 => ?_, ?_⟩; (· (go_simp; rfl)); simp only [Act.put, List.setIfInBounds_toArray, List.set_cons_zero, List.set_cons_succ]
                          refine anyR_valG Later.pre 18 rfl (by kernel_rfl) (by kernel_rfl) (by kernel_rfl) (fun _ _ _ _ h => h) (by rfl) ?_; apply Exists.intro; refine ⟨fun w1 hw1 => ?_, ?_⟩; (· (go_simp; rfl)); simp only [Act.put, List.setIfInBounds_toArray, List.set_cons_zero, List.set_cons_succ]
                          refine anyR_valG Later.pre 19 rfl (by kernel_rfl) (by kernel_rfl) (by kernel_rfl) (fun _ _ _ _ h => h) (by rfl) ?_; apply Exists.intro; refine ⟨fun w1 hw1 => ?_, ?_⟩; (· (go_simp; rfl)); simp only [Act.put, List.setIfInBounds_toArray, List.set_cons_zero, List.set_cons_succ]
                          refine anyR_valG Later.pre 20 rfl (by kernel_rfl) (by kernel_rfl) (by kernel_rfl) (fun _ _ _ _ h => h) (by rfl) ?_; apply Exists.intro; refine ⟨fun w1 hw1 => ?_, ?_⟩; (· (go_simp; rfl)); simp only [Act.put, List.setIfInBounds_toArray, List.set_cons_zero, List.set_cons_succ]
                          refine anyR_valG Later.pre 21 rfl (by kernel_rfl) (by kernel_rfl) (by kernel_rfl) (fun _ _ _ _ h => h) (by rfl) ?_; apply Exists.intro; refine ⟨fun w1 hw1 => ?_, ?_⟩; (· (go_simp; rfl)); simp only [Act.put, List.setIfInBounds_toArray, List.set_cons_zero, List.set_cons_succ]
                          refine anyR_valG Later.pre 22 rfl (by kernel_rfl) (by kernel_rfl) (by kernel_rfl) (fun _ _ _ _ h => h) (by rfl) ?_; apply Exists.intro; refine ⟨fun w1 hw1 => ?_, ?_⟩; (· (go_simp; rfl)); simp only [Act.put, List.setIfInBounds_toArray, List.set_cons_zero, List.set_cons_succ]
                          refine anyR_valG Later.pre 23 rfl (by kernel_rfl) (by kernel_rfl) (by kernel_rfl) (fun _ _ _ _ h => h) (by rfl) ?_; apply Exists.intro; refine ⟨fun w1 hw1 => ?_, ?_⟩; (· (go_simp; rfl)); simp only [Act.put, List.setIfInBounds_toArray, List.set_cons_zero, List.set_cons_succ]
                          refine anyR_valG Later.pre 24 rfl (by kernel_rfl) (by kernel_rfl) (by kernel_rfl) (fun _ _ _ _ h => h) (by rfl) ?_; apply Exists.intro; refine ⟨fun w1 hw1 => ?_, ?_⟩; (· (go_simp; rfl)); simp only [Act.put, List.setIfInBounds_toArray, List.set_cons_zero, List.set_cons_succ]
                          refine anyR_valG Later.pre 25 rfl (by kernel_rfl) (by kernel_rfl) (by kernel_rfl) (fun _ _ _ _ h => h) (by rfl) ?_; apply Exists.intro; refine ⟨fun w1 hw1 => ?_, ?_⟩; (· (go_simp; rfl)); simp only [Act.put, List.setIfInBounds_toArray, List.set_cons_zero, List.set_cons_succ]
                          refine anyR_valG Later.pre 26 rfl (by kernel_rfl) (by kernel_rfl) (by kernel_rfl) (fun _ _ _ _ h => h) (by rfl) ?_; apply Exists.intro; refine ⟨fun w1 hw1 => ?_, ?_⟩; (· (go_simp; rfl)); simp only [Act.put, List.setIfInBounds_toArray, List.set_cons_zero, List.set_cons_succ]
                          refine anyR_valG Later.pre 27 rfl (by kernel_rfl) (by kernel_rfl) (by kernel_rfl) (fun _ _ _ _ h => h) (by rfl) ?_; apply Exists.intro; refine ⟨fun w1 hw1 => ?_, ?_⟩; (· (go_simp; rfl)); simp only [Act.put, List.setIfInBounds_toArray, List.set_cons_zero, List.set_cons_succ]
                          by_cases hdt : dt = du
                          · have td : ((strOfNums dt).toList == (strOfNums du).toList) = true := by rw [HEd.out]; exact decide_eq_true hdt
                            have HDT := hide hdt
                            clear hdt
                            refine anyR_valG Later.pre 28 rfl (by kernel_rfl) (by kernel_rfl) (by kernel_rfl) (fun _ _ _ _ h => h) (by rfl) ?_; apply Exists.intro; refine ⟨fun w1 hw1 => ?_, ?_⟩; (· (go_simp; rfl)); simp only [Act.put, List.setIfInBounds_toArray, List.set_cons_zero, List.set_cons_succ]
                            refine anyR_val Later.pre 29 rfl (by kernel_rfl) (by kernel_rfl) (by kernel_rfl) (fun _ _ _ _ h => h) rfl ?_; apply Exists.intro; refine ⟨fun w1 hw1 => ?_, ?_⟩; (· (go_simp; rfl)); simp only [Act.put, List.setIfInBounds_toArray, List.set_cons_zero, List.set_cons_succ]
                            refine anyR_done (by kernel_rfl) (fun W8 hW8 => ?_)
                            have hl8 := (hl.trans hW2).trans hW8
                            clear q0 q1 q2 q3 q4 q5 q6 q7 td
                            go_wp2_with fail
                            go_roundw
                            case rel => exact ⟨k + 1, by omega, by go_num, fun j hj => by by_cases h : j = k; (subst h; rw [HG1.out, HG2.out, HKD.out, HDT.out]); exact HZ.out j (by omega), hl8⟩
                            case measure => simp [intOf]; omega
                          · have td : ((strOfNums dt).toList == (strOfNums du).toList) = false := by rw [HEd.out]; exact decide_eq_false hdt
                            have HN : Hid (os1 ≠ os2) := by show _ ≠ _; refine opts_ne k (fun e => hdt ?_); rw [HG1.out, HG2.out] at e; cases e; rfl
                            clear hdt
                            refine anyR_valG Later.pre 28 rfl (by kernel_rfl) (by kernel_rfl) (by kernel_rfl) (fun _ _ _ _ h => h) (by rfl) ?_; apply Exists.intro; refine ⟨fun w1 hw1 => ?_, ?_⟩; (· (go_simp; rfl)); simp only [Act.put, List.setIfInBounds_toArray, List.set_cons_zero, List.set_cons_succ]
                            refine anyR_val Later.pre 29 rfl (by kernel_rfl) (by kernel_rfl) (by kernel_rfl) (fun _ _ _ _ h => h) rfl ?_; apply Exists.intro; refine ⟨fun w1 hw1 => ?_, ?_⟩; (· (go_simp; rfl)); simp only [Act.put, List.setIfInBounds_toArray, List.set_cons_zero, List.set_cons_succ]
                            refine anyR_done (by kernel_rfl) (fun W8 hW8 => ?_)
                            have hw8 := hbr.trans ((hW2.trans hW8).mono hbr.size)
                            clear q0 q1 q2 q3 q4 q5 q6 q7 td
                            go_wp2_with fail
                            go_ret
                            exact ⟨by rw [HS.out, decide_eq_false HN.out]; rfl, hw8⟩
                        · have tk : (kd != ke) = true := by simp [hkd]
                          have HN : Hid (os1 ≠ os2) := by show _ ≠ _; refine opts_ne k (fun e => hkd ?_); rw [HG1.out, HG2.out] at e; cases e; rfl
                          clear hkd
                          refine anyR_val Later.pre 12 rfl (by kernel_rfl) (by kernel_rfl) (by kernel_rfl) (fun _ _ _ _ h => h) rfl ?_; apply Exists.intro; refine ⟨fun w1 hw1 => ?_, ?_⟩; (· (go_simp; rfl)); simp only [Act.put, List.setIfInBounds_toArray, List.set_cons_zero, List.set_cons_succ]
                          refine anyR_val Later.pre 13 rfl (by kernel_rfl) (by kernel_rfl) (by kernel_rfl) (fun _ _ _ _ h => h) rfl ?_; apply Exists.intro; refine ⟨fun w1 hw1 => ?_, ?_⟩; (· (go_simp; rfl)); simp only [Act.put, List.setIfInBounds_toArray, List.set_cons_zero, List.set_cons_succ]
                          refine anyR_skip Later.pre 14 rfl (by kernel_rfl) (by kernel_rfl) (by kernel_rfl) (fun _ _ _ h => h) (by rfl) ?_; simp only [Act.put, List.setIfInBounds_toArray, List.set_cons_zero, List.set_cons_succ]
                          refine anyR_skip Later.pre 15 rfl (by kernel_rfl) (by kernel_rfl) (by kernel_rfl) (fun _ _ _ h => h) (by rfl) ?_; simp only [Act.put, List.setIfInBounds_toArray, List.set_cons_zero, List.set_cons_succ]
                          refine anyR_skip Later.pre 16 rfl (by kernel_rfl) (by kernel_rfl) (by kernel_rfl) (fun _ _ _ h => h) (by rfl) ?_; simp only [Act.put, List.setIfInBounds_toArray, List.set_cons_zero, List.set_cons_succ]
                          refine anyR_skip Later.pre 17 rfl (by kernel_rfl) (by kernel_rfl) (by kernel_rfl) (fun _ _ _ h => h) (by rfl) ?_; simp only [Act.put, List.setIfInBounds_toArray, List.set_cons_zero, List.set_cons_succ]
                          refine anyR_skip Later.pre 18 rfl (by kernel_rfl) (by kernel_rfl) (by kernel_rfl) (fun _ _ _ h => h) (by rfl) ?_; simp only [Act.put, List.setIfInBounds_toArray, List.set_cons_zero, List.set_cons_succ]
                          refine anyR_skip Later.pre 19 rfl (by kernel_rfl) (by kernel_rfl) (by kernel_rfl) (fun _ _ _ h => h) (by rfl) ?_; simp only [Act.put, List.setIfInBounds_toArray, List.set_cons_zero, List.set_cons_succ]
                          refine anyR_skip Later.pre 20 rfl (by kernel_rfl) (by kernel_rfl) (by kernel_rfl) (fun _ _ _ h => h) (by rfl) ?_; simp only [Act.put, List.setIfInBounds_toArray, List.set_cons_zero, List.set_cons_succ]
                          refine anyR_skip Later.pre 21 rfl (by kernel_rfl) (by kernel_rfl) (by kernel_rfl) (fun _ _ _ h => h) (by rfl) ?_; simp only [Act.put, List.setIfInBounds_toArray, List.set_cons_zero, List.set_cons_succ]
                          refine anyR_skip Later.pre 22 rfl (by kernel_rfl) (by kernel_rfl) (by kernel_rfl) (fun _ _ _ h => h) (by rfl) ?_; simp only [Act.put, List.setIfInBounds_toArray, List.set_cons_zero, List.set_cons_succ]
                          refine anyR_skip Later.pre 23 rfl (by kernel_rfl) (by kernel_rfl) (by kernel_rfl) (fun _ _ _ h => h) (by rfl) ?_; simp only [Act.put, List.setIfInBounds_toArray, List.set_cons_zero, List.set_cons_succ]
                          refine anyR_skip Later.pre 24 rfl (by kernel_rfl) (by kernel_rfl) (by kernel_rfl) (fun _ _ _ h => h) (by rfl) ?_; simp only [Act.put, List.setIfInBounds_toArray, List.set_cons_zero, List.set_cons_succ]
                          refine anyR_skip Later.pre 25 rfl (by kernel_rfl) (by kernel_rfl) (by kernel_rfl) (fun _ _ _ h => h) (by rfl) ?_; simp only [Act.put, List.setIfInBounds_toArray, List.set_cons_zero, List.set_cons_succ]
                          refine anyR_skip Later.pre 26 rfl (by kernel_rfl) (by kernel_rfl) (by kernel_rfl) (fun _ _ _ h => h) (by rfl) ?_; simp only [Act.put, List.setIfInBounds_toArray, List.set_cons_zero, List.set_cons_succ]
                          refine anyR_skip Later.pre 27 rfl (by kernel_rfl) (by kernel_rfl) (by kernel_rfl) (fun _ _ _ h => h) (by rfl) ?_; simp only [Act.put, List.setIfInBounds_toArray, List.set_cons_zero, List.set_cons_succ]
                          refine anyR_skip Later.pre 28 rfl (by kernel_rfl) (by kernel_rfl) (by kernel_rfl) (fun _ _ _ h => h) (by rfl) ?_; simp only [Act.put, List.setIfInBounds_toArray, List.set_cons_zero, List.set_cons_succ]
                          refine anyR_val Later.pre 29 rfl (by kernel_rfl) (by kernel_rfl) (by kernel_rfl) (fun _ _ _ _ h => h) rfl ?_; apply Exists.intro; refine ⟨fun w1 hw1 => ?_, ?_⟩; (· (go_simp; rfl)); simp only [Act.put, List.setIfInBounds_toArray, List.set_cons_zero, List.set_cons_succ]
                          refine anyR_done (by kernel_rfl) (fun W8 hW8 => ?_)
                          have hw8 := hbr.trans ((hW2.trans hW8).mono hbr.size)
                          clear q0 q1 q2 q3 q4 q5 q6 q7
                          go_wp2_with fail
                          go_ret
                          exact ⟨by rw [HS.out, decide_eq_false HN.out]; rfl, hw8⟩
                      · obtain rfl : k = os1.length := by omega
                        have HEQ : Hid (os1 = os2) := opts_eq HL.out HZ.out
                        go_wp2_with fail
                        go_ret
                        exact ⟨by rw [HS.out, decide_eq_true HEQ.out, decide_eq_true HZM.out]; rfl, hbr⟩
                  · have tz : ((strOfNums zm1).toList == (strOfNums zm2).toList) = false := by rw [HE.out]; exact decide_eq_false hz
                    have HZM := hide hz
                    clear hz
                    go_enter Try.func9, Try.ntmps9
                    go_wp2
                    go_ret
                    exact ⟨by rw [HS.out, decide_eq_false HZM.out, Bool.and_false]; rfl, hbox⟩
                · have tl : ((os1.length : Int) != (os2.length : Int)) = true := by simp; omega
                  have HN : Hid (os1 ≠ os2) := fun e => hlen (by rw [e])
                  clear hlen
                  go_enter Try.func9, Try.ntmps9
                  go_wp2
                  go_ret
                  exact ⟨by rw [HS.out, decide_eq_false HN.out]; rfl, hbox⟩
end Go.Proofs.Ytcjigldianobgab
