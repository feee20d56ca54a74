/- Package segs: whether two segments are the same. -/
import Derived.Test.YtcjigldianobgaeV4
import Derived.Test.YtcjigldianobgaeSG
import Derived.Test.YtcjigldianobgaeRx
namespace Go.Proofs.Ytcjigldianobgae
open Go.RowKit Go.Shelf
set_option maxRecDepth 100000
set_option linter.unusedVariables false
set_option linter.unusedSimpArgs false

set_option maxHeartbeats 2000000 in
theorem sameOption_any {n₀ : Nat} (k1 k2 : Int) (s1 s2 : Value) (d1 d2 : List Int) (w : World) (hn : n₀ ≤ w.heap.size) (hB1 : Mt.By d1) (hB2 : Mt.By d2) (h1 : Rd n₀ w s1 d1) (h2 : Rd n₀ w s2 d2) :
    Calls Try.prog 34 #[.agg #[.int .u8 k1, s1], .agg #[.int .u8 k2, s2]] w fun e w' => e = .returned (.bool (k1 == k2 && decide (d1 = d2))) ∧ Below w.heap.size w w' := by
  obtain ⟨a1, c1, rfl, _, _⟩ := h1.slice
  obtain ⟨a2, c2, rfl, _, _⟩ := h2.slice
  have hbox : Below w.heap.size w ((w.alloc (.cells #[.int .u8 k1, .slice a1 d1.length c1] 79)).alloc (.cells #[.int .u8 k2, .slice a2 d2.length c2] 79)) := ((Below.refl w.heap.size w).alloc (Nat.le_refl _) _).alloc (by simp) _
  have HA := hide ((h1.mono hn).below hbox)
  have HB := hide ((h2.mono hn).below hbox)
  clear h1 h2
  cases h0 : (k1 == k2)
  · go_enter Try.func34, Try.ntmps34
    go_wp2
    go_ret
    exact ⟨rfl, hbox⟩
  · go_enter Try.func34, Try.ntmps34
    go_wp2_with fail
    refine (equal_any _ _ d1 d2 _ hB1 hB2 HA.out HB.out).mono ?_
    rintro e w2 ⟨rfl, rfl⟩
    go_wp2
    go_ret
    exact ⟨rfl, hbox⟩

theorem opts_ne {a b : List Opt} (k : Nat) (h : a[k]?.getD (0, []) ≠ b[k]?.getD (0, [])) : a ≠ b := fun e => h (by rw [e])
theorem opts_eq {a b : List Opt} (hl : a.length = b.length) (h : ∀ j, j < a.length → a[j]?.getD (0, []) = b[j]?.getD (0, [])) : a = b := by
  apply List.ext_getElem hl
  intro i h1 h2
  have := h i h1
  simpa [h1, h2] using this

set_option maxHeartbeats 4000000 in
theorem equalFunc_any (n₀ : Nat) (sO1 sO2 : Value) (os1 os2 : List Opt) (w : World) (hn : n₀ ≤ w.heap.size) (hB1 : ByO os1) (hB2 : ByO os2) (hI1 : RdO n₀ w sO1 os1) (hI2 : RdO n₀ w sO2 os2) :
    Calls Try.prog 33 #[sO1, sO2, .func (.func 34) #[] #[]] w fun e w' => e = .returned (.bool (decide (os1 = os2))) ∧ Below w.heap.size w w' := by
  obtain ⟨a1, c1, rfl, hc1, hm1⟩ := hI1.slice
  obtain ⟨a2, c2, rfl, hc2, hm2⟩ := hI2.slice
  by_cases hlen : os1.length = os2.length
  · have t0 : ((os1.length : Int) != (os2.length : Int)) = false := by simp [hlen]
    have HL := hide hlen
    clear hlen
    go_enter Try.func33, Try.ntmps33
    go_wp2
    go_loopw [17] (fun i wr => ∃ k : Nat, k ≤ os1.length ∧ i = .int .i64 (k : Int) ∧ (∀ j, j < k → os1[j]?.getD (0, []) = os2[j]?.getD (0, [])) ∧ Below w.heap.size w wr) (fun i _ => os1.length - (intOf i).toNat)
    case atStart => exact ⟨0, by omega, rfl, fun j h => by omega, Below.refl _ _⟩
    case round =>
      obtain ⟨k, hk, rfl, hz, hbw⟩ := hrel
      have HZ := hide hz
      clear hz
      by_cases hlt : k < os1.length
      · have hlt2 : k < os2.length := by have := HL.out; omega
        obtain ⟨b, off, cp, e, _, _, hbb, hcs⟩ := (hI1.below (hbw.mono hn)).cells (by omega)
        simp at e
        obtain ⟨rfl, rfl⟩ := e
        obtain ⟨b', off', cp', e', _, _, hbb', hcs'⟩ := (hI2.below (hbw.mono hn)).cells (by omega)
        simp at e'
        obtain ⟨rfl, rfl⟩ := e'
        obtain ⟨s, c0, c1', hRs⟩ := hcs k hlt
        obtain ⟨s', d0, d1, hRs'⟩ := hcs' k hlt2
        obtain ⟨sa, sc, rfl, _, _⟩ := hRs.slice
        obtain ⟨sb, sd, rfl, _, _⟩ := hRs'.slice
        have hy1 := (hB1 (os1[k]?.getD (0, [])) (by simp [hlt])).2
        have hy2 := (hB2 (os2[k]?.getD (0, [])) (by simp [hlt2])).2
        have hlt' : (k : Int) < os1.length := by omega
        have hlt2' : (k : Int) < os2.length := by omega
        have hb1s := hbb
        clear hcs hcs'
        generalize hg1 : os1[k]?.getD (0, []) = o1 at *
        generalize hg2 : os2[k]?.getD (0, []) = o2 at *
        have HG1 := hide hg1
        have HG2 := hide hg2
        clear hg1 hg2
        obtain ⟨k1, dt1⟩ := o1
        obtain ⟨k2, dt2⟩ := o2
        dsimp only at c0 c1' hRs d0 d1 hRs' hy1 hy2
        have hbs := hbw.size
        have la : Later wr (wr.alloc (.cells #[.int .u8 k1, .slice sa dt1.length sc] 79)) := (Below.refl wr.heap.size wr).alloc (Nat.le_refl _) _
        have e0 : (wr.alloc (.cells #[.int .u8 k1, .slice sa dt1.length sc] 79)).cell? ⟨b', off' + k * 2, none⟩ = some (.int .u8 k2) := la.cell d0
        have e1 : (wr.alloc (.cells #[.int .u8 k1, .slice sa dt1.length sc] 79)).cell? ⟨b', off' + k * 2 + 1, none⟩ = some (.slice sb dt2.length sd) := la.cell d1
        have l2 : Later wr ((wr.alloc (.cells #[.int .u8 k1, .slice sa dt1.length sc] 79)).alloc (.cells #[.int .u8 k2, .slice sb dt2.length sd] 79)) := ((Below.refl wr.heap.size wr).alloc (Nat.le_refl _) _).alloc (by simp) _
        go_wp2_with fail
        generalize (wr.alloc (.cells #[.int .u8 k1, .slice sa dt1.length sc] 79)).alloc (.cells #[.int .u8 k2, .slice sb dt2.length sd] 79) = V2 at *
        refine (sameOption_any (n₀ := n₀) k1 k2 _ _ dt1 dt2 V2 (by have := l2.size; omega) hy1 hy2 (hRs.below (l2.mono (by omega))) (hRs'.below (l2.mono (by omega)))).mono ?_
        rintro e w5 ⟨rfl, hb5⟩
        have hw5 : Below w.heap.size w w5 := hbw.trans ((Later.trans l2 hb5).mono hbs)
        by_cases hq : k1 = k2 ∧ dt1 = dt2
        · have t5 : (k1 == k2 && decide (dt1 = dt2)) = true := by simp [hq]
          have HQ := hide hq
          clear hq
          rw [t5]
          go_wp2_with fail
          go_roundw
          case rel => exact ⟨k + 1, by omega, by go_num, fun j hj => by by_cases h : j = k; (subst h; rw [HG1.out, HG2.out, HQ.out.1, HQ.out.2]); exact HZ.out j (by omega), hw5⟩
          case measure => simp [intOf]; omega
        · have t5 : (k1 == k2 && decide (dt1 = dt2)) = false := by
            cases hh : (k1 == k2 && decide (dt1 = dt2)) with
            | false => rfl
            | true => exact absurd (by simpa using hh) hq
          have HN : Hid (os1 ≠ os2) := by
            show _ ≠ _
            refine opts_ne k (fun e => hq ?_)
            rw [HG1.out, HG2.out] at e
            simpa using e
          clear hq
          rw [t5]
          go_wp2_with fail
          go_ret
          exact ⟨by rw [decide_eq_false HN.out]; rfl, hw5⟩
      · obtain rfl : k = os1.length := by omega
        have HE : Hid (os1 = os2) := opts_eq HL.out HZ.out
        go_wp2_with fail
        go_ret
        exact ⟨by rw [decide_eq_true HE.out]; rfl, hbw⟩
  · have t0 : ((os1.length : Int) != (os2.length : Int)) = true := by simp; omega
    have HN : Hid (os1 ≠ os2) := fun e => hlen (by rw [e])
    clear hlen
    go_enter Try.func33, Try.ntmps33
    go_wp2
    go_ret
    exact ⟨by rw [decide_eq_false HN.out]; rfl, Below.refl _ _⟩

/-- Are two segments the same? -/
def smT (sp1 sp2 : Int) (dp1 dp2 : Int) (sq1 sq2 : Int) (ak1 ak2 : Int) (fl1 fl2 : Int) (wn1 wn2 : Int) (ur1 ur2 : Int) (os1 os2 : List Opt) (zm1 zm2 : List Int) : Bool := sp1 == sp2 && (dp1 == dp2 && (sq1 == sq2 && (ak1 == ak2 && (fl1 == fl2 && (wn1 == wn2 && (ur1 == ur2 && (decide (os1 = os2) && decide (zm1 = zm2))))))))

set_option maxHeartbeats 8000000 in
theorem sameTcp_any (sp1 sp2 : Int) (dp1 dp2 : Int) (sq1 sq2 : Int) (ak1 ak2 : Int) (fl1 fl2 : Int) (wn1 wn2 : Int) (ur1 ur2 : Int) (sO1 sO2 sm1 sm2 : Value) (os1 os2 : List Opt) (zm1 zm2 : List Int) (w : World) (hB1 : ByO os1) (hB2 : ByO os2) (hD1 : Mt.By zm1) (hD2 : Mt.By zm2) (hI1 : RdO w.heap.size w sO1 os1) (hI2 : RdO w.heap.size w sO2 os2) (hM1 : Rd w.heap.size w sm1 zm1) (hM2 : Rd w.heap.size w sm2 zm2) :
    Calls Try.prog 10 #[.agg #[.int .u16 sp1, .int .u16 dp1, .int .u32 sq1, .int .u32 ak1, .int .u8 fl1, .int .u16 wn1, .int .u16 ur1, sO1, sm1], .agg #[.int .u16 sp2, .int .u16 dp2, .int .u32 sq2, .int .u32 ak2, .int .u8 fl2, .int .u16 wn2, .int .u16 ur2, sO2, sm2]] w fun e w' => e = .returned (.bool (smT sp1 sp2 dp1 dp2 sq1 sq2 ak1 ak2 fl1 fl2 wn1 wn2 ur1 ur2 os1 os2 zm1 zm2)) ∧ Below w.heap.size w w' := by
  obtain ⟨aO1, cO1, rfl, _, _⟩ := hI1.slice
  obtain ⟨aO2, cO2, rfl, _, _⟩ := hI2.slice
  obtain ⟨am1, cm1, rfl, _, _⟩ := hM1.slice
  obtain ⟨am2, cm2, rfl, _, _⟩ := hM2.slice
  have hbox : Below w.heap.size w ((w.alloc (.cells #[.int .u16 sp1, .int .u16 dp1, .int .u32 sq1, .int .u32 ak1, .int .u8 fl1, .int .u16 wn1, .int .u16 ur1, .slice aO1 os1.length cO1, .slice am1 zm1.length cm1] 29)).alloc (.cells #[.int .u16 sp2, .int .u16 dp2, .int .u32 sq2, .int .u32 ak2, .int .u8 fl2, .int .u16 wn2, .int .u16 ur2, .slice aO2 os2.length cO2, .slice am2 zm2.length cm2] 29)) := ((Below.refl w.heap.size w).alloc (Nat.le_refl _) _).alloc (by simp) _
  have s0 : ((w.alloc (.cells #[.int .u16 sp1, .int .u16 dp1, .int .u32 sq1, .int .u32 ak1, .int .u8 fl1, .int .u16 wn1, .int .u16 ur1, .slice aO1 os1.length cO1, .slice am1 zm1.length cm1] 29)).alloc (.cells #[.int .u16 sp2, .int .u16 dp2, .int .u32 sq2, .int .u32 ak2, .int .u8 fl2, .int .u16 wn2, .int .u16 ur2, .slice aO2 os2.length cO2, .slice am2 zm2.length cm2] 29)).heap[w.heap.size]? = some (.cells #[.int .u16 sp1, .int .u16 dp1, .int .u32 sq1, .int .u32 ak1, .int .u8 fl1, .int .u16 wn1, .int .u16 ur1, .slice aO1 os1.length cO1, .slice am1 zm1.length cm1] 29) := (Below.heap_alloc _ _ _ (by simp)).trans (heap_alloc_new w _)
  have s1 : ((w.alloc (.cells #[.int .u16 sp1, .int .u16 dp1, .int .u32 sq1, .int .u32 ak1, .int .u8 fl1, .int .u16 wn1, .int .u16 ur1, .slice aO1 os1.length cO1, .slice am1 zm1.length cm1] 29)).alloc (.cells #[.int .u16 sp2, .int .u16 dp2, .int .u32 sq2, .int .u32 ak2, .int .u8 fl2, .int .u16 wn2, .int .u16 ur2, .slice aO2 os2.length cO2, .slice am2 zm2.length cm2] 29)).heap[w.heap.size + 1]? = some (.cells #[.int .u16 sp2, .int .u16 dp2, .int .u32 sq2, .int .u32 ak2, .int .u8 fl2, .int .u16 wn2, .int .u16 ur2, .slice aO2 os2.length cO2, .slice am2 zm2.length cm2] 29) := by have := heap_alloc_new (w.alloc (.cells #[.int .u16 sp1, .int .u16 dp1, .int .u32 sq1, .int .u32 ak1, .int .u8 fl1, .int .u16 wn1, .int .u16 ur1, .slice aO1 os1.length cO1, .slice am1 zm1.length cm1] 29)) (.cells #[.int .u16 sp2, .int .u16 dp2, .int .u32 sq2, .int .u32 ak2, .int .u8 fl2, .int .u16 wn2, .int .u16 ur2, .slice aO2 os2.length cO2, .slice am2 zm2.length cm2] 29); simpa only [World.size_alloc] using this
  have S0 := hide s0
  have S1 := hide s1
  have HS : Hid (smT sp1 sp2 dp1 dp2 sq1 sq2 ak1 ak2 fl1 fl2 wn1 wn2 ur1 ur2 os1 os2 zm1 zm2 = (sp1 == sp2 && (dp1 == dp2 && (sq1 == sq2 && (ak1 == ak2 && (fl1 == fl2 && (wn1 == wn2 && (ur1 == ur2 && (decide (os1 = os2) && decide (zm1 = zm2)))))))))) := rfl
  generalize smT sp1 sp2 dp1 dp2 sq1 sq2 ak1 ak2 fl1 fl2 wn1 wn2 ur1 ur2 os1 os2 zm1 zm2 = r at *
  clear s0 s1
  cases h0 : (sp1 == sp2)
  · rw [h0] at HS
    go_enter Try.func10, Try.ntmps10
    go_wp2
    go_ret
    exact ⟨by rw [HS.out]; rfl, hbox⟩
  · rw [h0] at HS
    cases h1 : (dp1 == dp2)
    · rw [h1] at HS
      go_enter Try.func10, Try.ntmps10
      go_wp2
      go_ret
      exact ⟨by rw [HS.out]; rfl, hbox⟩
    · rw [h1] at HS
      cases h2 : (sq1 == sq2)
      · rw [h2] at HS
        go_enter Try.func10, Try.ntmps10
        go_wp2
        go_ret
        exact ⟨by rw [HS.out]; rfl, hbox⟩
      · rw [h2] at HS
        cases h3 : (ak1 == ak2)
        · rw [h3] at HS
          go_enter Try.func10, Try.ntmps10
          go_wp2
          go_ret
          exact ⟨by rw [HS.out]; rfl, hbox⟩
        · rw [h3] at HS
          cases h4 : (fl1 == fl2)
          · rw [h4] at HS
            go_enter Try.func10, Try.ntmps10
            go_wp2
            go_ret
            exact ⟨by rw [HS.out]; rfl, hbox⟩
          · rw [h4] at HS
            cases h5 : (wn1 == wn2)
            · rw [h5] at HS
              go_enter Try.func10, Try.ntmps10
              go_wp2
              go_ret
              exact ⟨by rw [HS.out]; rfl, hbox⟩
            · rw [h5] at HS
              cases h6 : (ur1 == ur2)
              · rw [h6] at HS
                go_enter Try.func10, Try.ntmps10
                go_wp2
                go_ret
                exact ⟨by rw [HS.out]; rfl, hbox⟩
              · rw [h6] at HS
                simp only [Bool.true_and] at HS
                go_enter Try.func10, Try.ntmps10
                go_wp2_with fail
                generalize (w.alloc (.cells #[.int .u16 sp1, .int .u16 dp1, .int .u32 sq1, .int .u32 ak1, .int .u8 fl1, .int .u16 wn1, .int .u16 ur1, .slice aO1 os1.length cO1, .slice am1 zm1.length cm1] 29)).alloc (.cells #[.int .u16 sp2, .int .u16 dp2, .int .u32 sq2, .int .u32 ak2, .int .u8 fl2, .int .u16 wn2, .int .u16 ur2, .slice aO2 os2.length cO2, .slice am2 zm2.length cm2] 29) = W0 at *
                refine (equalFunc_any w.heap.size _ _ os1 os2 W0 hbox.size hB1 hB2 (hI1.below hbox) (hI2.below hbox)).mono ?_
                rintro e w1 ⟨rfl, hb1⟩
                have hw1 := hbox.trans (hb1.mono hbox.size)
                have K0 := block_cell (later_keep hb1 S0.out)
                have K1 := block_cell (later_keep hb1 S1.out)
                cases hd : decide (os1 = os2)
                · rw [hd] at HS
                  go_wp2_with fail
                  go_ret
                  exact ⟨by rw [HS.out]; rfl, hw1⟩
                · rw [hd] at HS
                  simp only [Bool.true_and] at HS
                  go_wp2_with fail
                  refine (equal_any _ _ zm1 zm2 w1 hD1 hD2 (hM1.below hw1) (hM2.below hw1)).mono ?_
                  rintro e w2 ⟨rfl, rfl⟩
                  go_wp2_with fail
                  go_ret
                  exact ⟨by rw [HS.out]; rfl, hw1⟩
end Go.Proofs.Ytcjigldianobgae
