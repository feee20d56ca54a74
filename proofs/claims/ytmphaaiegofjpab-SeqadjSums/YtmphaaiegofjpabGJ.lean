/- The walk of SeqadjSums. -/
import Derived.Test.YtmphaaiegofjpabGI
namespace Go.Proofs.Ytmphaaiegofjpab
open Go.RowKit Go.Shelf
set_option maxRecDepth 100000
set_option linter.unusedVariables false
set_option linter.unusedSimpArgs false

set_option maxHeartbeats 8000000 in
theorem walk_SeqadjSums (w : World) (x0 : Int) (hx0 : 0 ≤ x0 ∧ x0 ≤ 4294967295) (tv0 tv1 : Value) (z0 z1 : List Int) (hB0 : Mt.By z0) (hI0 : Rd w.heap.size w tv0 z0) (hB1 : Mt.By z1) (hI1 : Rd w.heap.size w tv1 z1) (tv2 : Value) (z2 : List Int) (hB2 : Mt.By z2) (hI2 : Rd w.heap.size w tv2 z2) :
    Calls Try.prog 4 #[.int .u32 x0, .agg #[tv0, tv1], tv2] w fun e w' => e = .returned (.bool true) ∧ Below w.heap.size w w' := by
  obtain ⟨a0, c0, rfl, _, _⟩ := hI0.slice
  obtain ⟨a1, c1, rfl, _, _⟩ := hI1.slice
  obtain ⟨a2, c2, rfl, _, _⟩ := hI2.slice
  have lb0 : Later w (w.alloc (.cells #[.slice a0 z0.length c0, .slice a1 z1.length c1] 39)) := (Below.refl _ _).alloc (Nat.le_refl _) _
  have e0 := heap_alloc_new w (.cells #[.slice a0 z0.length c0, .slice a1 z1.length c1] 39)
  have HI0 := hide hI0
  have HI1 := hide hI1
  have HI2 := hide hI2
  clear hI0 hI1 hI2
  go_enter Try.func4, Try.ntmps4
  go_upto_region 1 with fail
  generalize w.alloc _ = w0 at *
  have hb0 : w.heap.size < w0.heap.size := (Array.getElem?_eq_some_iff.1 e0).1
  have k0 := block_cell e0
  have lz : ∀ n, Later w0 (w0.drewN n) := fun n => below_draw (Later.refl _) _
  go_quiet (fail)
  go_upto_region 2 with fail
  generalize hz : w0.drewN _ = w1
  have l1 : Later w0 w1 := by rw [← hz]; exact lz _
  clear hz lz k0 e0
  go_wp2_with fail
  refine (snew_any w1).mono ?_
  rintro e w2 ⟨rfl, l2, hT2⟩
  have L1 : Below w.heap.size w w1 := lb0.trans l1
  have L2 : Below w.heap.size w w2 := L1.trans (l2.mono L1.size)
  have hbb : w.heap.size ≤ w1.heap.size := L1.size
  clear l1 l2 lb0 L1 hb0
  generalize w1.heap.size = b at *
  go_wp2_with fail
  go_loopw [10, 11, 12] (fun x d i wr => ∃ (l : List Pa) (v : Value) (xa : Int), l.length ≤ 8 ∧ x = .int .u32 xa ∧ d = .int .u32 (shf l) ∧ i = .int .i64 (l.length : Int) ∧ (0 ≤ xa ∧ xa ≤ 4294967295) ∧ SI l xa ∧ SL 57 b wr b v l ∧ b ≤ wr.heap.size ∧ Below w.heap.size w wr) (fun x d i _ => 8 - (intOf i).toNat)
  case atStart => exact ⟨[], _, x0, by simp, rfl, rfl, rfl, hx0, .inl rfl, hT2, by have := hT2.blt; omega, L2⟩
  case round =>
    obtain ⟨l, v, xa, hl8, rfl, rfl, rfl, hxa, hSI, hT, hbw, hbel⟩ := hrel
    have hsr := shf_rng l
    by_cases hgo : l.length < z0.length ∧ l.length < z1.length ∧ l.length < z2.length ∧ l.length < 8
    · obtain ⟨g1, g2, g3, g4⟩ := hgo
      have g1' : (l.length : Int) < z0.length := by omega
      have g2' : (l.length : Int) < z1.length := by omega
      have g3' : (l.length : Int) < z2.length := by omega
      have g4' : (l.length : Int) < 8 := by omega
      obtain ⟨b0, o0, q0, e, _, _, _, hc0⟩ := (HI0.out.below hbel).cells (by omega)
      simp at e
      obtain ⟨rfl, rfl⟩ := e
      obtain ⟨b1, o1, q1, e, _, _, _, hc1⟩ := (HI1.out.below hbel).cells (by omega)
      simp at e
      obtain ⟨rfl, rfl⟩ := e
      obtain ⟨b2, o2, q2, e, _, _, _, _⟩ := (HI2.out.below hbel).cells (by omega)
      simp at e
      obtain ⟨rfl, rfl⟩ := e
      have d0 := hc0 l.length g1
      have d1 := hc1 l.length g2
      have r0 := hB0.at l.length
      have r1 := hB1.at l.length
      have r2 := hB2.at l.length
      clear hc0 hc1
      generalize z0[l.length]?.getD 0 = p0 at *
      generalize z1[l.length]?.getD 0 = p1 at *
      have t0 : p0.tmod 128 = p0 % 128 := Int.tmod_eq_emod_of_nonneg r0.1
      have t1 : p1.tmod 128 = p1 % 128 := Int.tmod_eq_emod_of_nonneg r1.1
      go_upto_region 8 with fail
      have lz : ∀ n, Later wr (wr.drewN n) := fun n => below_draw (Later.refl _) _
      go_quiet (fail)
      go_upto_region 9 with fail
      generalize hz : wr.drewN _ = w3
      have l3 : Later wr w3 := by rw [← hz]; exact lz _
      clear hz lz d0 d1
      obtain ⟨n, hn⟩ : ∃ n : Nat, (n : Int) = p1 % 128 + 1 := ⟨(p1 % 128 + 1).toNat, by omega⟩
      rw [← hn]
      have hnr : 1 ≤ (n : Int) ∧ (n : Int) ≤ 128 := by omega
      have hwr : 1 ≤ p0 % 128 + 1 ∧ p0 % 128 + 1 ≤ 128 := by omega
      generalize p0 % 128 + 1 = wz at *
      obtain ⟨o, hmk, hrd⟩ := make_u8 w3 n hnr.2
      have la : Later w3 (w3.alloc o) := (Below.refl _ _).alloc (Nat.le_refl _) _
      have hsz : (w3.alloc o).heap.size = w3.heap.size + 1 := by simp
      have hrd' := hrd (by omega)
      have HMK := hide hmk
      clear hrd hmk t0 t1 hn
      go_wp2_with fail
      rw [HMK.out]
      go_wp2_with fail
      clear HMK
      have hs3 : wr.heap.size ≤ w3.heap.size := l3.size
      generalize w3.alloc o = w4 at *
      have l4 : Later wr w4 := l3.trans la
      have ha0 : adS l xa wz ((List.replicate n (0 : Int)).length : Nat) = 0 := by rw [List.length_replicate]; exact hSI.ads hwr hnr g4
      have HAD := hide (sadd_yes b b v l xa wz _ _ w4 (hT.later l4) (by omega) hxa (by rw [hsz]; exact hrd') ha0)
      rw [List.length_replicate] at HAD
      clear ha0 hrd'
      refine HAD.out.mono ?_
      rintro e w5 ⟨rfl, ta, tc, v5, hT5, hb5, _⟩
      clear HAD
      have hE : ∀ g, (g = b ∨ v.ownBlock = some g) → b ≤ g := fun g h => by
        rcases h with rfl | h
        · exact Nat.le_refl _
        · exact (hT.lt h).1
      have L4 : Below w.heap.size w w4 := hbel.trans (l4.mono hbel.size)
      have L5 : Below w.heap.size w w5 := L4.trans (hb5.below L4.size (fun k hk e => by have := hE _ e; omega))
      have hmn := map_new l xa wz n ta tc hxa hwr
      have hsn := shf_new l xa wz n ta tc
      have hSI5 : ∀ g, 0 ≤ g ∧ g ≤ 255 → SI (l ++ [npP l xa wz n ta tc]) ((xa + wz + g) % 4294967296) := fun g hg => SI.add xa wz n ta tc g hxa hwr hnr hg
      have hl5 : (l ++ [npP l xa wz n ta tc]).length = l.length + 1 := by simp
      have HM := hide (smap_any b b v5 _ xa hxa w5 hT5 (by omega))
      rw [hmn] at HM
      generalize l ++ [npP l xa wz n ta tc] = l' at *
      clear hmn hb5 hE la l3
      go_wp2_with fail
      refine HM.out.mono ?_
      rintro e w6 ⟨rfl, l6⟩
      clear HM
      have L6 : Below w.heap.size w w6 := L5.trans (l6.mono L5.size)
      obtain ⟨b2', o2', q2, e, _, _, _, hc2⟩ := (HI2.out.below L6).cells (by omega)
      simp at e
      obtain ⟨⟨rfl, rfl⟩, rfl⟩ := e
      have d2 := hc2 l.length g3
      clear hc2
      generalize z2[l.length]?.getD 0 = p2 at *
      have hT6 := hT5.later l6
      have HSN := hide hsn
      clear hsn
      go_upto_region 11 with fail
      go_wp2_with fail
      go_roundw
      case rel =>
        have hw6 := hT6.blt
        exact ⟨l', v5, (xa + (wz + p2)) % 4294967296, by omega, rfl, by rw [HSN.out]; congr 1; omega, by rw [hl5]; simp, by omega, by rw [show xa + (wz + p2) = xa + wz + p2 from by omega]; exact hSI5 p2 r2, hT6, by omega, L6⟩
      case measure => simp [intOf]; omega
    · have hend : ¬ l.length < z0.length ∨ (l.length < z0.length ∧ ¬ l.length < z1.length) ∨ (l.length < z0.length ∧ l.length < z1.length ∧ ¬ l.length < z2.length) ∨ (l.length < z0.length ∧ l.length < z1.length ∧ l.length < z2.length ∧ ¬ l.length < 8) := by omega
      rcases hend with h | ⟨h, h'⟩ | ⟨h, h', h''⟩ | ⟨h, h', h'', h3⟩
      case' inl =>
        have h1' : ¬ (l.length : Int) < z0.length := by omega
        go_upto_region 13 with fail
      case' inr.inl =>
        have h1' : (l.length : Int) < z0.length := by omega
        have h2' : ¬ (l.length : Int) < z1.length := by omega
        go_upto_region 13 with fail
      case' inr.inr.inl =>
        have h1' : (l.length : Int) < z0.length := by omega
        have h2' : (l.length : Int) < z1.length := by omega
        have h3' : ¬ (l.length : Int) < z2.length := by omega
        go_upto_region 13 with fail
      case' inr.inr.inr =>
        have h1' : (l.length : Int) < z0.length := by omega
        have h2' : (l.length : Int) < z1.length := by omega
        have h3' : (l.length : Int) < z2.length := by omega
        have h4' : ¬ (l.length : Int) < 8 := by omega
        go_upto_region 13 with fail
      all_goals
        clear HI0 HI1 HI2 h hgo hB0 hB1 hB2
        have HM1 := hide (fun W (lw : Later wr W) => smap_any b b v l xa hxa W (hT.later lw) (by omega))
        have HM2 := hide (fun W (lw : Later wr W) => smap_any b b v l ((xa + 1000) % 4294967296) (by omega) W (hT.later lw) (by omega))
        have HM3 := hide (fun W (lw : Later wr W) => sunmap_any b b v l ((xa + shf l) % 4294967296) (by omega) W (hT.later lw) (by omega))
        rw [hSI.map 0 xa (by omega) hxa (by omega)] at HM1
        rw [hSI.map 1000 _ (by omega) hxa rfl] at HM2
        rw [hSI.unm hxa] at HM3
        generalize shf l = q at *
        go_wp2_with fail
        refine (live11_any wr).mono ?_
        rintro e u1 ⟨rfl, l1⟩
        go_wp2_with fail
        refine (HM1.out u1 l1).mono ?_
        rintro e u2 ⟨rfl, l2⟩
        have l2' := l1.trans l2
        go_wp2_with fail
        refine (HM2.out u2 l2').mono ?_
        rintro e u3 ⟨rfl, l3⟩
        have l3' := l2'.trans l3
        go_wp2_with fail
        refine (HM3.out u3 l3').mono ?_
        rintro e u4 ⟨rfl, l4⟩
        have l4' := l3'.trans l4
        go_wp2_with fail
        refine bodyPost_ret (v := .bool true) (by simp [results, Try.results4, go_sem]) rfl ?_
        exact ⟨rfl, hbel.trans (l4'.mono hbel.size)⟩
end Go.Proofs.Ytmphaaiegofjpab
