/- The walk of RulesForks. -/
import Derived.Test.YtgjemeibaghfaaaYW
namespace Go.Proofs.Ytgjemeibaghfaaa
open Go.RowKit Go.Shelf
set_option maxRecDepth 100000
set_option linter.unusedVariables false
set_option linter.unusedSimpArgs false

theorem RL.mono {t : TypeId} {base b2 : Nat} {W : World} {b : Nat} {v : Value} {l : List Ru} (h : RL t base W b v l) (k : b2 ≤ base) : RL t b2 W b v l := by
  refine ⟨Nat.le_trans k h.1, h.2.1, ?_⟩
  obtain ⟨q1, q2 | ⟨g, cap, cur, e, q2, q3⟩⟩ := h.2.2
  · exact ⟨q1, .inl q2⟩
  · exact ⟨q1, .inr ⟨g, cap, cur, e, Nat.le_trans k q2, q3⟩⟩

set_option maxHeartbeats 8000000 in
theorem walk_RulesForks (w : World) (sv : Value) (ds : List Dd) (hI : RdD w.heap.size w sv ds) (hd : ∀ d ∈ ds, wfD d) (sv2 : Value) (es : List Dd) (hI2 : RdD w.heap.size w sv2 es) (he : ∀ d ∈ es, wfD d) (src pr dst pt : Int) (hs : 0 ≤ src ∧ src ≤ 4294967295) (hp : 0 ≤ pr ∧ pr ≤ 255) (hds : 0 ≤ dst ∧ dst ≤ 4294967295) (hpt : 0 ≤ pt ∧ pt ≤ 65535) :
    Calls Try.prog 7 #[sv, sv2, .agg #[.int .u32 src, .int .u8 pr, .int .u32 dst, .int .u16 pt]] w fun e w' => e = .returned (.bool true) ∧ Below w.heap.size w w' := by
  obtain ⟨aa, ca, rfl, ha1, ha2⟩ := hI.slice
  obtain ⟨ae, ce, rfl, he1, he2⟩ := hI2.slice
  have HI2 := hide hI2
  clear hI2
  have lb0 : Later w (w.alloc (.cells #[.int .u32 src, .int .u8 pr, .int .u32 dst, .int .u16 pt] 26)) := (Below.refl _ _).alloc (Nat.le_refl _) _
  have c0 := heap_alloc_new w (.cells #[.int .u32 src, .int .u8 pr, .int .u32 dst, .int .u16 pt] 26)
  go_enter Try.func7, Try.ntmps7
  go_upto_region 1 with fail
  generalize w.alloc _ = w0 at *
  go_wp2_with fail
  refine (play9_any w.heap.size _ ds w0 (hI.below lb0) hd lb0.size).mono ?_
  rintro e w1 ⟨l1, a, b, rfl, hPQ⟩
  have hok : okL (plL [] (ds.take 60)) := okL_play okL_nil (fun d hx => hd d (List.mem_of_mem_take hx))
  generalize plL [] (ds.take 60) = l at *
  have hl5 : l.length ≤ 5000 := by have := hok.1; omega
  go_wp2_with fail
  refine (live9_any w1).mono ?_
  rintro e w2 ⟨rfl, l2⟩
  have c2 := later_keep (l1.trans l2) c0
  have hPQ2 := hPQ.later l2
  have L2 := lb0.trans (l1.trans l2)
  clear c0 l1 l2 lb0 hPQ
  obtain ⟨va, vb, hA, hB, hap⟩ := id hPQ2
  go_upto_region 4 with fail
  go_wp2_with fail
  refine (fork9_any w0.heap.size a va l w2 hA hl5).mono ?_
  rintro e w3 ⟨l3, f, vf, rfl, hF⟩
  go_wp2_with fail
  refine (rfork9_any w0.heap.size b vb l w3 (hB.later l3) hl5).mono ?_
  rintro e w4 ⟨l4, g, vg, rfl, hG⟩
  have hPF : PQ w2.heap.size w4 f g l := ⟨vf, vg, hF.later l4, hG.mono l3.size, fun x hx hy => by have := (hF.lt hx).2; have := (hG.lt hy).1; omega⟩
  have L24 : Later w2 w4 := l3.trans l4
  clear hA hB hap hF hG l3 l4
  have hs24 := L24.size
  have hsw := L2.size
  go_wp2_with fail
  go_loopw [12] (fun i wr => ∃ k : Nat, k ≤ es.length ∧ k ≤ 40 ∧ i = .int .i64 (k : Int) ∧ PQ w2.heap.size wr f g (plL l (es.take k)) ∧ Below w2.heap.size w4 wr) (fun i _ => es.length - (intOf i).toNat)
  case atStart => exact ⟨0, by omega, by omega, rfl, by rw [List.take_zero]; exact hPF, Below.refl _ _⟩
  case round =>
    obtain ⟨k, hk, hk6, rfl, hPk, hbw⟩ := hrel
    have L2r : Later w2 wr := Below.trans L24 hbw
    have hbz : Later w wr := L2.trans L2r
    have hsr := L2r.size
    by_cases hin : k < es.length ∧ k < 40
    · obtain ⟨hlt, h40⟩ := hin
      have hlt' : (k : Int) < es.length := by omega
      have h60' : (k : Int) < 40 := by omega
      obtain ⟨bb, off, cp, e, _, _, hbb, hcs⟩ := (HI2.out.below hbz).cells (by omega)
      simp at e
      obtain ⟨rfl, rfl⟩ := e
      have d0 := hcs k hlt 0 (by omega)
      have d1 := hcs k hlt 1 (by omega)
      have d2 := hcs k hlt 2 (by omega)
      have d3 := hcs k hlt 3 (by omega)
      have d4 := hcs k hlt 4 (by omega)
      have d5 := hcs k hlt 5 (by omega)
      have d6 := hcs k hlt 6 (by omega)
      have d7 := hcs k hlt 7 (by omega)
      have d8 := hcs k hlt 8 (by omega)
      have d9 := hcs k hlt 9 (by omega)
      have hwf := he es[k] (List.getElem_mem hlt)
      have htk : plL l (es.take (k + 1)) = doL (plL l (es.take k)) es[k] := by rw [← List.take_append_getElem hlt, plL_snoc]
      have hokk : okL (plL l (es.take k)) := okL_play hok (fun d hx => he d (List.mem_of_mem_take hx))
      clear hcs
      generalize es[k] = r at *
      have HTK := hide htk
      clear htk
      simp only [ddc, List.getElem?_cons_zero, List.getElem?_cons_succ, Nat.add_zero] at d0 d1 d2 d3 d4 d5 d6 d7 d8 d9
      have hdo := do9_any w2.heap.size f g _ r wr hPk hokk hwf hsr
      unfold ddc at hdo
      have HDO := hide hdo
      clear hdo
      go_wp2_with fail
      refine HDO.out.mono ?_
      rintro e W3 ⟨rfl, hP3, hb3⟩
      clear d0 d1 d2 d3 d4 d5 d6 d7 d8 d9
      go_wp2_with fail
      go_roundw
      case rel => exact ⟨k + 1, by omega, by omega, by go_num, by rw [HTK.out]; exact hP3, hbw.trans hb3⟩
      case measure => simp [intOf]; omega
    · have hokk : okL (plL l (es.take k)) := okL_play hok (fun d hx => he d (List.mem_of_mem_take hx))
      generalize plL l (es.take k) = l' at *
      have hPab := hPQ2.later L2r
      have cr := later_keep L2r c2
      have hout : ¬ (k : Int) < es.length ∨ ¬ (k : Int) < 40 := by
        by_cases h : k < es.length
        · exact .inr (fun h2 => hin ⟨h, by omega⟩)
        · exact .inl (by omega)
      have hbz' := hbz
      clear hbz
      generalize hwO : wr = wO at *
      clear hwO
      go_upto_region 10 with (first | fail)
      all_goals (
        go_wp2_with fail
        obtain ⟨va, vb, hA, hB, hap⟩ := id hPab
        refine (list9_any w0.heap.size (some ⟨a, 0, none⟩) l wO (.inr ⟨a, va, rfl, hA⟩) hl5).mono ?_
        rintro e w5 ⟨l5, u5, rfl, hu5⟩
        obtain ⟨ax, cx, rfl, hx1, hx2⟩ := (ownU_rd hu5).slice
        clear hA hB hap
        go_wp2_with fail
        go_loopw [14] (fun i wz => ∃ j : Nat, j ≤ l.length ∧ i = .int .i64 (j : Int) ∧ Below wO.heap.size w5 wz ∧ (∀ gx cur0, ax = some ⟨gx, 0, none⟩ → w5.heap[gx]? = some (.cells cur0 36 (0, 0)) → ∃ cur, wz.heap[gx]? = some (.cells cur 36 (0, 0)) ∧ cur.size = cur0.size)) (fun i _ => l.length - (intOf i).toNat)
        case atStart => exact ⟨0, by omega, rfl, Below.refl _ _, fun gx cur0 _ h => ⟨cur0, h, rfl⟩⟩
        case round =>
          obtain ⟨j, hj, rfl, hbz, hcur⟩ := hrel
          by_cases hlt : j < l.length
          · have hlt' : (j : Int) < l.length := by omega
            obtain ⟨_, ⟨e, e2⟩ | ⟨gx, cap2, cur0, e, hgx, hh, hlc, hm, hsz, _⟩⟩ := hu5
            · omega
            · obtain ⟨rfl, rfl⟩ : ax = some ⟨gx, 0, none⟩ ∧ cx = cap2 := by simpa using e
              obtain ⟨cur, hc1, hc2⟩ := hcur gx cur0 rfl hh
              have hck := block_cell hc1
              have hfk := block_frozen hc1
              have hex : ∀ i, i < 8 → ∃ u, wr.cell? ⟨gx, j * 8 + i, none⟩ = some u := fun i hi => ⟨cur[j * 8 + i]'(by omega), by rw [hck]; simp⟩
              obtain ⟨u0, x0⟩ := hex 0 (by omega)
              obtain ⟨u1, x1⟩ := hex 1 (by omega)
              obtain ⟨u2, x2⟩ := hex 2 (by omega)
              obtain ⟨u3, x3⟩ := hex 3 (by omega)
              obtain ⟨u4, x4⟩ := hex 4 (by omega)
              obtain ⟨u5, x5⟩ := hex 5 (by omega)
              obtain ⟨u6, x6⟩ := hex 6 (by omega)
              obtain ⟨u7, x7⟩ := hex 7 (by omega)
              simp only [Nat.add_zero] at x0
              obtain ⟨cur2, p1, p2, _⟩ := putRow_cells (ruc zRu) (j * 8) wr cur hc1
              have hbp : But (fun g => g = gx) wr (putRow wr gx (j * 8) (ruc zRu)) := putRow_but (E := fun g => g = gx) rfl _ _ _ _ (But.refl _ _)
              have hwsz := hbz.size
              have l5s := l5.size
              have hbl : Below wO.heap.size w5 (putRow wr gx (j * 8) (ruc zRu)) := hbz.trans (hbp.below (by omega) (fun k hk e => by omega))
              have P1 := hide p1
              have P2 := hide p2
              have HBL := hide hbl
              have HCK := hide hc2
              have HH := hide hh
              clear hex hck p1 p2 hbl hbp hc1 hcur hc2 hh
              go_wp2_with fail
              go_roundw
              case rel => exact ⟨j + 1, by omega, by go_num, HBL.out, fun gx2 cur3 e2 h2 => by cases e2; rw [HH.out] at h2; cases h2; exact ⟨cur2, P1.out, by rw [P2.out, HCK.out]⟩⟩
              case measure => simp [intOf]; omega
          · obtain rfl : j = l.length := by omega
            have LOz : Later wO wr := Below.trans l5 hbz
            have cz := block_cell (later_keep LOz cr)
            have Lz := hbz'.trans LOz
            go_wp2_with fail
            refine (sameQ_any w0.heap.size a b l src pr dst pt wr (hPab.later LOz) hok hs).mono ?_
            rintro e w7 ⟨rfl, l7⟩
            clear cz
            have cz := block_cell (later_keep (LOz.trans l7) cr)
            go_wp2_with fail
            refine (sameQ_any w2.heap.size f g l' src pr dst pt w7 (hPk.later (LOz.trans l7)) hokk hs).mono ?_
            rintro e w8 ⟨rfl, l8⟩
            go_wp2_with fail
            go_ret
            exact ⟨rfl, Lz.trans (l7.trans l8)⟩)
end Go.Proofs.Ytgjemeibaghfaaa
