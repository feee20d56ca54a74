/- The document's options of a header's bytes. -/
import Derived.Test.YtclkfmdlgffbeaaSP
namespace Go.Proofs.Ytclkfmdlgffbeaa
open Go.RowKit Go.Shelf
set_option maxRecDepth 100000
set_option linter.unusedVariables false
set_option linter.unusedSimpArgs false

/-- One more option, behind those of one's own. -/
theorem OwO_snoc {base : Nat} {A B : World} {vr v2 s : Value} {os : List Opt} {ss : List Value} {k : Int} {dt : List Int} (hsl : ss.length = os.length) (hdat : ∀ j, j < os.length → Ow base A (ss[j]?.getD undef) (os[j]?.getD (0, [])).2)
    (hrowA : A.ownsRow base 57 2 vr os.length (rowO os ss)) (hs : Ow base A s dt) (hrow2 : B.ownsRow base 57 2 v2 (os.length + 1) (rowO os ss ++ [.int .u8 k, s])) (hg : A.grownBy B vr.ownBlock) : OwO base B v2 (os ++ [(k, dt)]) := by
  have hdk : ∀ v zs', Ow base A v zs' → Ow base B v zs' := fun v zs' h => by
    rcases h with h | ⟨g, cp, cur, e1, e2, e3, e4, e5, e6, e7⟩
    · exact .inl h
    · refine .inr ⟨g, cp, cur, e1, e2, e3, e4, e5, (hg.block g (Array.getElem?_eq_some_iff.1 e6).1 (fun e => ?_)).trans e6, e7⟩
      rcases hrowA.2 with ⟨rfl, _⟩ | ⟨g', cp', cur', rfl, hg', hh', _⟩
      · cases e
      · cases e
        rw [e6] at hh'
        simp at hh'
  refine ⟨ss ++ [s], by simp [hsl], ?_, ?_⟩
  · rw [List.length_append, List.length_singleton, rowO_snoc os ss hsl]
    exact hrow2
  · intro j hj
    simp at hj
    by_cases h : j < os.length
    · rw [List.getElem?_append_left h, List.getElem?_append_left (by omega)]
      exact hdk _ _ (hdat j h)
    · obtain rfl : j = os.length := by omega
      rw [List.getElem?_append_right (Nat.le_refl _), List.getElem?_append_right (by omega), hsl]
      simpa using hdk _ _ hs
theorem new_cells (W : World) (xs : List Value) (t : TypeId) : ∀ j u, xs[j]? = some u → (W.alloc (.cells xs.toArray t)).cell? ((⟨W.heap.size, 0, none⟩ : Addr).add j) = some u := fun j u hj => by
  rw [show (⟨W.heap.size, 0, none⟩ : Addr).add j = ⟨W.heap.size, j, none⟩ from by unfold Addr.add; split <;> simp_all, block_cell (heap_alloc_new W _) j]
  simpa using hj

set_option maxRecDepth 100000 in
set_option maxHeartbeats 4000000 in
theorem roptions_any (sv : Value) (zs : List Int) (hB : Mt.By zs) (hl : zs.length ≤ 40) (w : World) (hI : Rd w.heap.size w sv zs) :
    Calls Try.prog 26 #[sv] w fun e w' => Below w.heap.size w w' ∧ ((opts zs = none ∧ e = .returned (.tuple #[.slice none 0 0, .bool false])) ∨ ∃ os v, opts zs = some os ∧ e = .returned (.tuple #[v, .bool true]) ∧ OwO w.heap.size w' v os) := by
  obtain ⟨a, cap, rfl, hc1, hc2⟩ := hI.slice
  obtain ⟨i0, hi, hz0, hz1, hz2⟩ := info_parts info_opt
  obtain ⟨j0, hj, hy0, hy1, hy2⟩ := info_parts info_u8
  go_enter Try.func26, Try.ntmps26
  go_wp2_with fail
  go_loopw [4, 5] (fun v i wr => ∃ (p : Nat) (os : List Opt), p ≤ zs.length ∧ os.length ≤ p ∧ i = .int .i64 (p : Int) ∧ opts zs = (opts (zs.drop p)).map (os ++ ·) ∧ OwO w.heap.size wr v os ∧ Below w.heap.size w wr) (fun _ i _ => zs.length - (intOf i).toNat)
  case atStart => exact ⟨0, [], by omega, by simp, rfl, by rw [List.drop_zero]; cases opts zs <;> rfl, OwO.nil _ _, Below.refl _ _⟩
  case round =>
    obtain ⟨p, os, hp, hop, rfl, hinv, hOw, hnx⟩ := hrel
    have HINV := hide hinv
    clear hinv
    by_cases hlt : p < zs.length
    · obtain ⟨b, off, cap', e, _, _, hbb, hcs⟩ := hI.cells (by omega)
      simp at e
      obtain ⟨rfl, rfl⟩ := e
      have hcx : ∀ j, j < zs.length → wr.cell? ⟨b, off + j, none⟩ = some (.int .u8 (zs[j]?.getD 0)) := fun j h => (hnx.cell (p := ⟨b, off + j, none⟩) hbb).trans (hcs j h)
      clear hcs
      have c0 := hcx p hlt
      have b0 := hB.at p
      have HD := hide (drop_eq zs p hlt)
      have hlt' : (p : Int) < zs.length := by omega
      have HCX := hide hcx
      clear hcx
      generalize hx : zs[p]?.getD 0 = x at c0 b0 HD
      have HX := hide hx
      clear hx
      by_cases x0 : x = 0
      · have t0 : (x == 0) = true := by simp [x0]
        have X0 := hide x0
        clear x0
        go_wp2_with fail
        rename World => V
        go_loopw [5] (fun i wr => ∃ q : Nat, p ≤ q ∧ q ≤ zs.length ∧ i = .int .i64 (q : Int) ∧ (∀ j, p ≤ j → j < q → zs[j]?.getD 0 = 0) ∧ wr = V) (fun i _ => zs.length - (intOf i).toNat)
        case atStart => exact ⟨p, Nat.le_refl _, hp, rfl, fun j h1 h2 => by omega, rfl⟩
        case round =>
          obtain ⟨q, hq1, hq2, rfl, hz, hVV⟩ := hrel
          subst hVV
          have HZ := hide hz
          clear hz c0 t0
          by_cases hq : q < zs.length
          · have cq := HCX.out q hq
            have hq' : (q : Int) < zs.length := by omega
            have bq := hB.at q
            generalize hy : zs[q]?.getD 0 = y at cq bq
            have HY := hide hy
            clear hy
            by_cases y0 : y = 0
            · have t1 : (y != 0) = false := by simp [y0]
              have Y0 := hide y0
              clear y0
              have hz1 : ∀ j, p ≤ j → j < q + 1 → zs[j]?.getD 0 = 0 := fun j h1 h2 => by
                rcases Nat.lt_or_ge j q with h | h
                · exact HZ.out j h1 h
                · obtain rfl : j = q := by omega
                  rw [HY.out]
                  exact Y0.out
              have HZ1 := hide hz1
              clear hz1
              go_wp2_with fail
              go_roundw
              case rel => exact ⟨q + 1, by omega, by omega, by go_num, HZ1.out, trivial⟩
              case measure => simp [intOf]; omega
            · have t1 : (y != 0) = true := by simp [y0]
              have Y0 := hide y0
              clear y0
              have hno : opts (zs.drop p) = none := by
                rw [HD.out, X0.out, opts_zero, if_neg]
                intro h
                have hqp : p ≠ q := fun e => Y0.out (by rw [← HY.out, ← e, HX.out]; exact X0.out)
                refine Y0.out (h y ?_)
                rw [← HY.out]
                refine List.mem_iff_getElem?.2 ⟨q - (p + 1), ?_⟩
                rw [List.getElem?_drop, show p + 1 + (q - (p + 1)) = q from by omega]
                simp [hq]
              have HNO : Hid (opts zs = none) := by show _ = _; rw [HINV.out, hno]; rfl
              clear hno
              go_wp2_with fail
              exact bodyPost_ret (v := .tuple #[.slice none 0 0, .bool false]) (by simp [results, Try.results26, go_sem]) rfl (⟨hnx, .inl ⟨HNO.out, rfl⟩⟩)
          · have hq' : ¬ (q : Int) < zs.length := by omega
            have hyes : opts (zs.drop p) = some [] := by
              rw [HD.out, X0.out, opts_zero, if_pos]
              intro y hy
              obtain ⟨j, hj⟩ := List.mem_iff_getElem?.1 hy
              have hjl := (List.getElem?_eq_some_iff.1 hj).1
              rw [List.getElem?_drop] at hj
              simp at hjl
              have := HZ.out (p + 1 + j) (by omega) (by omega)
              rw [hj] at this
              exact this
            have HYES : Hid (opts zs = some os) := by show _ = _; rw [HINV.out, hyes]; simp
            clear hyes
            go_wp2_with fail
            exact bodyPost_ret (v := .tuple #[u4, .bool true]) (by simp [results, Try.results26, go_sem]) rfl (⟨hnx, .inr ⟨os, HYES.out, u4, rfl, hOw⟩⟩)
      · have t0 : (x == 0) = false := by simp [x0]
        have X0 := hide x0
        clear x0
        obtain ⟨ss, hsl, hrow, hdat⟩ := hOw
        by_cases x1 : x = 1
        · have t1 : (x == 1) = true := by simp [x1]
          subst x1
          have hla : Later wr (wr.alloc (.cells #[.int .u8 1, .slice none 0 0] 57)) := (Below.refl _ wr).alloc (Nat.le_refl _) _
          have HRA := hide (ownsRow_ck hrow (CK.of hla))
          have hdA : ∀ j, j < os.length → Ow w.heap.size (wr.alloc (.cells #[.int .u8 1, .slice none 0 0] 57)) (ss[j]?.getD undef) (os[j]?.getD (0, [])).2 := fun j h => (hdat j h).ck (CK.of hla)
          have HNW := hide (new_cells wr [.int .u8 1, .slice none 0 0] 57)
          have HSZ := hide hnx.size
          clear hrow hdat
          go_wp2_with (at_builtin; refine wpList_append_own _ rfl _ _ 27 rfl w.heap.size 57 i0 (.agg #[.int .u8 0, .slice none 0 0]) 2 32 Try.underlying27 hi hz0 hz1 hz2 rfl (by decide) _ os.length (rowO os ss) rfl HRA.out ⟨wr.heap.size, 0, none⟩ 1 1 [.int .u8 1, .slice none 0 0] rfl rfl HNW.out (by intro u hu; simp at hu; rcases hu with rfl | rfl <;> rfl) (by simp only [maxLen]; omega) (by omega) (by have := HSZ.out; simp; omega) ?_)
          intro v2 W2 hrow2 hg2 hnn
          have hw2 : Below w.heap.size w W2 := below_app (hnx.trans (hla.mono hnx.size)) HRA.out hg2 (Nat.le_refl _) (by have := hnx.size; simp; omega)
          have hO2 : OwO w.heap.size W2 v2 (os ++ [(1, [])]) := OwO_snoc hsl hdA HRA.out (.inl ⟨rfl, rfl⟩) hrow2 hg2
          clear hrow2 hg2 hnn HNW HRA hdA hla
          go_wp2_with fail
          go_roundw
          case rel => exact ⟨p + 1, _, by omega, by simp; omega, by go_num, by rw [HINV.out, HD.out, opts_one]; cases opts (zs.drop (p + 1)) <;> simp, hO2, hw2⟩
          case measure => simp [intOf]; omega
        · have t1 : (x == 1) = false := by simp [x1]
          have X1 := hide x1
          clear x1
          by_cases hs2 : zs.length ≤ p + 1
          · have HNO : Hid (opts zs = none) := by
              show _ = _
              rw [HINV.out, HD.out, List.drop_of_length_le (by omega), opts_bare x X0.out X1.out]
              rfl
            have t2 : (zs.length : Int) ≤ (p : Int) + 1 := by omega
            go_wp2_with fail
            exact bodyPost_ret (v := .tuple #[.slice none 0 0, .bool false]) (by simp [results, Try.results26, go_sem]) rfl (⟨hnx, .inl ⟨HNO.out, rfl⟩⟩)
          · have hp1 : p + 1 < zs.length := by omega
            have t2 : ¬ (zs.length : Int) ≤ (p : Int) + 1 := by omega
            have t2' : (p : Int) + 1 < zs.length := by omega
            have c1 := HCX.out (p + 1) hp1
            have b1 := hB.at (p + 1)
            have HD2 := hide (drop_eq zs (p + 1) hp1)
            generalize hz : zs[p + 1]?.getD 0 = z at c1 b1 HD2
            have HZ := hide hz
            clear hz
            by_cases hzs : z < 2
            · have HNO : Hid (opts zs = none) := by
                show _ = _
                rw [HINV.out, HD.out, HD2.out, opts_wrong x z _ X0.out X1.out (.inl hzs)]
                rfl
              go_wp2_with fail
              exact bodyPost_ret (v := .tuple #[.slice none 0 0, .bool false]) (by simp [results, Try.results26, go_sem]) rfl (⟨hnx, .inl ⟨HNO.out, rfl⟩⟩)
            · by_cases hzl : (zs.length : Int) < (p : Int) + z
              · have HNO : Hid (opts zs = none) := by
                  show _ = _
                  rw [HINV.out, HD.out, HD2.out, opts_wrong x z _ X0.out X1.out (.inr (by simp; omega))]
                  rfl
                go_wp2_with fail
                exact bodyPost_ret (v := .tuple #[.slice none 0 0, .bool false]) (by simp [results, Try.results26, go_sem]) rfl (⟨hnx, .inl ⟨HNO.out, rfl⟩⟩)
              · obtain ⟨m, rfl⟩ := Int.eq_ofNat_of_zero_le b1.1
                have hm2 : 2 ≤ m := by omega
                have hml : p + m ≤ zs.length := by omega
                have HNI : Hid (opts (zs.drop p) = (opts (zs.drop (p + m))).map ((x, (zs.drop (p + 2)).take (p + m - (p + 2))) :: ·)) := by
                  show _ = _
                  have e1 : zs.drop p = x :: (m : Int) :: zs.drop (p + 2) := by rw [HD.out, HD2.out]
                  have h9 := opts_more x (m : Int) (zs.drop (p + 2)) X0.out X1.out (by omega) (by simp; omega)
                  rw [← e1] at h9
                  rw [h9, List.drop_drop, show p + m - (p + 2) = m - 2 from by omega, show (m : Int).toNat - 2 = m - 2 from by omega, show p + 2 + (m - 2) = p + m from by omega]
                go_upto_region 17 with fail
                have i1 : (0 : Int) ≤ (p : Int) + 2 := by omega
                have i2 : (p : Int) + 2 ≤ (p : Int) + m := by omega
                have i3 : (p : Int) + m ≤ cap := by omega
                clear c0 c1 t0 t1 t2 t2' HCX
                have hla : Later wr (wr.alloc (.cells #[] 5)) := (Below.refl _ wr).alloc (Nat.le_refl _) _
                have hwa := hnx.trans (hla.mono hnx.size)
                have HE := hide (show (wr.alloc (.cells #[] 5)).ownsRow wr.heap.size 5 1 (.slice (some ⟨wr.heap.size, 0, none⟩) 0 0) ([] : List Int).length (([] : List Int).map (Value.int .u8)) from ⟨rfl, .inr ⟨wr.heap.size, 0, #[], rfl, Nat.le_refl _, heap_alloc_new _ _, by simp, by simp [maxLen], by simp, by simp⟩⟩)
                have HSZ := hide hnx.size
                have hs8 := ((hI.below hwa).cutAt (p + 2) (by omega)).take (p + m - (p + 2)) (by omega)
                generalize hE2 : (if cap = p + 2 then some (⟨b, off, none⟩ : Addr) else some ⟨b, off + (p + 2), none⟩) = ad2 at hs8
                have HE2 := hide hE2
                have HL : Hid (((zs.drop (p + 2)).take (p + m - (p + 2))).length = p + m - (p + 2)) := by show _ = _; simp; omega
                generalize (zs.drop (p + 2)).take (p + m - (p + 2)) = dt at hs8 HNI HL
                have HS8 := hide hs8
                clear hE2 hs8
                have HLA := hide hla
                clear hla hwa
                go_wp2_with (first | refine wpList_valD 79 rfl rfl (.slice ad2 (p + m - (p + 2)) (cap - (p + 2))) (by rw [← HE2.out]; go_simp; split <;> first | (rw [if_neg (by omega)]; simp <;> omega) | (rw [if_pos (by omega)]; simp <;> omega)) ?_ | (at_builtin; refine wpList_app _ rfl _ _ 24 rfl wr.heap.size 5 j0 Try.underlying24 hj hy0 hy1 hy2 _ [] rfl HE.out w.heap.size _ dt rfl HS8.out (by have := HL.out; simp; omega) (by simp) ?_; intro v3 W3 hrow3 hg3; refine Hid.out ?_))
                rw [List.nil_append] at hrow3
                have hO3 := Ow.of_row hrow3
                obtain ⟨a3, c3, rfl, hq3, hm3⟩ := hO3.slice
                have hl3 : Later wr W3 := Below.trans (show Below wr.heap.size wr _ from HLA.out) ((Below.refl wr.heap.size _).grown hg3 (by simp) (fun k e => by cases e; exact Nat.le_refl _))
                have hw3 := hnx.trans (hl3.mono hnx.size)
                have hla4 : Later W3 (W3.alloc (.cells #[.int .u8 x, .slice a3 dt.length c3] 57)) := (Below.refl _ W3).alloc (Nat.le_refl _) _
                have hck := (CK.of hl3).trans (CK.of hla4)
                have HRA := hide (ownsRow_ck hrow hck)
                have hdA := hide (show ∀ j, j < os.length → Ow w.heap.size (W3.alloc (.cells #[.int .u8 x, .slice a3 dt.length c3] 57)) (ss[j]?.getD undef) (os[j]?.getD (0, [])).2 from fun j h => (hdat j h).ck hck)
                have hO4 := hide ((hO3.ck (CK.of hla4)).mono hnx.size)
                have HNW := hide (new_cells W3 [.int .u8 x, .slice a3 dt.length c3] 57)
                have HSZ2 := hide hw3.size
                clear hrow hdat hrow3 hg3 hck HE HSZ HE2 HS8 hO3 hl3
                show wpList _ _ _ _ _ _
                go_wp2_with (at_builtin; refine wpList_append_own _ rfl _ _ 27 rfl w.heap.size 57 i0 (.agg #[.int .u8 0, .slice none 0 0]) 2 32 Try.underlying27 hi hz0 hz1 hz2 rfl (by decide) _ os.length (rowO os ss) rfl HRA.out ⟨W3.heap.size, 0, none⟩ 1 1 [.int .u8 x, .slice a3 dt.length c3] rfl rfl HNW.out (by intro u hu; simp at hu; rcases hu with rfl | rfl <;> rfl) (by simp only [maxLen]; omega) (by omega) (by have := HSZ2.out; simp; omega) ?_)
                intro v2 W2 hrow2 hg2 hnn
                have hw2 : Below w.heap.size w W2 := below_app (hw3.trans (hla4.mono hw3.size)) HRA.out hg2 (Nat.le_refl _) (by have := hw3.size; simp; omega)
                have hO2 : OwO w.heap.size W2 v2 (os ++ [(x, dt)]) := OwO_snoc hsl hdA.out HRA.out hO4.out hrow2 hg2
                clear hrow2 hg2 hnn HNW HRA hdA hla4 hw3 hO4
                go_wp2_with fail
                go_roundw
                case rel => exact ⟨p + m, _, by omega, by simp; omega, by go_num, by rw [HINV.out, HNI.out]; cases opts (zs.drop (p + m)) <;> simp, hO2, hw2⟩
                case measure => simp [intOf]; omega
    · obtain rfl : p = zs.length := by omega
      have HYES : Hid (opts zs = some os) := by show _ = _; rw [HINV.out, List.drop_of_length_le (Nat.le_refl _)]; simp [opts_nil]
      have hp' : ¬ (zs.length : Int) < zs.length := by omega
      go_wp2_with fail
      exact bodyPost_ret (v := .tuple #[u4, .bool true]) (by simp [results, Try.results26, go_sem]) rfl (⟨hnx, .inr ⟨os, HYES.out, u4, rfl, hOw⟩⟩)
end Go.Proofs.Ytclkfmdlgffbeaa
