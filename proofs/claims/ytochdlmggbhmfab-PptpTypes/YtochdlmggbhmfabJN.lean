/- The walk of PptpTypes. -/
import Derived.Laws.MakeOwn
import Derived.Test.YtochdlmggbhmfabJD
namespace Go.Proofs.Ytochdlmggbhmfab
open Go.RowKit Go.Shelf
set_option maxRecDepth 100000
set_option linter.unusedVariables false
set_option linter.unusedSimpArgs false

theorem lsz_known {t : Int} (h : lkn t = true) : 16 ≤ lsz t ∧ lsz t ≤ 168 := by
  unfold lkn at h
  simp only [Bool.or_eq_true, beq_iff_eq] at h
  rcases h with ((((rfl | rfl) | rfl) | rfl) | rfl) <;> decide
theorem lsz_zero (t : Int) : (lsz t == 0) = !lkn t := by
  cases h : lkn t with
  | true => have := lsz_known h; simp; omega
  | false =>
    unfold lkn at h
    simp at h
    simp [lsz, h]
theorem lca_at {t : Int} (h : lkn t = true) : (t = 15 ∧ lca t = -1 ∧ lpe t = 12) ∨ (t = 8 ∧ lca t = 12 ∧ lpe t = 14) ∨ (t ≠ 15 ∧ t ≠ 8 ∧ lca t = 12 ∧ lpe t = -1) := by
  unfold lkn at h
  simp only [Bool.or_eq_true, beq_iff_eq] at h
  rcases h with ((((rfl | rfl) | rfl) | rfl) | rfl) <;> decide
theorem ow_set {base : Nat} {W : World} {g n cap : Nat} {zs : List Int} (h : Ow base W (.slice (some ⟨g, 0, none⟩) n cap) zs) (j : Nat) (hj : j < zs.length) (v : Int) : Ow base (W.setCell ⟨g, j, none⟩ (.int .u8 v)) (.slice (some ⟨g, 0, none⟩) n cap) (zs.set j v) := by
  rcases h with ⟨e, _⟩ | ⟨g2, cap2, cur, e, hg, hl, hs, hm, hh, hc⟩
  · cases e
  · simp at e
    obtain ⟨rfl, rfl, rfl⟩ := e
    refine .inr ⟨g, cap, cur.setIfInBounds j (.int .u8 v), by simp, hg, by simpa using hl, by simpa using hs, hm, heap_set1 hh j _, ?_⟩
    simp only [List.length_set, List.map_set, ← hc, Array.toList_setIfInBounds, List.take_set]

theorem mk8 (w : World) (n : Nat) (hn : n ≤ 1000) : ∃ o : Obj, (Instr.makeSlice 24 (.int .i64 (n : Int)) (.int .i64 (n : Int))).run Try.prog w = .ok (.slice (some ⟨w.heap.size, 0, none⟩) n n) (w.alloc o) ∧ Ow w.heap.size (w.alloc o) (.slice (some ⟨w.heap.size, 0, none⟩) n n) (List.replicate n 0) := by
  obtain ⟨i0, hi, hz0, hz1, hz2⟩ := info_parts info_u8
  refine ⟨.cells (madeCells (Value.int .u8 0).cells n) 5, ?_, ?_⟩
  · have := run_make (P := Try.prog) w 24 5 i0 _ Try.underlying24 hi hz0 .i64 .i64 (n : Int) (n : Int) (by omega) (by omega) (by rw [hz2]; omega) (by omega)
    rw [hz1] at this
    simpa using this
  · have ez : madeCells (Value.int .u8 0).cells n = (List.replicate n (Value.int .u8 0)).toArray := by
      apply Array.ext
      · rw [size_madeCells]; simp
      · intro i h1 h2
        simp [madeCells, Value.cells, Nat.mod_one]
    rw [ez]
    exact .inr ⟨_, n, _, by simp, Nat.le_refl _, by simp, by simp, by omega, heap_alloc_new w _, by simp⟩

/-- A message's first bytes, laid over as many of 0. -/
def hd14 (n t c : Int) : List Int := [n / 256, n % 256, 0, 1, 26, 43, 60, 77, t / 256, t % 256, 0, 0, c / 256, c % 256]
def mix (l : List Int) (n k : Nat) : List Int := l.take k ++ List.replicate (n - k) 0
theorem mix_len (l : List Int) (n k : Nat) (hk : k ≤ l.length) (hn : k ≤ n) : (mix l n k).length = n := by simp [mix]; omega
theorem mix_step (l : List Int) (n k : Nat) (hk : k < l.length) (hn : k < n) : (mix l n k).set k (l[k]?.getD 0) = mix l n (k + 1) := by
  unfold mix
  have e1 : (l.take k).length = k := by simp; omega
  rw [List.set_append_right _ _ (by omega), e1, Nat.sub_self, show n - k = (n - (k + 1)) + 1 from by omega, List.replicate_succ, List.set_cons_zero, ← List.take_append_getElem hk]
  simp only [List.getElem?_eq_getElem hk, Option.getD_some, List.append_assoc, List.singleton_append]
theorem hd14_by (n t c : Int) (hn : 0 ≤ n ∧ n ≤ 65535) (ht : 0 ≤ t ∧ t ≤ 65535) (hc : 0 ≤ c ∧ c ≤ 65535) : Mt.By (hd14 n t c) := by
  intro z hz
  simp only [hd14, List.mem_cons, List.not_mem_nil, or_false] at hz
  rcases hz with rfl | rfl | rfl | rfl | rfl | rfl | rfl | rfl | rfl | rfl | rfl | rfl | rfl | rfl <;> omega
theorem mix_by (l : List Int) (n k : Nat) (h : Mt.By l) : Mt.By (mix l n k) := (h.take k).append (fun z hz => by have := (List.mem_replicate.1 hz).2; omega)
theorem mix_at (n t c : Int) (m j : Nat) (hj : j < 14) (hm : 14 ≤ m) : (mix (hd14 n t c) m 14)[j]? = (hd14 n t c)[j]? := by
  unfold mix
  rw [List.getElem?_append_left (by simp [hd14]; omega), List.getElem?_take, if_pos hj]

/-- What such bytes say. -/
theorem mix_get8 (n t c : Int) (m : Nat) (hm : 14 ≤ m) (ht : 0 ≤ t ∧ t ≤ 65535) : getAt2 (mix (hd14 n t c) m 14) 8 = t := by
  unfold getAt2
  rw [mix_len _ _ _ (by simp [hd14]) hm, if_pos (by omega)]
  show wat _ 8 = t
  unfold wat
  rw [mix_at _ _ _ _ _ (by omega) hm, mix_at _ _ _ _ _ (by omega) hm]
  simp [hd14]
  omega
theorem mix_get12 (n t c : Int) (m : Nat) (hm : 14 ≤ m) (hc : 0 ≤ c ∧ c ≤ 65535) : getAt2 (mix (hd14 n t c) m 14) 12 = c := by
  unfold getAt2
  rw [mix_len _ _ _ (by simp [hd14]) hm, if_pos (by omega)]
  show wat _ 12 = c
  unfold wat
  rw [mix_at _ _ _ _ _ (by omega) hm, mix_at _ _ _ _ _ (by omega) hm]
  simp [hd14]
  omega
theorem mix_lye (t c : Int) (m : Nat) (hm : 14 ≤ m) (hm2 : m ≤ 65535) (ht : 0 ≤ t ∧ t ≤ 65535) (hc : 0 ≤ c ∧ c ≤ 65535) : lye (mix (hd14 m t c) m 14) = if lkn t = false then 12 else if (m : Int) ≠ lsz t then 4 else 0 := by
  have hl := mix_len (hd14 m t c) m 14 (by simp [hd14]) hm
  have h8 := mix_get8 (m : Int) t c m hm ht
  have hk : hdk (mix (hd14 m t c) m 14) = true := by
    unfold hdk
    rw [h8, hl, mix_at _ _ _ _ _ (by omega) hm, mix_at _ _ _ _ _ (by omega) hm, mix_at _ _ _ _ _ (by omega) hm, mix_at _ _ _ _ _ (by omega) hm, mix_at _ _ _ _ _ (by omega) hm, mix_at _ _ _ _ _ (by omega) hm, mix_at _ _ _ _ _ (by omega) hm, mix_at _ _ _ _ _ (by omega) hm, mix_at _ _ _ _ _ (by omega) hm, mix_at _ _ _ _ _ (by omega) hm, mix_at _ _ _ _ _ (by omega) hm, mix_at _ _ _ _ _ (by omega) hm]
    simp [hd14, eqs]
  unfold lye
  rw [hl, h8, if_neg (by omega), if_neg (by omega), if_neg (by simp [hk])]

set_option maxHeartbeats 8000000 in
theorem walk_PptpTypes (w : World) (t : Int) (ht : 0 ≤ t ∧ t ≤ 65535) (c : Int) (hc : 0 ≤ c ∧ c ≤ 65535) :
    Calls Try.prog 3 #[.int .u16 t, .int .u16 c] w fun e w' => e = .returned (.bool true) ∧ Below w.heap.size w w' := by
  have HW : Hid (wrap64 t = t) := by show _ = _; unfold wrap64; omega
  have hz := lsz_zero t
  have hS : lkn t = true → 16 ≤ lsz t ∧ lsz t ≤ 168 := lsz_known
  have HS := hide hS
  clear hS
  obtain ⟨n, HN, hn16, hn168⟩ : ∃ n : Nat, Hid ((if lkn t = true then lsz t else 16) = (n : Int)) ∧ 16 ≤ n ∧ n ≤ 168 := by
    cases hk : lkn t with
    | true => have := HS.out hk; exact ⟨(lsz t).toNat, by show _ = _; rw [if_pos rfl]; omega, by omega, by omega⟩
    | false => exact ⟨16, by show _ = _; rw [if_neg (by simp)]; rfl, by omega, by omega⟩
  go_enter Try.func3, Try.ntmps3
  go_wp2_with fail
  refine (size15_any t w).mono ?_
  rintro e w1 ⟨rfl, l1⟩
  obtain ⟨kn, HK⟩ : ∃ k, Hid (lkn t = k) := ⟨_, rfl⟩
  rw [HK.out] at hz HN
  have HZ := hide hz
  clear hz
  go_upto_if 15 with fail
  go_cut [5] (fun nv wx => nv = .int .i64 (n : Int) ∧ wx = w1)
  case first =>
    have hz := HZ.out
    cases kn with
    | true =>
      have hNn : lsz t = (n : Int) := by have := HN.out; rw [if_pos rfl] at this; exact this
      have HNn := hide hNn
      simp only [Bool.not_true] at hz
      clear hNn
      go_wp2_with fail
      go_meet
      case rel => exact ⟨by rw [HNn.out], rfl⟩
    | false =>
      have hNn : n = 16 := by have := HN.out; rw [if_neg (by simp)] at this; omega
      have HNn := hide hNn
      simp only [Bool.not_false] at hz
      clear hNn
      go_wp2_with fail
      go_meet
      case rel => exact ⟨by rw [HNn.out]; rfl, rfl⟩
  case rest =>
    obtain ⟨rfl, rfl⟩ := hcut
    rename World => w1
    obtain ⟨o, hmk, hO2⟩ := mk8 w1 n (by omega)
    have HO2 := hide hO2
    have l2 : Later w1 (w1.alloc o) := later_alloc _ _
    clear hO2
    have hn1 : (n : Int) ≤ 168 := by omega
    have hn0 : (16 : Int) ≤ n := by omega
    go_upto_region 5 with fail
    generalize w1.alloc o = w2 at *
    generalize hg : w1.heap.size = g at *
    have hL : hd14 n t c = [(n : Int) / 256, (n : Int), 0, 1, 26, 43, 60, 77, t / 256, t % 256, 0, 0, c / 256, c % 256] := by unfold hd14; rw [show (n : Int) % 256 = n from by omega]
    have rH := heap_alloc_new w2 (.cells #[.int .u8 ((n : Int) / 256), .int .u8 (n : Int), .int .u8 0, .int .u8 1, .int .u8 26, .int .u8 43, .int .u8 60, .int .u8 77, .int .u8 (t / 256), .int .u8 (t % 256), .int .u8 0, .int .u8 0, .int .u8 (c / 256), .int .u8 (c % 256)] 5)
    have l3 := later_alloc w2 (.cells #[.int .u8 ((n : Int) / 256), .int .u8 (n : Int), .int .u8 0, .int .u8 1, .int .u8 26, .int .u8 43, .int .u8 60, .int .u8 77, .int .u8 (t / 256), .int .u8 (t % 256), .int .u8 0, .int .u8 0, .int .u8 (c / 256), .int .u8 (c % 256)] 5)
    have HH : Hid (∀ k, k < 14 → #[Value.int .u8 ((n : Int) / 256), .int .u8 (n : Int), .int .u8 0, .int .u8 1, .int .u8 26, .int .u8 43, .int .u8 60, .int .u8 77, .int .u8 (t / 256), .int .u8 (t % 256), .int .u8 0, .int .u8 0, .int .u8 (c / 256), .int .u8 (c % 256)][k]? = some (.int .u8 ((hd14 n t c)[k]?.getD 0))) := fun k hk => by
      rw [hL]
      rcases k with _ | _ | _ | _ | _ | _ | _ | _ | _ | _ | _ | _ | _ | _ | k <;> first | rfl | omega
    have HBY := hide (hd14_by n t c (by omega) ht hc)
    have hlen : (hd14 n t c).length = 14 := rfl
    have HMS := hide (fun k (hk : k < 14) => mix_step (hd14 n t c) n k (by rw [hlen]; exact hk) (by omega))
    have HML := hide (fun k (hk : k ≤ 14) => mix_len (hd14 n t c) n k (by rw [hlen]; exact hk) (by omega))
    have HM0 : Hid (mix (hd14 n t c) n 0 = List.replicate n 0) := by show _ = _; simp [mix]
    have HY := hide (mix_lye t c n (by omega) (by omega) ht hc)
    have H8 := hide (mix_get8 n t c n (by omega) ht)
    have H12 := hide (mix_get12 n t c n (by omega) hc)
    have HBM := hide (mix_by (hd14 n t c) n 14 HBY.out)
    clear hL hlen HBY
    generalize hd14 n t c = hd at *
    go_upto_region 6 with fail
    generalize hA3 : #[Value.int .u8 ((n : Int) / 256), _, _, _, _, _, _, _, _, _, _, _, _, _] = A3 at *
    generalize w2.alloc _ = w3 at *
    generalize hh : w2.heap.size = h at *
    have hgh : g < h := by
      have := HO2.out
      have h2 := (Ow.at this (by simp; omega))
      obtain ⟨g', e, _, _, hc', _⟩ := h2
      have := World.block_lt_of_cell? w2 ⟨g', 0, none⟩ (hc' 0 (by simp; omega)).1
      simp at e
      subst e
      rw [← hh]
      exact this
    have hO3 : Ow g w3 (.slice (some ⟨g, 0, none⟩) n n) (mix hd n 0) := by rw [HM0.out]; exact HO2.out.later l3
    have hb3 : Below g w1 w3 := by rw [← hg] at *; exact l2.trans l3
    have HG := hide hg
    clear hA3 hg hh
    go_wp2_with fail
    go_loopw [8] (fun iv wr => ∃ k : Nat, k ≤ 14 ∧ iv = .int .i64 (k : Int) ∧ Ow g wr (.slice (some ⟨g, 0, none⟩) n n) (mix hd n k) ∧ wr.heap[h]? = some (.cells A3 5 (0, 0)) ∧ Below g w1 wr) (fun iv _ => 14 - (intOf iv).toNat)
    case atStart => exact ⟨0, by omega, rfl, hO3, rH, hb3⟩
    case round =>
      obtain ⟨k, hk, rfl, hOk, hHk, hbk⟩ := hrel
      by_cases hk14 : k < 14
      · have hk' : (k : Int) < 14 := by omega
        have hkn : (k : Int) < n := by omega
        have dh := (block_cell hHk k).trans (HH.out k hk14)
        have hML := HML.out k hk
        obtain ⟨g', e, -, -, hcs, -⟩ := hOk.at (by omega)
        simp at e
        subst e
        obtain ⟨dg, fg⟩ := hcs k (by omega)
        have hO' := ow_set hOk k (by omega) (hd[k]?.getD 0)
        rw [HMS.out k hk14] at hO'
        have HO' := hide hO'
        have HH' := hide ((Below.heap_setCell wr ⟨g, k, none⟩ (.int .u8 (hd[k]?.getD 0)) h (by simp; omega)).trans hHk)
        have hb' := hide (hbk.setCell (p := ⟨g, k, none⟩) (Nat.le_refl _) (.int .u8 (hd[k]?.getD 0)))
        clear hcs hOk hHk hO' hML
        generalize hd[k]?.getD 0 = z at *
        generalize (mix hd n k)[k]?.getD 0 = y at *
        go_wp2_with fail
        go_roundw
        case rel => exact ⟨k + 1, by omega, by go_num, HO'.out, HH'.out, hb'.out⟩
        case measure => simp [intOf]; omega
      · have hke : k = 14 := by omega
        subst hke
        have hlM := HML.out 14 (by omega)
        have HPM := hide (parse15_any (.slice (some ⟨g, 0, none⟩) n n) (mix hd n 14) HBM.out wr (Nat.le_refl _) hOk.rd)
        have HPT : Hid (lye (mix hd n 14) = 0 → pmT (mix hd n 14) = t ∧ pmR (mix hd n 14) = (if t = 8 then (mix hd n 14)[16]?.getD 0 else 0) ∧ lyC (mix hd n 14) = lca t ∧ lyP (mix hd n 14) = lpe t) := fun h => by
          refine ⟨by unfold pmT; rw [if_pos h, H8.out], ?_, by unfold lyC; rw [if_pos h, H8.out], by unfold lyP; rw [if_pos h, H8.out]⟩
          unfold pmR
          rw [H8.out]
          by_cases h8 : t = 8
          · rw [if_pos ⟨h, h8⟩, if_pos h8]
          · rw [if_neg (fun e => h8 e.2), if_neg h8]
        have hw : Below w.heap.size w wr := by
          have h0 := l1
          have h1 := hbk
          rw [← HG.out] at h1
          exact h0.trans (h1.mono h0.size)
        clear hbk hHk hOk
        cases kn with
        | false =>
          have HE : Hid (lye (mix hd n 14) = 12) := by show _ = _; rw [HY.out, HK.out, if_pos rfl]
          have HMN : Hid (msg (pmT (mix hd n 14)) (getAt2 (mix hd n 14) (lyC (mix hd n 14))) (getAt2 (mix hd n 14) (lyP (mix hd n 14))) (pmR (mix hd n 14)) = msg 0 0 0 0) := by
            have hne : lye (mix hd n 14) ≠ 0 := by rw [HE.out]; decide
            show _ = _
            rw [lyC_no hne, lyP_no hne, getAt2_neg, show pmT (mix hd n 14) = 0 from by unfold pmT; rw [if_neg hne], show pmR (mix hd n 14) = 0 from by unfold pmR; rw [if_neg (fun h => hne h.1)]]
          rw [HMN.out, HE.out] at HPM
          have hz := HZ.out
          simp only [Bool.not_false] at hz
          clear hlM
          go_wp2_with fail
          refine HPM.out.mono ?_
          rintro e w5 ⟨rfl, l5⟩
          have rM := heap_alloc_new w5 (.cells #[.int .i64 0, .int .u16 0, .int .u16 0, .int .u8 0] 27)
          have l6 : Later wr (w5.alloc (.cells #[.int .i64 0, .int .u16 0, .int .u16 0, .int .u8 0] 27)) := l5.trans (later_alloc _ _)
          clear l5 HPM
          go_upto_region 11 with fail
          generalize w5.alloc _ = w6 at *
          go_wp2_with fail
          refine (size15_any t w6).mono ?_
          rintro e w7 ⟨rfl, l7⟩
          go_wp2_with fail
          refine (live15_any w7).mono ?_
          rintro e w8 ⟨rfl, l8⟩
          have L7 : Later w6 w7 := l7
          have CM := block_cell (((L7.trans l8).block w5.heap.size (Array.getElem?_eq_some_iff.1 rM).1).trans rM)
          go_wp2_with fail
          go_ret
          exact ⟨rfl, Later.below hw (Nat.le_refl _) (l6.trans (L7.trans l8))⟩
        | true =>
          have hNn : lsz t = (n : Int) := by have := HN.out; rw [if_pos rfl] at this; exact this
          have HE : Hid (lye (mix hd n 14) = 0) := by show _ = _; rw [HY.out, HK.out, if_neg (by simp), if_neg (by simp [hNn])]
          obtain ⟨p1, p2, p3, p4⟩ := HPT.out HE.out
          have hla := lca_at HK.out
          rw [HE.out] at HPM
          have hz := HZ.out
          simp only [Bool.not_true] at hz
          clear hlM hNn
          by_cases c15 : t = 15
          · have HMN : Hid (msg (pmT (mix hd n 14)) (getAt2 (mix hd n 14) (lyC (mix hd n 14))) (getAt2 (mix hd n 14) (lyP (mix hd n 14))) (pmR (mix hd n 14)) = msg 15 0 c 0) := by
              show _ = _
              rw [p1, p2, p3, p4, show lca t = -1 from by omega, show lpe t = 12 from by omega, getAt2_neg, H12.out, if_neg (by omega), c15]
            rw [HMN.out] at HPM
            have f15 : (t == 15) = true := by simp [c15]
            clear c15 hla p1 p2 p3 p4
            go_wp2_with fail
            refine HPM.out.mono ?_
            rintro e w5 ⟨rfl, l5⟩
            have rM := heap_alloc_new w5 (.cells #[.int .i64 15, .int .u16 0, .int .u16 c, .int .u8 0] 27)
            have l6 : Later wr (w5.alloc (.cells #[.int .i64 15, .int .u16 0, .int .u16 c, .int .u8 0] 27)) := l5.trans (later_alloc _ _)
            clear l5 HPM
            go_upto_region 11 with fail
            generalize w5.alloc _ = w6 at *
            go_wp2_with fail
            refine (size15_any t w6).mono ?_
            rintro e w7 ⟨rfl, l7⟩
            go_wp2_with fail
            refine (live15_any w7).mono ?_
            rintro e w8 ⟨rfl, l8⟩
            have L7 : Later w6 w7 := l7
            have CM := block_cell (((L7.trans l8).block w5.heap.size (Array.getElem?_eq_some_iff.1 rM).1).trans rM)
            go_wp2_with fail
            go_ret
            exact ⟨rfl, Later.below hw (Nat.le_refl _) (l6.trans (L7.trans l8))⟩
          · obtain ⟨m3, m4, HMN⟩ : ∃ m3 m4, Hid (msg (pmT (mix hd n 14)) (getAt2 (mix hd n 14) (lyC (mix hd n 14))) (getAt2 (mix hd n 14) (lyP (mix hd n 14))) (pmR (mix hd n 14)) = msg t c m3 m4) := by
              refine ⟨getAt2 (mix hd n 14) (lyP (mix hd n 14)), pmR (mix hd n 14), ?_⟩
              show _ = _
              rw [p1, p3, show lca t = 12 from by omega, H12.out]
            rw [HMN.out] at HPM
            have f15 : (t == 15) = false := by simp [c15]
            clear c15 hla p1 p2 p3 p4
            go_wp2_with fail
            refine HPM.out.mono ?_
            rintro e w5 ⟨rfl, l5⟩
            have rM := heap_alloc_new w5 (.cells #[.int .i64 t, .int .u16 c, .int .u16 m3, .int .u8 m4] 27)
            have l6 : Later wr (w5.alloc (.cells #[.int .i64 t, .int .u16 c, .int .u16 m3, .int .u8 m4] 27)) := l5.trans (later_alloc _ _)
            clear l5 HPM
            go_upto_region 11 with fail
            generalize w5.alloc _ = w6 at *
            go_wp2_with fail
            refine (size15_any t w6).mono ?_
            rintro e w7 ⟨rfl, l7⟩
            go_wp2_with fail
            refine (live15_any w7).mono ?_
            rintro e w8 ⟨rfl, l8⟩
            have L7 : Later w6 w7 := l7
            have CM := block_cell (((L7.trans l8).block w5.heap.size (Array.getElem?_eq_some_iff.1 rM).1).trans rM)
            go_wp2_with fail
            go_ret
            exact ⟨rfl, Later.below hw (Nat.le_refl _) (l6.trans (L7.trans l8))⟩
end Go.Proofs.Ytochdlmggbhmfab
