/- Several texts in one. -/
import Derived.Test.YtfompbpllndmfaaDoorPZ
import Derived.Test.YtfompbpllndmfaaDoorPJ
import Derived.Test.YtfompbpllndmfaaDoorRx
import Derived.Test.YtfompbpllndmfaaDoorPK
/- The document's pool: the walk of take. -/
namespace Go.Proofs.YtfompbpllndmfaaDoor
open Go.RowKit Go.Shelf
set_option maxRecDepth 100000
set_option linter.unusedVariables false
set_option linter.unusedSimpArgs false

theorem DP.low {base n₀ : Nat} {A B : World} {rb : Nat} {v : Value} {low high : Nat} {U : List Nat} (h : DP base A rb v low high U) (l : Below A.heap.size A B) : DP base B rb v low high U := h.later l

theorem ownsM_but {E : Nat → Prop} {t : TypeId} {sz base : Nat} {A B : World} {v : Value} {n : Nat} {xs : List Value} (h : A.ownsRow base t sz v n xs) (k : But E A B) (hE : ∀ g, base ≤ g → ¬ E g) : B.ownsRow base t sz v n xs := by
  obtain ⟨h1, h2 | ⟨g, cap, cur, hv, hg, hh, r⟩⟩ := h
  · exact ⟨h1, .inl h2⟩
  · exact ⟨h1, .inr ⟨g, cap, cur, hv, hg, (k.block g (Array.getElem?_eq_some_iff.1 hh).1 (hE g hg)).trans hh, r⟩⟩

set_option maxHeartbeats 8000000 in
theorem rtake8_any (base rb low high : Nat) (v : Value) (U : List Nat) (n : Nat) (w : World) (hT : DP base w rb v low high U) (hn : n < 65536) (hU : U.length ≤ 100000) :
    Calls Tryd.prog 39 #[.pointer (some ⟨rb, 0, none⟩), .int .i64 (n : Int)] w fun e w' => (∃ u, e = .returned u) ∧ (∃ v', DP base w' rb v' low high (insU n U)) ∧ But (fun g => g = rb) w w' := by
  obtain ⟨sa, cap, rfl⟩ := hT.slice
  have hrb : rb < w.heap.size := (Array.getElem?_eq_some_iff.1 hT.2.1).1
  have hbb := hT.1
  have HT := hide (fun W (h : Below w.heap.size w W) => hT.later h)
  have hUi : (U.length : Int) ≤ 100000 := by omega
  have hn' : (n : Int) ≤ 65535 := by omega
  clear hT
  go_enter Tryd.func39, Tryd.ntmps39
  go_wp2_with fail
  go_loopw [4, 5, 6] (fun l p i wr => ∃ (q : Nat) (M : List Nat) (pl : Bool), q ≤ U.length ∧ i = .int .i64 (q : Int) ∧ p = .bool pl ∧ wr.ownsRow w.heap.size 3 1 l M.length (i64s M) ∧ TkI n U q M pl ∧ Below w.heap.size w wr) (fun _ _ i _ => U.length - (intOf i).toNat)
  case atStart => exact ⟨0, [], false, by omega, rfl, rfl, World.ownsRow_nil _ _ _ _, .inl ⟨rfl, rfl, by simp⟩, Below.refl _ _⟩
  case round =>
    obtain ⟨q, M, pl, hq, rfl, rfl, hOw, hK, hbw⟩ := hrel
    obtain ⟨sl, cl, rfl⟩ := ownsN_slice hOw
    have hML := hK.len hq
    have k0 := block_cell (HT.out wr hbw).2.1
    have hws := hbw.size
    have HK := hide hK
    have HO := hide hOw
    clear hK hOw
    by_cases hql : q < U.length
    · have hql' : (q : Int) < U.length := by omega
      obtain ⟨g, rfl, hc1, hc2, hcs⟩ := (HT.out wr hbw).cellsU (by omega)
      have hgl : g < w.heap.size := by
        obtain ⟨_, ⟨e, h0⟩ | ⟨g', cp, cur, e, hg, hh, _⟩⟩ := (HT.out w (Below.refl _ _)).2.2
        · omega
        · cases e; exact (Array.getElem?_eq_some_iff.1 hh).1
      have d1 := hcs q hql
      clear hcs
      by_cases hc : pl = false ∧ n < U[q]?.getD 0
      · obtain ⟨rfl, hlt⟩ := hc
        have HK2 := hide (HK.out.put hql hlt)
        generalize U[q]?.getD 0 = y at *
        have hlt' : (n : Int) < (y : Int) := by omega
        go_wp2_with (at_builtin; refine wpList_app64 rfl (.tmp 29) (.tmp 31) rfl w.heap.size _ M n rfl rfl HO.out hws (by omega) ?_; intro g2 cp2 W5 hrow5 hb5; have hb5' := hide hb5; refine Hid.out ?_)
        have hbw5 : Below w.heap.size w W5 := hbw.trans hb5'.out
        have k5 := block_cell (HT.out W5 hbw5).2.1
        have d5 : W5.cell? ⟨g, q, none⟩ = some (.int .i64 (y : Int)) := (hb5'.out.cell (p := ⟨g, q, none⟩) hgl).trans d1
        have hs5 := hbw5.size
        have HO5 := hide hrow5
        clear k0 d1 hrow5 hb5
        show wpList _ _ _ _ _ _
        go_wp2_with (at_builtin; refine wpList_app64 rfl (.tmp 33) (.tmp 41) rfl w.heap.size _ (M ++ [n]) y (by simp [go_sem]) rfl HO5.out hs5 (by simp; omega) ?_; intro g3 cp3 W6 hrow6 hb6)
        go_roundw
        case rel => exact ⟨q + 1, M ++ [n] ++ [y], true, by omega, by go_num, rfl, by simpa using hrow6, HK2.out, hbw5.trans hb6⟩
        case measure => simp [intOf]; omega
      · have HK2 := hide (HK.out.keep hql (by cases pl with | true => exact .inl rfl | false => exact .inr (fun h => hc ⟨rfl, h⟩)))
        generalize U[q]?.getD 0 = y at *
        cases pl with
        | true =>
          clear hc
          go_wp2_with (at_builtin; refine wpList_app64 rfl (.tmp 33) (.tmp 41) rfl w.heap.size _ M y rfl rfl HO.out hws (by omega) ?_; intro g3 cp3 W6 hrow6 hb6)
          go_roundw
          case rel => exact ⟨q + 1, M ++ [y], true, by omega, by go_num, rfl, by simpa using hrow6, HK2.out, hbw.trans hb6⟩
          case measure => simp [intOf]; omega
        | false =>
          have hlt' : ¬ (n : Int) < (y : Int) := by intro h; exact hc ⟨rfl, by omega⟩
          clear hc
          go_wp2_with (at_builtin; refine wpList_app64 rfl (.tmp 33) (.tmp 41) rfl w.heap.size _ M y rfl rfl HO.out hws (by omega) ?_; intro g3 cp3 W6 hrow6 hb6)
          go_roundw
          case rel => exact ⟨q + 1, M ++ [y], false, by omega, by go_num, rfl, by simpa using hrow6, HK2.out, hbw.trans hb6⟩
          case measure => simp [intOf]; omega
    · obtain rfl : q = U.length := by omega
      have fin : ∀ (W : World) (u : Value), Below w.heap.size w W → W.ownsRow w.heap.size 3 1 u (insU n U).length (i64s (insU n U)) → DP base (W.setCell ⟨rb, 2, none⟩ u) rb u low high (insU n U) ∧ But (fun g => g = rb) w (W.setCell ⟨rb, 2, none⟩ u) := fun W u hW hu => by
        refine ⟨⟨hbb, ?_, ?_⟩, But.setCell (E := fun g => g = rb) (But.of (show Later w W from hW)) (p := ⟨rb, 2, none⟩) rfl _⟩
        · have := heap_set1 (HT.out W hW).2.1 2 u
          simpa using this
        · refine ownsN_mono (base := w.heap.size) ?_ (by omega)
          exact ownsM_but hu (But.setCell (E := fun g => g = rb) (But.refl _ W) (p := ⟨rb, 2, none⟩) rfl u) (fun g hg e => by omega)
      have FIN := hide fin
      have F0 := block_frozen (HT.out wr hbw).2.1
      clear fin
      cases pl with
      | true =>
        have HM := hide HK.out.done_t
        go_wp2_with fail
        go_end0
        obtain ⟨f1, f2⟩ := FIN.out wr _ hbw (by have := HO.out; rw [← HM.out]; exact this)
        exact ⟨⟨_, rfl⟩, ⟨_, f1⟩, f2⟩
      | false =>
        have HM := hide HK.out.done_f
        go_wp2_with (at_builtin; refine wpList_app64 rfl (.tmp 45) (.tmp 47) rfl w.heap.size _ M n rfl rfl HO.out hws (by omega) ?_; intro g3 cp3 W6 hrow6 hb6; have hbw6 := hbw.trans hb6; have k6 := block_cell (HT.out W6 hbw6).2.1; have F6 := block_frozen (HT.out W6 hbw6).2.1)
        go_end0
        obtain ⟨f1, f2⟩ := FIN.out W6 _ hbw6 (by rw [← HM.out]; exact hrow6)
        exact ⟨⟨_, rfl⟩, ⟨_, f1⟩, by simpa using f2⟩
end Go.Proofs.YtfompbpllndmfaaDoor

/- The document's pool: Take and Pair. -/
namespace Go.Proofs.YtfompbpllndmfaaDoor
open Go.RowKit Go.Shelf
set_option maxRecDepth 100000
set_option linter.unusedVariables false
set_option linter.unusedSimpArgs false

/-- Which number the document gives out; 0: none. -/
def rtn (low high : Nat) (U : List Nat) (two : Bool) (wish : Nat) : Nat := if rok low high U two wish = true then wish else lst low high U two
theorem rok_range {low high : Nat} {U : List Nat} {two : Bool} {n : Nat} (h : rok low high U two n = true) : low ≤ n ∧ n ≤ high ∧ n ∉ U ∧ (two = true → n % 2 = 0 ∧ n + 1 ≤ high ∧ n + 1 ∉ U) := by
  unfold rok rfr at h
  cases two with
  | false => simp at h; exact ⟨h.1, h.2.1, h.2.2, fun e => by cases e⟩
  | true => simp at h; exact ⟨h.1.1, h.1.2.1, h.1.2.2, fun _ => ⟨h.2.1, h.2.2.2.1, h.2.2.2.2⟩⟩
theorem lst_rok {low high : Nat} {U : List Nat} {two : Bool} (h : lst low high U two ≠ 0) : rok low high U two (lst low high U two) = true := by
  unfold lst at h ⊢
  cases hL : (nums low high).filter (rok low high U two) with
  | nil => rw [hL] at h; exact absurd rfl h
  | cons x L =>
    have : x ∈ (nums low high).filter (rok low high U two) := by rw [hL]; simp
    simpa using (List.mem_filter.1 this).2
theorem rtn_rok {low high : Nat} {U : List Nat} {two : Bool} {wish : Nat} (h : rtn low high U two wish ≠ 0) : rok low high U two (rtn low high U two wish) = true := by
  unfold rtn at h ⊢
  split
  · assumption
  · rename_i hn
    rw [if_neg hn] at h
    exact lst_rok h

/-- How the document's Take and Pair end. -/
def rtP (base : Nat) (w : World) (rb low high : Nat) (v : Value) (U U' : List Nat) (n : Nat) (e : Ending) (w' : World) : Prop :=
  (n = 0 ∧ e = .returned (.tuple #[.int .u16 0, .int .i64 9]) ∧ w' = w) ∨ (n ≠ 0 ∧ e = .returned (.tuple #[.int .u16 (n : Int), .int .i64 0]) ∧ (∃ v', DP base w' rb v' low high U') ∧ But (fun g => g = rb) w w')

set_option maxHeartbeats 4000000 in
theorem rTake8_any (base rb low high : Nat) (v : Value) (U : List Nat) (wish : Nat) (hl : 1 ≤ low) (hlh : low ≤ high) (hh : high < 65536) (w : World) (hT : DP base w rb v low high U) (hw : wish < 65536) (hU : U.length ≤ 90000) :
    Calls Tryd.prog 28 #[.pointer (some ⟨rb, 0, none⟩), .int .u16 (wish : Int)] w (rtP base w rb low high v U (insU (rtn low high U false wish) U) (rtn low high U false wish)) := by
  have HF := hide (rfree8_any base rb low high v U wish w hT hw (by omega))
  have HL := hide (rleast8_any base rb low high v U false hlh hh w hT (by omega))
  have HT := hide (fun n hn => rtake8_any base rb low high v U n w hT hn (by omega))
  have hro : rok low high U false wish = rfr low high U wish := by unfold rok; simp
  have hw' : (wish : Int) ≤ 65535 := by omega
  clear hT
  cases hf : rfr low high U wish with
  | true =>
    rw [hf] at HF hro
    have hrt : rtn low high U false wish = wish := by unfold rtn; rw [if_pos hro]
    have hpos := rok_range hro
    have hw1 : ¬ (wish : Int) = 0 := by omega
    have HW1 : Hid (wish ≠ 0) := by show _ ≠ _; omega
    rw [hrt]
    have HTW := hide (HT.out wish hw)
    clear hf hro hrt hpos HT HL
    go_enter Tryd.func28, Tryd.ntmps28
    go_wp2_with fail
    refine HF.out.mono ?_
    rintro e w1 ⟨rfl, rfl⟩
    go_wp2_with fail
    refine HTW.out.mono ?_
    rintro e w2 ⟨⟨u, rfl⟩, hD, hb⟩
    go_wp2_with fail
    refine bodyPost_ret (v := .tuple #[.int .u16 (wish : Int), .int .i64 0]) (by simp [results, Tryd.results28, go_sem]) rfl ?_
    exact .inr ⟨HW1.out, rfl, hD, hb⟩
  | false =>
    rw [hf] at HF hro
    have hrt : rtn low high U false wish = lst low high U false := by unfold rtn; rw [if_neg (by rw [hro]; simp)]
    rw [hrt]
    have hlr := @lst_rok low high U false
    have hlb : lst low high U false ≠ 0 → lst low high U false < 65536 := fun h => by have := rok_range (hlr h); omega
    clear hf hro hrt hlr
    generalize lst low high U false = n at *
    by_cases hn : n = 0
    · subst hn
      clear hlb HT
      go_enter Tryd.func28, Tryd.ntmps28
      go_wp2_with fail
      refine HF.out.mono ?_
      rintro e w1 ⟨rfl, rfl⟩
      go_wp2_with fail
      refine HL.out.mono ?_
      rintro e w1 ⟨rfl, rfl⟩
      go_wp2_with fail
      refine bodyPost_ret (v := .tuple #[.int .u16 0, .int .i64 9]) (by simp [results, Tryd.results28, go_sem]) rfl ?_
      exact .inl ⟨rfl, rfl, rfl⟩
    · have hn6 := hlb hn
      have hn1 : ¬ (n : Int) = 0 := by omega
      have hn2 : (n : Int) ≤ 65535 := by omega
      have HTW := hide (HT.out n hn6)
      have HN := hide hn
      clear hlb HT hn
      go_enter Tryd.func28, Tryd.ntmps28
      go_wp2_with fail
      refine HF.out.mono ?_
      rintro e w1 ⟨rfl, rfl⟩
      go_wp2_with fail
      refine HL.out.mono ?_
      rintro e w1 ⟨rfl, rfl⟩
      go_wp2_with fail
      refine HTW.out.mono ?_
      rintro e w2 ⟨⟨u, rfl⟩, hD, hb⟩
      go_wp2_with fail
      refine bodyPost_ret (v := .tuple #[.int .u16 (n : Int), .int .i64 0]) (by simp [results, Tryd.results28, go_sem]) rfl ?_
      exact .inr ⟨HN.out, rfl, hD, hb⟩
end Go.Proofs.YtfompbpllndmfaaDoor

/- The document's pool: Pair. -/
namespace Go.Proofs.YtfompbpllndmfaaDoor
open Go.RowKit Go.Shelf
set_option maxRecDepth 100000
set_option linter.unusedVariables false
set_option linter.unusedSimpArgs false

set_option maxHeartbeats 4000000 in
theorem rPair8_any (base rb low high : Nat) (v : Value) (U : List Nat) (wish : Nat) (hl : 1 ≤ low) (hlh : low ≤ high) (hh : high < 65536) (w : World) (hT : DP base w rb v low high U) (hw : wish < 65536) (hU : U.length ≤ 90000) :
    Calls Tryd.prog 29 #[.pointer (some ⟨rb, 0, none⟩), .int .u16 (wish : Int)] w (rtP base w rb low high v U (insU (rtn low high U true wish + 1) (insU (rtn low high U true wish) U)) (rtn low high U true wish)) := by
  have HF := hide (rfree8_any base rb low high v U wish w hT hw (by omega))
  have HF2 := hide (fun (h : wish + 1 < 65536) => rfree8_any base rb low high v U (wish + 1) w hT h (by omega))
  rw [show ((wish + 1 : Nat) : Int) = (wish : Int) + 1 from by omega] at HF2
  have HL := hide (rleast8_any base rb low high v U true hlh hh w hT (by omega))
  have HT := hide (fun n hn => rtake8_any base rb low high v U n w hT hn (by omega))
  have HT2 := hide (fun (n : Nat) (hn : n + 1 < 65536) (W : World) (v' : Value) (h : DP base W rb v' low high (insU n U)) => rtake8_any base rb low high v' (insU n U) (n + 1) W h hn (by rw [insU_length]; omega))
  have hw' : (wish : Int) ≤ 65535 := by omega
  clear hT
  cases hro : rok low high U true wish with
  | true =>
    have hrt : rtn low high U true wish = wish := by unfold rtn; rw [if_pos hro]
    obtain ⟨p1, p2, p3, p4⟩ := rok_range hro
    obtain ⟨p5, p6, p7⟩ := p4 rfl
    have hw1 : ¬ (wish : Int) = 0 := by omega
    have h2' : (wish : Int) % 2 = 0 := by omega
    have HW1 : Hid (wish ≠ 0) := by show _ ≠ _; omega
    have hf1 : rfr low high U wish = true := by unfold rfr; simp [p1, p2, p3]
    have hf2 : rfr low high U (wish + 1) = true := by unfold rfr; simp [p6, p7]; omega
    rw [hrt]
    have HTW := hide (HT.out wish hw)
    have HTX := hide (HT2.out wish (by omega))
    rw [show ((wish + 1 : Nat) : Int) = (wish : Int) + 1 from by omega] at HTX
    have HFX := hide (HF2.out (by omega))
    rw [hf1] at HF
    rw [hf2] at HFX
    clear hf1 hf2 hro hrt HT HL HT2 HF2 p1 p2 p3 p4 p5 p6 p7
    go_enter Tryd.func29, Tryd.ntmps29
    go_wp2_with fail
    refine HF.out.mono ?_
    rintro e w1 ⟨rfl, rfl⟩
    go_wp2_with fail
    refine HFX.out.mono ?_
    rintro e w1 ⟨rfl, rfl⟩
    go_wp2_with fail
    refine HTW.out.mono ?_
    rintro e w2 ⟨⟨u, rfl⟩, ⟨v', hD⟩, hb⟩
    go_wp2_with fail
    refine (HTX.out w2 v' hD).mono ?_
    rintro e w3 ⟨⟨u, rfl⟩, hD3, hb3⟩
    have hbf := hb.trans hb3
    go_wp2_with fail
    refine bodyPost_ret (v := .tuple #[.int .u16 (wish : Int), .int .i64 0]) (by simp [results, Tryd.results29, go_sem]) rfl ?_
    exact .inr ⟨HW1.out, rfl, hD3, hbf⟩
  | false =>
    have hrt : rtn low high U true wish = lst low high U true := by unfold rtn; rw [if_neg (by rw [hro]; simp)]
    rw [hrt]
    have hlr := @lst_rok low high U true
    have hlb : lst low high U true ≠ 0 → lst low high U true + 1 < 65536 := fun h => by have := rok_range (hlr h); have := this.2.2.2 rfl; omega
    have hcase : (¬ wish % 2 = 0) ∨ (wish % 2 = 0 ∧ rfr low high U wish = false) ∨ (wish % 2 = 0 ∧ rfr low high U wish = true ∧ rfr low high U (wish + 1) = false) := by
      unfold rok at hro
      by_cases h2 : wish % 2 = 0
      · cases h3 : rfr low high U wish with
        | false => exact .inr (.inl ⟨h2, rfl⟩)
        | true =>
          rw [h3] at hro
          simp [h2] at hro
          exact .inr (.inr ⟨h2, rfl, hro⟩)
      · exact .inl h2
    clear hro hrt hlr
    generalize lst low high U true = n at *
    go_enter Tryd.func29, Tryd.ntmps29
    rcases hcase with h2 | ⟨h2, h3⟩ | ⟨h2, h3, h4⟩
    case' inl =>
      have h2' : ¬ (wish : Int) % 2 = 0 := by omega
      clear h2
      go_wp2_with fail
      refine HL.out.mono ?_
      rintro e w1 ⟨rfl, rfl⟩
      clear h2'
    case' inr.inl =>
      have h2' : (wish : Int) % 2 = 0 := by omega
      rw [h3] at HF
      clear h2 h3
      go_wp2_with fail
      refine HF.out.mono ?_
      rintro e w1 ⟨rfl, rfl⟩
      go_wp2_with fail
      refine HL.out.mono ?_
      rintro e w1 ⟨rfl, rfl⟩
      clear h2'
    case' inr.inr =>
      have h2' : (wish : Int) % 2 = 0 := by omega
      rw [h3] at HF
      have HFX := hide (HF2.out (by omega))
      rw [h4] at HFX
      clear h2 h3 h4
      go_wp2_with fail
      refine HF.out.mono ?_
      rintro e w1 ⟨rfl, rfl⟩
      go_wp2_with fail
      refine HFX.out.mono ?_
      rintro e w1 ⟨rfl, rfl⟩
      go_wp2_with fail
      refine HL.out.mono ?_
      rintro e w1 ⟨rfl, rfl⟩
      clear h2' HFX
    all_goals
      by_cases hn : n = 0
      · subst hn
        clear hlb HT HT2
        go_wp2_with fail
        refine bodyPost_ret (v := .tuple #[.int .u16 0, .int .i64 9]) (by simp [results, Tryd.results29, go_sem]) rfl ?_
        exact .inl ⟨rfl, rfl, rfl⟩
      · have hn6 := hlb hn
        have hn1 : ¬ (n : Int) = 0 := by omega
        have hn2 : (n : Int) ≤ 65535 := by omega
        have HTW := hide (HT.out n (by omega))
        have HTX := hide (HT2.out n hn6)
        rw [show ((n + 1 : Nat) : Int) = (n : Int) + 1 from by omega] at HTX
        have HN := hide hn
        clear hlb HT HT2 hn hn6
        go_wp2_with fail
        refine HTW.out.mono ?_
        rintro e w2 ⟨⟨u, rfl⟩, ⟨v', hD⟩, hb⟩
        go_wp2_with fail
        refine (HTX.out w2 v' hD).mono ?_
        rintro e w3 ⟨⟨u, rfl⟩, hD3, hb3⟩
        have hbf := hb.trans hb3
        go_wp2_with fail
        refine bodyPost_ret (v := .tuple #[.int .u16 (n : Int), .int .i64 0]) (by simp [results, Tryd.results29, go_sem]) rfl ?_
        exact .inr ⟨HN.out, rfl, hD3, hbf⟩
end Go.Proofs.YtfompbpllndmfaaDoor

/- The document's pool: Give. -/
namespace Go.Proofs.YtfompbpllndmfaaDoor
open Go.RowKit Go.Shelf
set_option maxRecDepth 100000
set_option linter.unusedVariables false
set_option linter.unusedSimpArgs false

/-- What is left when one is given back. -/
def outU (n : Nat) (U : List Nat) : List Nat := U.filter (fun x => !decide (x = n))

set_option maxHeartbeats 4000000 in
theorem rGive8_any (base rb low high : Nat) (v : Value) (U : List Nat) (n : Nat) (w : World) (hT : DP base w rb v low high U) (hn : n < 65536) (hU : U.length ≤ 90000) :
    Calls Tryd.prog 30 #[.pointer (some ⟨rb, 0, none⟩), .int .u16 (n : Int)] w fun e w' => (n ∉ U ∧ e = .returned (.int .i64 11) ∧ w' = w) ∨ (n ∈ U ∧ e = .returned (.int .i64 0) ∧ (∃ v', DP base w' rb v' low high (outU n U)) ∧ But (fun g => g = rb) w w') := by
  have HH := hide (rhas8_any base rb low high v U n w hT hn (by omega))
  obtain ⟨sa, cap, rfl⟩ := hT.slice
  have hrb : rb < w.heap.size := (Array.getElem?_eq_some_iff.1 hT.2.1).1
  have hbb := hT.1
  have HT := hide (fun W (h : Below w.heap.size w W) => hT.later h)
  have hUi : (U.length : Int) ≤ 90000 := by omega
  have hn' : (n : Int) ≤ 65535 := by omega
  clear hT
  by_cases hm : n ∈ U
  · have HM := hide hm
    rw [decide_eq_true hm] at HH
    clear hm
    go_enter Tryd.func30, Tryd.ntmps30
    go_wp2_with fail
    refine HH.out.mono ?_
    rintro e w1 ⟨rfl, rfl⟩
    clear HH
    go_wp2_with fail
    go_loopw [5, 6] (fun l i wr => ∃ (q : Nat) (M : List Nat), q ≤ U.length ∧ i = .int .i64 (q : Int) ∧ wr.ownsRow w1.heap.size 3 1 l M.length (i64s M) ∧ M = outU n (U.take q) ∧ Below w1.heap.size w1 wr) (fun _ i _ => U.length - (intOf i).toNat)
    case atStart => exact ⟨0, [], by omega, rfl, World.ownsRow_nil _ _ _ _, rfl, Below.refl _ _⟩
    case round =>
      obtain ⟨q, M, hq, rfl, hOw, hK, hbw⟩ := hrel
      obtain ⟨sl, cl, rfl⟩ := ownsN_slice hOw
      have hML : M.length ≤ q := by rw [hK]; exact Nat.le_trans (List.length_filter_le _ _) (by simp; omega)
      have k0 := block_cell (HT.out wr hbw).2.1
      have hws := hbw.size
      have HK := hide hK
      have HO := hide hOw
      clear hK hOw
      by_cases hql : q < U.length
      · have hql' : (q : Int) < U.length := by omega
        obtain ⟨g, rfl, hc1, hc2, hcs⟩ := (HT.out wr hbw).cellsU (by omega)
        have d1 := hcs q hql
        clear hcs
        have HE : Hid (U.take (q + 1) = U.take q ++ [U[q]?.getD 0]) := by show _ = _; rw [List.getElem?_eq_getElem hql]; simp
        generalize U[q]?.getD 0 = y at *
        by_cases hy : y = n
        · subst hy
          go_wp2_with fail
          go_roundw
          case rel => exact ⟨q + 1, M, by omega, by go_num, HO.out, by rw [HE.out]; unfold outU; rw [List.filter_append, HK.out]; unfold outU; simp, hbw⟩
          case measure => simp [intOf]; omega
        · have hy' : ¬ (y : Int) = (n : Int) := by omega
          have HY := hide hy
          clear hy
          go_wp2_with (at_builtin; refine wpList_app64 rfl (.tmp 34) (.tmp 42) rfl w1.heap.size _ M y rfl rfl HO.out hws (by omega) ?_; intro g3 cp3 W6 hrow6 hb6)
          go_roundw
          case rel => exact ⟨q + 1, M ++ [y], by omega, by go_num, by simpa using hrow6, by rw [HE.out]; unfold outU; rw [List.filter_append, HK.out]; unfold outU; simp [HY.out], hbw.trans hb6⟩
          case measure => simp [intOf]; omega
      · obtain rfl : q = U.length := by omega
        have fin : ∀ (W : World) (u : Value), Below w1.heap.size w1 W → W.ownsRow w1.heap.size 3 1 u (outU n U).length (i64s (outU n U)) → DP base (W.setCell ⟨rb, 2, none⟩ u) rb u low high (outU n U) ∧ But (fun g => g = rb) w1 (W.setCell ⟨rb, 2, none⟩ u) := fun W u hW hu => by
          refine ⟨⟨hbb, ?_, ?_⟩, But.setCell (E := fun g => g = rb) (But.of (show Later w1 W from hW)) (p := ⟨rb, 2, none⟩) rfl _⟩
          · have := heap_set1 (HT.out W hW).2.1 2 u
            simpa using this
          · refine ownsN_mono (base := w1.heap.size) ?_ (by omega)
            exact ownsM_but hu (But.setCell (E := fun g => g = rb) (But.refl _ W) (p := ⟨rb, 2, none⟩) rfl u) (fun g hg e => by omega)
        have FIN := hide fin
        have F0 := block_frozen (HT.out wr hbw).2.1
        have HK2 : Hid (M = outU n U) := by show _ = _; rw [HK.out, List.take_of_length_le (Nat.le_refl _)]
        clear fin
        go_wp2_with fail
        go_ret
        obtain ⟨f1, f2⟩ := FIN.out wr _ hbw (by have := HO.out; rw [← HK2.out]; exact this)
        exact .inr ⟨HM.out, rfl, ⟨_, f1⟩, f2⟩
  · have HM := hide hm
    rw [decide_eq_false hm] at HH
    clear hm
    go_enter Tryd.func30, Tryd.ntmps30
    go_wp2_with fail
    refine HH.out.mono ?_
    rintro e w1 ⟨rfl, rfl⟩
    clear HH
    go_wp2_with fail
    go_ret
    exact .inl ⟨HM.out, rfl, rfl⟩
end Go.Proofs.YtfompbpllndmfaaDoor

/- Package pool: hasPair; the pairs of a set, one after the other. -/
namespace Go.Proofs.YtfompbpllndmfaaDoor
open Go.RowKit Go.Shelf
set_option maxRecDepth 100000
attribute [local go_sem] Oper.semAt_some
set_option linter.unusedVariables false
set_option linter.unusedSimpArgs false

/-- Is an even number there with the next? -/
def prs (ws : Nat → Nat) (n : Nat) : Bool := decide (n % 2 = 0) && (fr ws n && fr ws (n + 1))

set_option maxHeartbeats 2000000 in
theorem hasPair_any (base b : Nat) (low high : Int) (ws : Nat → Nat) (n : Nat) (w : World) (hT : PB base w b low high ws) (hn : n < 65536) :
    Calls Tryd.prog 25 #[.pointer (some ⟨b, 2, none⟩), .int .u16 (n : Int)] w fun e w' => e = .returned (.bool (prs ws n)) ∧ Later w w' := by
  by_cases h2 : n % 2 = 0
  · have hn1 : n + 1 < 65536 := by omega
    have h2' : (n : Int) % 2 = 0 := by omega
    have hn1' : (n : Int) + 1 < 65536 := by omega
    have HH := hide (has_any base b low high ws n w hT hn)
    cases hf : fr ws n with
    | false =>
      have HV : Hid (prs ws n = false) := by show _ = _; unfold prs; simp [hf]
      rw [hf] at HH
      clear hf h2
      go_enter Tryd.func25, Tryd.ntmps25
      go_wp2_with fail
      refine HH.out.mono ?_
      rintro e w1 ⟨rfl, l1⟩
      go_wp2_with fail
      go_ret
      exact ⟨by rw [HV.out]; rfl, l1⟩
    | true =>
      have HV : Hid (prs ws n = fr ws (n + 1)) := by show _ = _; unfold prs; simp [hf, h2]
      rw [hf] at HH
      have HH2 := hide (fun W (h : Later w W) => has_any base b low high ws (n + 1) W (hT.later h) hn1)
      rw [show ((n + 1 : Nat) : Int) = (n : Int) + 1 from by omega] at HH2
      generalize fr ws (n + 1) = q at *
      clear hf h2
      go_enter Tryd.func25, Tryd.ntmps25
      go_wp2_with fail
      refine HH.out.mono ?_
      rintro e w1 ⟨rfl, l1⟩
      go_wp2_with fail
      refine (HH2.out w1 l1).mono ?_
      rintro e w2 ⟨rfl, l2⟩
      have L2 := l1.trans l2
      go_wp2_with fail
      go_ret
      exact ⟨by rw [HV.out]; rfl, L2⟩
  · have h2' : ¬ (n : Int) % 2 = 0 := by omega
    have HV : Hid (prs ws n = false) := by show _ = _; unfold prs; simp [h2]
    clear h2
    go_enter Tryd.func25, Tryd.ntmps25
    go_wp2_with fail
    go_ret
    exact ⟨by rw [HV.out]; rfl, Later.refl _⟩

/-- What lies below stays, and so do the boxes of sets and of functions. -/
def KY (n₀ : Nat) (A C : World) : Prop := Below n₀ A C ∧ ∀ (k : Nat) (cur : Array Value) (t : TypeId) (f : Nat × Nat), A.heap[k]? = some (.cells cur t f) → t = 62 ∨ t = 32 → C.heap[k]? = some (.cells cur t f)
theorem KY.refl (n₀ : Nat) (A : World) : KY n₀ A A := ⟨Below.refl _ _, fun k cur t f h _ => h⟩
theorem KY.trans {n₀ : Nat} {A C D : World} (h : KY n₀ A C) (k : KY n₀ C D) : KY n₀ A D := ⟨h.1.trans k.1, fun i cur t f hi ht => k.2 i cur t f (h.2 i cur t f hi ht) ht⟩
theorem KY.of {n₀ : Nat} {A C : World} (l : Later A C) (h : n₀ ≤ A.heap.size) : KY n₀ A C := ⟨Below.mono l h, fun k cur t f hk _ => later_keep l hk⟩
theorem KY.put {n₀ m : Nat} (hn : n₀ ≤ m) {W : World} {l : Nat} {o o' : Obj} (hl : m ≤ l) (ho : W.heap[l]? = some o) (hc : o.isCells = false) : KY n₀ W (W.putObj l o') := by
  have hg := grownBy_putObj' W l o'
  refine ⟨⟨hg.os, hg.tape, hg.output, hg.size, fun i hi => hg.block i (by have := (Array.getElem?_eq_some_iff.1 ho).1; omega) (fun e => by cases e; omega)⟩, fun k cur t f hk _ => ?_⟩
  exact (CT.put (o' := o') ho hc).2 _ _ hk rfl

/-- The numbers of a set, where boxes stay by their type. -/
theorem alln_genY (n : Nat) (hn : 2 ≤ n) (B b n₀ base : Nat) (low high : Int) (ws : Nat → Nat) (w : World) (hB : w.heap[B]? = some (.cells #[.pointer (some ⟨b, 2, none⟩)] 62 (0, 0))) (hn0 : n₀ ≤ w.heap.size) (hT : PB base w b low high ws) (hb : b < n₀) (hz : Dz w) (hz0 : 0 < n₀) :
    GenX Fence.wide n Tryd.prog 33 #[.pointer (some ⟨B, 0, none⟩)] encN (KY n₀) (XN ws) (fun xs => xs = els ws) (fun _ => True) w := fun l J Jx W hW hJ hY h0 => by
  have hBW := later_keep hW hB
  refine (alln_in n hn l B b n₀ base low high ws (fun s V => J s V ∧ V.heap[B]? = some (.cells #[.pointer (some ⟨b, 2, none⟩)] 62 (0, 0))) Jx (fun s A C h l => ⟨hJ s A C h.1 l, later_keep l h.2⟩) (fun pre x V hV hX => (hY pre x V hV.1 hX).mono fun e V' h => ?_) W hBW (Nat.le_trans hn0 (Below.size hW)) (hT.later hW) hb (hz.later hW) hz0 ⟨h0, hBW⟩).mono ?_
  · rcases h with ⟨h1, h2, h3⟩ | h
    · have hB' := h3.2 B _ _ _ hV.2 (.inl rfl)
      exact .inl ⟨h1, ⟨h2, hB'⟩, h3.1, fun o ho => by rw [hV.2] at ho; rw [hB']; exact ho⟩
    · exact .inr h
  · rintro e W' ⟨he, ⟨xs, hx, hJx, _⟩ | h⟩
    · exact ⟨he, .inl ⟨xs, hx, hJx⟩⟩
    · exact ⟨he, .inr h⟩

def prl (ws : Nat → Nat) (l : List Nat) : List Nat := l.filter (prs ws)
def XP (ws : Nat → Nat) (pre : List Nat) (x : Nat) (_V : World) : Prop := ∃ rest, pre ++ x :: rest = prl ws (els ws)

end Go.Proofs.YtfompbpllndmfaaDoor

/- A range over a function that ranges over another one itself. -/
namespace Go.Proofs.YtfompbpllndmfaaDoor
open Go.RowKit Go.Shelf
set_option maxRecDepth 100000
set_option linter.unusedVariables false
set_option linter.unusedSimpArgs false

/-- A generator, as GenX; what it is told stays whatever becomes of loops of its own, and a round leaves these. -/
def GenO {α : Type} (F : Fence) (n : Nat) (P : Program) (g : Nat) (lb : Array Value) (encs : α → Array Value) (Kp : World → World → Prop) (X : List α → α → World → Prop) (S Sp : List α → Prop) (w : World) : Prop :=
  ∀ (l : Nat) (J Jx : List α → World → Prop) (W : World), Below w.heap.size w W → (∀ s A B, J s A → Later A B → J s B) → OwnFrom W.heap.size J → OwnFrom W.heap.size Jx →
    (∀ pre x V, J pre V → X pre x V → YieldAt F (n - 1) P l (encs x) V fun e V' => (e = .returned (.bool true) ∧ J (pre ++ [x]) V' ∧ Kp V V' ∧ KeepsFrom W.heap.size V V') ∨ (e = .returned (.bool false) ∧ Jx (pre ++ [x]) V' ∧ KeepsFrom W.heap.size V V')) →
    J [] W → CallsIn F n P g (#[.func (.yield l) #[] #[]] ++ lb) W fun e W' => (∃ v, e = .returned v) ∧ ((∃ xs, S xs ∧ J xs W') ∨ ∃ pre, Sp pre ∧ Jx pre W')

theorem wpIn_rangeO {F : Fence} {n : Nat} {P : Program} {α : Type} {g : Operand} {ps : Array Tmp} {assign body : Code} {Q : Exit → Act → World → Prop} {a : Act} {w : World}
    (hro : F.round = none) (h1 : 1 ≤ n) {gf : Nat} {lb : Array Value} (hg : a.eval g = .func (.func gf) #[] lb) (hFg : F.fn gf) (eg : ∀ args w, (callFunc gf args).run P w = .ok (.enter gf args) w)
    {encs : α → Array Value} {Kp : World → World → Prop} {X : List α → α → World → Prop} {S Sp : List α → Prop} (hseq : GenO F (n - 1) P gf lb encs Kp X S Sp w)
    (hKt : ∀ {A B C : World}, Kp A B → Kp B C → Kp A C) (hKb : ∀ (W : World) (l : Nat) (o o' : Obj), w.heap.size ≤ l → W.heap[l]? = some o → o.isCells = false → o.isWalk = false → Kp W (W.putObj l o'))
    (hKl : ∀ {A B : World}, w.heap.size ≤ A.heap.size → Later A B → Kp A B) (hXl : ∀ pre x A B, X pre x A → Later A B → X pre x B)
    (hXb : ∀ pre x (W : World) (l : Nat) (o o' : Obj), w.heap.size ≤ l → W.heap[l]? = some o → o.isCells = false → X pre x W → X pre x (W.putObj l o')) (hps : ∀ x, (encs x).size = ps.size)
    (I Ix : List α → World → Prop) (hI : OwnFrom w.heap.size I) (hIl : ∀ s A B, I s A → Later A B → I s B) (hIx : OwnFrom w.heap.size Ix) (h0 : I [] w)
    (A : α → Act → World → Prop) (hA : ∀ x a' (W : World) (l : Nat) (o o' : Obj), w.heap.size ≤ l → W.heap[l]? = some o → o.isCells = false → A x a' W → A x a' (W.putObj l o'))
    (hassign : ∀ (l : Nat) (pre : List α) (x : α) (W : World) (K : Act → World → Prop), w.heap.size ≤ W.heap.size → I pre W → X pre x W → (∀ a' W', Later W W' → A x a' W' → K a' W') →
      assign.wpIn (F.inRound l) (n - 1 - 1) P (Exit.then K (fun _ _ _ => False)) { tmps := (ps.zip (encs x)).foldl (fun t (p, v) => t.setIfInBounds p v) a.tmps, defers := [] } W)
    (hbody : ∀ (l : Nat) (pre : List α) (x : α) (a' : Act) (W : World), I pre W → X pre x W → A x a' W → body.wpIn (F.inRound l) (n - 1 - 1) P (postX w.heap.size Kp I Ix (pre ++ [x]) W) a' W)
    (hdone : ∀ (D : Nat) (xs : List α) (W : World), w.heap.size ≤ D → S xs → I xs W → W.heap[D]? = some (.deferred (some [])) → Q .normal { a with defers := { target := .collected D, args := #[] } :: a.defers } W)
    (hstop : ∀ (D : Nat) (pre : List α) (W : World), w.heap.size ≤ D → Sp pre → Ix pre W → W.heap[D]? = some (.deferred (some [])) → Code.ret.wpIn F n P Q { a with defers := { target := .collected D, args := #[] } :: a.defers } W) :
    (Code.rangeFunc g ps assign body).wpIn F n P Q a w := by
  refine wpIn_rangeFunc fun fn hfn => ?_
  rw [hro]
  obtain ⟨rec, hrec⟩ : ∃ rec : LoopState → Option Code → Loop, rec = fun st pe => { state := st, pending := pe, fn, tmps := a.tmps, params := ps, assign, body, defers := w.heap.size } := ⟨_, rfl⟩
  obtain ⟨V, hV⟩ : ∃ V, (w.alloc (.deferred (some []))).alloc (.loop (rec .ready none)) = V := ⟨_, rfl⟩
  have hl : V.heap[w.heap.size + 1]? = some (.loop (rec .ready none)) := by
    have := World.alloc_heap_new (w.alloc (.deferred (some []))) (.loop (rec .ready none))
    rw [World.size_alloc] at this
    rw [← hV]
    exact this
  have hk : V.heap[w.heap.size]? = some (.deferred (some [])) := by
    rw [← hV]
    exact (Below.heap_alloc _ _ _ (by simp)).trans (World.alloc_heap_new w _)
  have hi : I [] V := by rw [← hV]; exact hI.alloc _ (hI.alloc _ h0)
  have hb : Below w.heap.size w V := by rw [← hV]; exact ((Below.refl _ w).alloc (Nat.le_refl _) _).alloc (by simp) _
  have hVs : V.heap.size = w.heap.size + 1 + 1 := by rw [← hV]; simp
  refine ⟨w.heap.size + 1, [{ target := .collected w.heap.size, args := #[] }], V, { target := .fn (.func gf) lb, args := #[.func (.yield (w.heap.size + 1)) #[] #[]] }, V, gf, #[.func (.yield (w.heap.size + 1)) #[] #[]] ++ lb, V, ?_, ?_, ?_, ?_, fun _ => h1, ?_⟩
  · rw [← hV, hrec]; exact run_enterLoop_outer _ _ _ _ _
  · simp only [resolve, hg]
    simp [go_sem]
  · intro f' hf'; simp [Target.leads] at hf'; subst hf'; exact hFg
  · simp [invoke, go_sem, eg]
  refine (hseq (w.heap.size + 1) (fun pre W => I pre W ∧ W.heap[w.heap.size + 1]? = some (.loop (rec .ready none)) ∧ W.heap[w.heap.size]? = some (.deferred (some [])))
    (fun pre W => Ix pre W ∧ W.heap[w.heap.size + 1]? = some (.loop (rec .done (some .ret))) ∧ W.heap[w.heap.size]? = some (.deferred (some []))) V hb
    (fun s A B hs h => ⟨hIl s A B hs.1 h, later_keep h hs.2.1, later_keep h hs.2.2⟩)
    (fun s A B row hs hg hr => ⟨hI s A B row hs.1 hg (fun r e => ⟨by have := (hr r e).1; omega, (hr r e).2⟩), (hg.block _ (Array.getElem?_eq_some_iff.1 hs.2.1).1 (fun e => by have := (hr _ e.symm).1; omega)).trans hs.2.1, (hg.block _ (Array.getElem?_eq_some_iff.1 hs.2.2).1 (fun e => by have := (hr _ e.symm).1; omega)).trans hs.2.2⟩)
    (fun s A B row hs hg hr => ⟨hIx s A B row hs.1 hg (fun r e => ⟨by have := (hr r e).1; omega, (hr r e).2⟩), (hg.block _ (Array.getElem?_eq_some_iff.1 hs.2.1).1 (fun e => by have := (hr _ e.symm).1; omega)).trans hs.2.1, (hg.block _ (Array.getElem?_eq_some_iff.1 hs.2.2).1 (fun e => by have := (hr _ e.symm).1; omega)).trans hs.2.2⟩)
    ?_ ⟨hi, hl, hk⟩).mono ?_
  · rintro pre x W ⟨ji, jl, jk⟩ hx
    have hlt : w.heap.size + 1 < W.heap.size := (Array.getElem?_eq_some_iff.1 jl).1
    have hy := run_yield (P := P) (args := encs x) jl (by rw [hrec]; exact hps x)
    rw [hrec] at hy
    refine ⟨fn, _, assign, body, hy, roundIn_of_wpIn hfn (hassign _ pre x W _ (by omega) ji hx fun a' W' hL hAx => ?_)⟩
    have pL : Kp W W' := hKl (by omega) hL
    have kf1 : KeepsFrom V.heap.size W W' := ⟨Below.size hL, fun i o hi ho hc => later_keep hL ho⟩
    replace ji := hIl _ _ _ ji hL
    replace jl := later_keep hL jl
    replace jk := later_keep hL jk
    replace hx := hXl _ _ _ _ hx hL
    replace hlt : w.heap.size + 1 < W'.heap.size := (Array.getElem?_eq_some_iff.1 jl).1
    refine ⟨_, run_beginRound jl (by rw [hrec]), ?_⟩
    obtain ⟨U, hU⟩ : ∃ U, W'.putObj (w.heap.size + 1) (.loop { rec .ready none with state := .busy }) = U := ⟨_, rfl⟩
    have l2 : U.heap[w.heap.size + 1]? = some (.loop { rec .ready none with state := .busy }) := by rw [← hU]; exact World.putObj_heap_same hlt
    have k2 : U.heap[w.heap.size]? = some (.deferred (some [])) := by rw [← hU]; exact (World.putObj_heap_other (by omega)).trans jk
    have kf2 : KeepsFrom V.heap.size W U := ⟨Nat.le_trans kf1.size (by rw [← hU]; exact (grownBy_putObj' W' _ _).size), fun i o hi ho hc => by rw [← hU]; exact (World.putObj_heap_other (by omega)).trans (kf1.same i o hi ho hc)⟩
    have p2 : Kp W U := by rw [← hU]; exact hKt pL (hKb _ _ _ _ (by omega) jl rfl rfl)
    have a2 : A x a' U := by rw [← hU]; exact hA _ _ _ _ _ _ (by omega) jl rfl hAx
    have i2 : I pre U := by rw [← hU]; exact hI.putObj _ ji (by omega) jl rfl
    have x2 : X pre x U := by rw [← hU]; exact hXb _ _ _ _ _ _ (by omega) jl rfl hx
    rw [hU]
    refine wpIn_mono (hbody _ pre x a' U i2 x2 a2) ?_
    have fin : ∀ (jump : Option Code) (Z : World), KeepsFrom w.heap.size U Z →
        (Instr.endRound (w.heap.size + 1) jump).run P Z = .ok (.bool jump.isNone) (Z.putObj (w.heap.size + 1) (.loop (rec (if jump.isNone then .ready else .done) jump))) ∧ Z.heap[w.heap.size + 1]? = some (.loop { rec .ready none with state := .busy }) ∧
        (Z.putObj (w.heap.size + 1) (.loop (rec (if jump.isNone then .ready else .done) jump))).heap[w.heap.size + 1]? = some (.loop (rec (if jump.isNone then .ready else .done) jump)) ∧
        (Z.putObj (w.heap.size + 1) (.loop (rec (if jump.isNone then .ready else .done) jump))).heap[w.heap.size]? = some (.deferred (some [])) := fun jump Z hZ => by
      have l3 := hZ.same _ _ (by omega) l2 rfl
      have r3 := run_endRound (P := P) jump l3
      rw [hrec] at r3 ⊢
      exact ⟨r3, by rw [hrec] at l3; exact l3, World.putObj_heap_same (Array.getElem?_eq_some_iff.1 l3).1, (World.putObj_heap_other (by omega)).trans (hZ.same _ _ (Nat.le_refl _) k2 rfl)⟩
    have kfin : ∀ (o' : Obj) (Z : World), KeepsFrom w.heap.size U Z → KeepsFrom V.heap.size W (Z.putObj (w.heap.size + 1) o') := fun o' Z hZ => ⟨Nat.le_trans kf2.size (Nat.le_trans hZ.size (grownBy_putObj' Z _ _).size), fun i o hi ho hc => (World.putObj_heap_other (by omega)).trans (hZ.same i o (by omega) (kf2.same i o hi ho hc) hc)⟩
    rintro e a3 Z hp
    cases e with
    | normal =>
      obtain ⟨hZ, hp3, hi3⟩ := hp
      obtain ⟨hr, l3, l4, k4⟩ := fin none Z hZ
      exact ⟨_, _, hr, .inl ⟨rfl, ⟨hI.putObj _ hi3 (by omega) l3 rfl, l4, k4⟩, hKt (hKt p2 hp3) (hKb _ _ _ _ (by omega) l3 rfl rfl), kfin _ Z hZ⟩⟩
    | ret =>
      obtain ⟨hZ, hi3⟩ := hp
      obtain ⟨hr, l3, l4, k4⟩ := fin (some .ret) Z hZ
      exact ⟨_, _, hr, .inr ⟨rfl, ⟨hIx.putObj _ hi3 (by omega) l3 rfl, l4, k4⟩, kfin _ Z hZ⟩⟩
    | exit id => exact hp.elim
    | goto t => exact hp.elim
    | panic ch => exact hp.elim
    | outgrown => exact hp.elim
  · rintro e W2 ⟨⟨v, rfl⟩, (⟨xs, hS, ji, jl, jk⟩ | ⟨pre, hSp, ji, jl, jk⟩)⟩
    · exact ⟨none, _, by have := run_endLoop (P := P) jl (by rw [hrec]; simp); rw [hrec] at this; exact this, hdone _ xs _ (Nat.le_refl _) hS (hI.putObj _ ji (by omega) jl rfl) ((World.putObj_heap_other (by omega)).trans jk)⟩
    · exact ⟨some .ret, _, by have := run_endLoop (P := P) jl (by rw [hrec]; simp); rw [hrec] at this; exact this, hstop _ pre _ (Nat.le_refl _) hSp (hIx.putObj _ ji (by omega) jl rfl) ((World.putObj_heap_other (by omega)).trans jk)⟩
end Go.Proofs.YtfompbpllndmfaaDoor

/- Package pool: the pairs of a set, one after the other. -/
namespace Go.Proofs.YtfompbpllndmfaaDoor
open Go.RowKit Go.Shelf
set_option maxRecDepth 100000
attribute [local go_sem] Oper.semAt_some
set_option linter.unusedVariables false
set_option linter.unusedSimpArgs false

theorem KY.row {n₀ m : Nat} {A C : World} {row : Option Nat} (hn : n₀ ≤ m) (hsz : n₀ ≤ A.heap.size) (hg : A.grownBy C row) (hr : ∀ r, row = some r → m ≤ r ∧ ∃ o : Obj, A.heap[r]? = some o ∧ o.isCells = false) : KY n₀ A C :=
  ⟨⟨hg.os, hg.tape, hg.output, hg.size, fun i hi => hg.block i (by omega) (fun e => by have := (hr i e.symm).1; omega)⟩, fun k cur t f hk _ => (CT.row hg (fun r e => (hr r e).2)).2 _ _ hk rfl⟩

theorem round_any {m m' l l' : Nat} {P : Program} {f : FuncId} {tmps : Array Value} {assign body : Code} {w : World} {R : Ending → World → Prop}
    (h : RoundIn Fence.wide m P l f tmps assign body w R) : RoundIn (Fence.wide.inRound l') m' P l f tmps assign body w R := ⟨h.1, fun c cs _ => h.2 c cs (fun d h => by cases h)⟩

theorem prl_snoc_yes {ws : Nat → Nat} {pre : List Nat} {x : Nat} (h : prs ws x = true) : prl ws (pre ++ [x]) = prl ws pre ++ [x] := by unfold prl; simp [h]
theorem prl_snoc_no {ws : Nat → Nat} {pre : List Nat} {x : Nat} (h : prs ws x = false) : prl ws (pre ++ [x]) = prl ws pre := by unfold prl; simp [h]
set_option maxRecDepth 100000 in
set_option maxHeartbeats 2000000 in
theorem pairs_in (l B b n₀ base : Nat) (low high : Int) (ws : Nat → Nat) (J Jx : List Nat → World → Prop) (W : World)
    (hJ : ∀ s A B, J s A → Later A B → J s B) (hJo : OwnFrom W.heap.size J) (hJx : OwnFrom W.heap.size Jx)
    (hY : ∀ pre x V, J pre V → XP ws pre x V → YieldAt Fence.wide 3 Tryd.prog l (encN x) V fun e V' => (e = .returned (.bool true) ∧ J (pre ++ [x]) V' ∧ KY n₀ V V' ∧ KeepsFrom W.heap.size V V') ∨ (e = .returned (.bool false) ∧ Jx (pre ++ [x]) V' ∧ KeepsFrom W.heap.size V V'))
    (hB : W.heap[B]? = some (.cells #[.pointer (some ⟨b, 2, none⟩)] 62 (0, 0))) (hn0 : n₀ ≤ W.heap.size) (hT : PB base W b low high ws) (hb : b < n₀) (hz : Dz W) (hz0 : 0 < n₀) (h0 : J [] W) :
    CallsIn Fence.wide 4 Tryd.prog 36 #[.func (.yield l) #[] #[], .pointer (some ⟨B, 0, none⟩)] W fun e W' => (∃ v, e = .returned v) ∧ ((∃ xs, xs = prl ws (els ws) ∧ J xs W') ∨ (∃ pre, True ∧ Jx pre W')) := by
  have la1 : Later W (W.alloc (.cells #[.func (.yield l) #[] #[]] 32)) := (Below.refl _ _).alloc (Nat.le_refl _) _
  have hBc := block_cell (later_keep la1 hB)
  have hb4 : Later W ((W.alloc (.cells #[.func (.yield l) #[] #[]] 32)).alloc (.cells #[.pointer (some ⟨b, 2, none⟩)] 62)) := ((Below.refl _ _).alloc (Nat.le_refl _) _).alloc (by simp) _
  have c0 : ((W.alloc (.cells #[.func (.yield l) #[] #[]] 32)).alloc (.cells #[.pointer (some ⟨b, 2, none⟩)] 62)).heap[W.heap.size]? = some (.cells #[.func (.yield l) #[] #[]] 32) := (Below.heap_alloc _ _ _ (by simp)).trans (heap_alloc_new W _)
  have c1 : ((W.alloc (.cells #[.func (.yield l) #[] #[]] 32)).alloc (.cells #[.pointer (some ⟨b, 2, none⟩)] 62)).heap[W.heap.size + 1]? = some (.cells #[.pointer (some ⟨b, 2, none⟩)] 62) := by
    have := heap_alloc_new (W.alloc (.cells #[.func (.yield l) #[] #[]] 32)) (.cells #[.pointer (some ⟨b, 2, none⟩)] 62)
    rw [World.size_alloc] at this
    exact this
  have hs4 : ((W.alloc (.cells #[.func (.yield l) #[] #[]] 32)).alloc (.cells #[.pointer (some ⟨b, 2, none⟩)] 62)).heap.size = W.heap.size + 1 + 1 := by simp
  have C0 := hide c0
  have C1 := hide c1
  have HS4 := hide hs4
  clear c0 c1 hs4
  refine callsIn_of_wp_marks Tryd.func36 rfl trivial ?_ rfl
  simp only [Tryd.ntmps36, List.size_toArray, List.length_cons, List.length_nil, Nat.reduceAdd, Nat.reduceSub, Array.replicate_succ, Array.replicate_zero, List.push_toArray, List.append_toArray, List.nil_append, List.cons_append]
  gi_wp2_with (refine ⟨trivial, ?_⟩; gi_at_call 22; refine (callsIn_wide.2 (all8_in _ _)).mono ?_; rintro e w' ⟨rfl, rfl⟩)
  generalize ((W.alloc (.cells #[.func (.yield l) #[] #[]] 32)).alloc (.cells #[.pointer (some ⟨b, 2, none⟩)] 62)) = w4 at *
  have hs4 : w4.heap.size = W.heap.size + 1 + 1 := HS4.out
  have hT4 := hT.later hb4
  have hz4 := hz.later hb4
  clear hBc la1
  refine wpIn_rangeX (w := w4) rfl (by omega) (gf := 33) (lb := #[.pointer (some ⟨W.heap.size + 1, 0, none⟩)]) rfl trivial (enters_of Tryd.func33 (by kernel_rfl) rfl)
    (alln_genY 3 (by omega) (W.heap.size + 1) b n₀ base low high ws w4 C1.out (by omega) hT4 hb hz4 hz0)
    (fun h k => h.trans k) (fun V l o o' hl ho hc hw => KY.put (m := w4.heap.size) (by omega) hl ho hc) (fun hA hL => KY.of hL (by omega)) (fun _ _ _ _ h _ => h) (fun _ _ _ _ _ _ _ _ _ h => h) (fun _ => rfl)
    (fun pre V => J (prl ws pre) V ∧ KY n₀ W V ∧ V.heap[W.heap.size]? = some (.cells #[.func (.yield l) #[] #[]] 32 (0, 0)) ∧ V.heap[B]? = some (.cells #[.pointer (some ⟨b, 2, none⟩)] 62 (0, 0))) (fun pre V => ∃ p, Jx p V)
    ?own1 (fun s A C h l => ⟨hJ _ _ _ h.1 l, h.2.1.trans (KY.of l (by have := h.2.1.1.size; omega)), later_keep l h.2.2.1, later_keep l h.2.2.2⟩) ?own2 ⟨hJ _ _ _ h0 hb4, KY.of hb4 hn0, C0.out, later_keep hb4 hB⟩
    (fun x a' V => a' = { tmps := #[.func (.yield l) #[] #[], .pointer (some ⟨B, 0, none⟩), .pointer (some ⟨W.heap.size, 0, none⟩), .int .u16 (x : Int), .pointer (some ⟨b, 2, none⟩), .func (.func 33) #[] #[.pointer (some ⟨W.heap.size + 1, 0, none⟩)], .int .u16 (x : Int), undef, undef, undef, undef, undef, undef, undef, undef, undef], defers := [] })
    (fun x a' W l o o' hl ho hc h => h) ?assign ?body ?done ?stop
  case own1 =>
    rintro s A C row ⟨h1, h2, h3, h4⟩ hg hr
    have hsz := h2.1.size
    have hk := KY.row (n₀ := n₀) (m := w4.heap.size) (by omega) (by omega) hg hr
    exact ⟨hJo _ _ _ row h1 hg (fun r e => ⟨by have := (hr r e).1; omega, (hr r e).2⟩), h2.trans hk, hk.2 _ _ _ _ h3 (.inr rfl), hk.2 _ _ _ _ h4 (.inl rfl)⟩
  case own2 =>
    rintro s A C row ⟨p, h1⟩ hg hr
    exact ⟨p, hJx _ _ _ row h1 hg (fun r e => ⟨by have := (hr r e).1; omega, (hr r e).2⟩)⟩
  case assign =>
    rintro l pre x W K hsz _ hX hK
    dsimp only [encN]
    gi_wp2
    exact hK _ _ (Later.refl _) rfl
  case body =>
    rintro l2 pre x a' V ⟨h1, h2, h3, h4⟩ hX rfl
    have hTV : PB base V b low high ws := ⟨hT.1, hT.2.1, (h2.1.block b hb).trans hT.2.2⟩
    obtain ⟨rest, hR⟩ := hX
    have hxm : x < 65536 := els_lt (ws := ws) (by rw [← hR]; simp)
    have HP := hide (((callsIn_wide (n := 1)).2 (hasPair_any base b low high ws x V hTV hxm)).inRound l2)
    have K3 := block_cell h3
    have K4 := block_cell h4
    have hvs := h2.1.size
    have kl : ∀ V', Later V V' → KeepsFrom w4.heap.size V V' := fun V' hL => ⟨Below.size hL, fun i o hi ho hc => later_keep hL ho⟩
    cases hp : prs ws x with
    | false =>
      rw [hp] at HP
      gi_wp2
      refine ⟨trivial, HP.out.mono ?_⟩
      rintro e V1 ⟨rfl, l1⟩
      gi_wp2
      refine ⟨fun f h => (by cases h), ?_⟩
      gi_wp2
      exact ⟨kl _ l1, KY.of l1 (by omega), by rw [prl_snoc_no hp]; exact hJ _ _ _ h1 l1, h2.trans (KY.of l1 (by omega)), later_keep l1 h3, later_keep l1 h4⟩
    | true =>
      rw [hp] at HP
      have hXP : XP ws (prl ws pre) x V := ⟨prl ws rest, by rw [← hR]; unfold prl; simp [hp]⟩
      gi_wp2
      refine ⟨trivial, HP.out.mono ?_⟩
      rintro e V1 ⟨rfl, l1⟩
      have K3 := block_cell (later_keep l1 h3)
      obtain ⟨fn, tmps, assign, body, hy, hRd⟩ := hY _ _ V1 (hJ _ _ _ h1 l1) hXP
      dsimp only [encN] at hy
      have HR := hide (round_any (m' := 1) (l' := l2) hRd)
      clear hRd
      gi_wp2
      refine HR.out.mono ?_
      rintro e V2 (⟨rfl, j2, k2, f2⟩ | ⟨rfl, j2, f2⟩)
      · gi_wp2
        have kk : KY n₀ V V2 := (KY.of l1 (by omega)).trans k2
        exact ⟨⟨Nat.le_trans (Below.size l1) f2.size, fun i o hi ho hc => f2.same i o (by omega) (later_keep l1 ho) hc⟩, kk, by rw [prl_snoc_yes hp]; exact j2, h2.trans kk, kk.2 _ _ _ _ h3 (.inr rfl), kk.2 _ _ _ _ h4 (.inl rfl)⟩
      · gi_wp2
        exact ⟨⟨Nat.le_trans (Below.size l1) f2.size, fun i o hi ho hc => f2.same i o (by omega) (later_keep l1 ho) hc⟩, _, j2⟩
  case done =>
    rintro D xs V hD rfl ⟨h1, h2, h3, h4⟩ hK
    gi_wp2
    refine ⟨by simp, .inl ⟨_, _, rfl, run_takeDeferred hK, ?_⟩⟩
    exact ⟨.tuple #[], results_none rfl _ _ _, ⟨_, rfl⟩, .inl ⟨_, rfl, hJo.putObj _ h1 (by omega) hK rfl⟩⟩
  case stop =>
    rintro D pre V hD hSp ⟨p, h1⟩ hK
    gi_wp2
    refine ⟨by simp, .inl ⟨_, _, rfl, run_takeDeferred hK, ?_⟩⟩
    exact ⟨.tuple #[], results_none rfl _ _ _, ⟨_, rfl⟩, .inr ⟨p, trivial, hJx.putObj _ h1 (by omega) hK rfl⟩⟩

theorem pairs_gen (B b n₀ base : Nat) (low high : Int) (ws : Nat → Nat) (w : World) (hB : w.heap[B]? = some (.cells #[.pointer (some ⟨b, 2, none⟩)] 62 (0, 0))) (hn0 : n₀ ≤ w.heap.size) (hT : PB base w b low high ws) (hb : b < n₀) (hz : Dz w) (hz0 : 0 < n₀) :
    GenO Fence.wide 4 Tryd.prog 36 #[.pointer (some ⟨B, 0, none⟩)] encN (KY n₀) (XL (prl ws (els ws))) (fun xs => xs = prl ws (els ws)) (fun _ => True) w := fun l J Jx W hW hJ hJo hJx hY h0 =>
  pairs_in l B b n₀ base low high ws J Jx W hJ hJo hJx hY (later_keep hW hB) (Nat.le_trans hn0 (Below.size hW)) (hT.later hW) hb (hz.later hW) hz0 h0

set_option maxRecDepth 100000 in
set_option maxHeartbeats 4000000 in
theorem first8_o (wish cf gf : Nat) (pb : Value) (lb : Array Value) (q : Bool) (L : List Nat) (Kp : World → World → Prop) (w : World) (eg : ∀ args w, (callFunc cf args).run Tryd.prog w = .ok (.enter cf args) w) (egf : ∀ args w, (callFunc gf args).run Tryd.prog w = .ok (.enter gf args) w)
    (hq : ∀ W, Later w W → Calls Tryd.prog cf #[pb, .int .u16 (wish : Int)] W fun e W' => e = .returned (.bool q) ∧ Later W W')
    (hgen : ∀ w4, Later w w4 → GenO Fence.wide 4 Tryd.prog gf lb encN Kp (XL L) (fun xs => xs = L) (fun _ => True) w4)
    (hKt : ∀ {A B C : World}, Kp A B → Kp B C → Kp A C) (hKb : ∀ (w4 W : World) (l : Nat) (o o' : Obj), Later w w4 → w4.heap.size ≤ l → W.heap[l]? = some o → o.isCells = false → o.isWalk = false → Kp W (W.putObj l o'))
    (hKl : ∀ {w4 A B : World}, Later w w4 → w4.heap.size ≤ A.heap.size → Later A B → Kp A B) :
    Calls Tryd.prog 20 #[.int .u16 (wish : Int), .func (.func cf) #[pb] #[], .func (.func gf) #[] lb] w fun e w' => e = .returned (.tuple #[.int .u16 (fsn q wish L : Nat), .bool (fsb q L)]) ∧ Later w w' := by
  refine (callsIn_wide (n := 5)).1 ?_
  refine callsIn_of_wp_marks Tryd.func20 rfl trivial ?_ rfl
  simp only [Tryd.ntmps20, List.size_toArray, List.length_cons, List.length_nil, Nat.reduceAdd, Nat.reduceSub, Array.replicate_succ, Array.replicate_zero, List.push_toArray, List.append_toArray, List.nil_append, List.cons_append]
  have hb2 : Later w ((w.alloc (.cells #[.int .u16 0] 22)).alloc (.cells #[.bool false] 4)) := ((Below.refl _ _).alloc (Nat.le_refl _) _).alloc (by simp) _
  have c0 : ((w.alloc (.cells #[.int .u16 0] 22)).alloc (.cells #[.bool false] 4)).heap[w.heap.size]? = some (.cells #[.int .u16 0] 22) := (Below.heap_alloc _ _ _ (by simp)).trans (heap_alloc_new w _)
  have c1 : ((w.alloc (.cells #[.int .u16 0] 22)).alloc (.cells #[.bool false] 4)).heap[w.heap.size + 1]? = some (.cells #[.bool false] 4) := by
    have := heap_alloc_new (w.alloc (.cells #[.int .u16 0] 22)) (.cells #[.bool false] 4)
    rw [World.size_alloc] at this
    exact this
  have C0 := hide c0
  have C1 := hide c1
  have HQ := hide hq
  have HEG := hide eg
  clear c0 c1 hq eg
  gi_wp2
  refine ⟨trivial, ?_⟩
  rw [HEG.out]
  simp only [Oper.uponIn]
  generalize hw2 : (w.alloc (.cells #[.int .u16 0] 22)).alloc (.cells #[.bool false] 4) = w2 at *
  clear hw2
  refine ⟨fun _ => by omega, (callsIn_wide.2 (HQ.out w2 hb2)).mono ?_⟩
  rintro e w4 ⟨rfl, l4⟩
  have hb4 : Later w w4 := hb2.trans l4
  have d0 := later_keep l4 C0.out
  have d1 := later_keep l4 C1.out
  have hs4 : w.heap.size + 1 + 1 ≤ w4.heap.size := by have := (Array.getElem?_eq_some_iff.1 d1).1; omega
  cases q with
  | true =>
    have K0 := block_cell d0
    have K1 := block_cell d1
    have F0 := block_frozen d0
    have F1 := block_frozen d1
    gi_wp2
    obtain ⟨v0, v1, hb5⟩ := set_two d0 d1 (wish : Int) true
    generalize (w4.setCell ⟨w.heap.size, 0, none⟩ (.int .u16 (wish : Int))).setCell ⟨w.heap.size + 1, 0, none⟩ (.bool true) = V at *
    have k2 := block_cell v0
    have k3 := block_cell v1
    exact ⟨.tuple #[.int .u16 (wish : Int), .bool true], by simp [results, Tryd.results20, go_sem, k2, k3], rfl, Below.trans hb4 (hb5.below hb4.size (fun k hk e => by omega))⟩
  | false =>
    gi_wp2
    refine wpIn_rangeO (w := w4) rfl (by omega) (gf := gf) (lb := lb) rfl trivial egf (hgen w4 hb4) hKt (fun W l o o' hl ho hc hw => hKb w4 W l o o' hb4 hl ho hc hw) (fun hA hL => hKl hb4 hA hL) (fun _ _ _ _ h _ => h) (fun _ _ _ _ _ _ _ _ _ h => h) (fun _ => rfl)
      (fun pre W => PF0 w.heap.size pre W ∧ Below w.heap.size w W) (fun pre W => PF1 w.heap.size L pre W ∧ Below w.heap.size w W)
      (OwnFrom.and (fun s A B row hs hg hr => hs.ct (CT.row hg (fun r e => (hr r e).2))) (ownFrom_below (Nat.le_refl _) (by omega)))
      (fun s A B h l => ⟨h.1.ct (CT.of l), h.2.trans (l.mono h.2.size)⟩)
      (OwnFrom.and (fun s A B row hs hg hr => hs.ct (CT.row hg (fun r e => (hr r e).2))) (ownFrom_below (Nat.le_refl _) (by omega)))
      ⟨⟨rfl, d0, d1⟩, hb4⟩
      (fun x a' W => a' = { tmps := #[.int .u16 (wish : Int), .func (.func cf) #[pb] #[], .func (.func gf) #[] lb, undef, undef, undef, .pointer (some ⟨w.heap.size, 0, none⟩), .pointer (some ⟨w.heap.size + 1, 0, none⟩), .int .u16 (x : Int), .func (.func cf) #[pb] #[], .int .u16 (wish : Int), .bool false, undef, .func (.func gf) #[] lb, .int .u16 (x : Int), undef], defers := [] })
      (fun x a' W l o o' hl ho hc h => h) ?assign ?body ?done ?stop
    case assign =>
      rintro l pre x W K hsz _ hX hK
      dsimp only [encN]
      gi_wp2
      exact hK _ _ (Later.refl _) rfl
    case body =>
      rintro l pre x a' W ⟨⟨rfl, h0, h1⟩, hbW⟩ hX rfl
      obtain ⟨rest, hL⟩ := hX
      have K0 := block_cell h0
      have K1 := block_cell h1
      have F0 := block_frozen h0
      have F1 := block_frozen h1
      have hbsz := hbW.size
      gi_wp2
      obtain ⟨v0, v1, hb5⟩ := set_two h0 h1 (x : Int) true
      generalize (W.setCell ⟨w.heap.size, 0, none⟩ (.int .u16 (x : Int))).setCell ⟨w.heap.size + 1, 0, none⟩ (.bool true) = V at *
      exact ⟨⟨hb5.size, fun i o hi ho hc => (hb5.block i (Array.getElem?_eq_some_iff.1 ho).1 (by omega)).trans ho⟩, ⟨x, rest, rfl, hL.symm, v0, v1⟩, hbW.trans (hb5.below hbsz (fun k hk e => by omega))⟩
    case done =>
      rintro D xs W hD rfl ⟨⟨hx, h0, h1⟩, hbW⟩ hK
      subst hx
      have K0 := block_cell h0
      have K1 := block_cell h1
      have F0 := block_frozen h0
      have F1 := block_frozen h1
      have hbsz := hbW.size
      gi_wp2
      obtain ⟨v0, v1, hb5⟩ := set_two h0 h1 0 false
      have hD5 := (hb5.block D (Array.getElem?_eq_some_iff.1 hK).1 (by omega)).trans hK
      generalize (W.setCell ⟨w.heap.size, 0, none⟩ (.int .u16 0)).setCell ⟨w.heap.size + 1, 0, none⟩ (.bool false) = V at *
      exact first_end w.heap.size D 0 false V w (by omega) (hbW.trans (hb5.below hbsz (fun k hk e => by omega))) v0 v1 hD5 (Nat.le_refl _) _ _ _ _ _ _ _ _ _ _ _ _ _ _
    case stop =>
      rintro D pre W hD hSp ⟨⟨x, rest, rfl, hL, h0, h1⟩, hbW⟩ hK
      subst hL
      gi_wp2
      exact first_end w.heap.size D (x : Int) true W w (by omega) hbW h0 h1 hK (Nat.le_refl _) _ _ _ _ _ _ _ _ _ _ _ _ _ _
end Go.Proofs.YtfompbpllndmfaaDoor

/- Package pool: Pair. -/
namespace Go.Proofs.YtfompbpllndmfaaDoor
open Go.RowKit Go.Shelf
set_option maxRecDepth 100000
set_option linter.unusedVariables false
set_option linter.unusedSimpArgs false

theorem pairs8_in (b : Nat) (w : World) : Calls Tryd.prog 26 #[.pointer (some ⟨b, 2, none⟩)] w fun e w' => e = .returned (.func (.func 36) #[] #[.pointer (some ⟨w.heap.size, 0, none⟩)]) ∧ w' = w.alloc (.cells #[.pointer (some ⟨b, 2, none⟩)] 62) := by
  go_enter Tryd.func26, Tryd.ntmps26
  go_wp2_with fail
  go_ret
  exact ⟨rfl, rfl⟩

/-- How Pair leaves a pool. -/
def tkQ (base : Nat) (W' : World) (b low high : Nat) (ws : Nat → Nat) (q : Bool) (L : List Nat) (n : Nat) : Prop := (fsb q L = false ∧ PB base W' b (low : Int) (high : Int) ws) ∨ (fsb q L = true ∧ PB base W' b (low : Int) (high : Int) (wsR (wsR ws n) (n + 1)))

theorem pair_lim {ws : Nat → Nat} {wish : Nat} (hw : wish < 65536) (h : fsb (prs ws wish) (prl ws (els ws)) = true) : fsn (prs ws wish) wish (prl ws (els ws)) < 65536 ∧ fsn (prs ws wish) wish (prl ws (els ws)) % 2 = 0 := by
  unfold fsb at h
  unfold fsn
  cases hq : prs ws wish with
  | true =>
    unfold prs at hq
    simp at hq
    exact ⟨by simpa using hw, by simpa using hq.1⟩
  | false =>
    rw [hq] at h
    cases hL : prl ws (els ws) with
    | nil => rw [hL] at h; simp at h
    | cons x L =>
      have hx : x ∈ prl ws (els ws) := by rw [hL]; simp
      unfold prl at hx
      obtain ⟨h1, h2⟩ := List.mem_filter.1 hx
      unfold prs at h2
      simp at h2
      exact ⟨by simpa using els_lt h1, by simpa using h2.1⟩

set_option maxHeartbeats 4000000 in
theorem pair8_any (base b low high : Nat) (ws : Nat → Nat) (wish : Nat) (w : World) (hT : PB base w b (low : Int) (high : Int) ws) (hw : wish < 65536) (hz : Dz w) :
    Calls Tryd.prog 14 #[.pointer (some ⟨b, 0, none⟩), .int .u16 (wish : Int)] w fun e w' => e = .returned (.tuple #[.int .u16 (fsn (prs ws wish) wish (prl ws (els ws)) : Nat), .int .i64 (tke (prs ws wish) (prl ws (els ws)))]) ∧ tkQ base w' b low high ws (prs ws wish) (prl ws (els ws)) (fsn (prs ws wish) wish (prl ws (els ws))) ∧ But (fun g => g = b) w w' := by
  go_enter Tryd.func14, Tryd.ntmps14
  go_upto_region 3 with fail
  refine anyT_begin (R := But (fun _ => False)) 15 rfl (by kernel_rfl) ?_
  have ld : Later w w.drew := Later.drew w
  have hTd := hT.later ld
  have hzd := hz.later ld
  generalize w.drew = Wd at *
  refine anyT_val (But.pre _) 0 rfl (by kernel_rfl) (by kernel_rfl) (by kernel_rfl) (fun _ _ _ _ h => h) rfl ?_; apply Exists.intro; refine ⟨fun v1 hv1 => ?_, ?_⟩; (· (go_simp; rfl)); simp only [Act.put, List.setIfInBounds_toArray, List.set_cons_zero, List.set_cons_succ]
  refine anyT_val (But.pre _) 1 rfl (by kernel_rfl) (by kernel_rfl) (by kernel_rfl) (fun _ _ _ _ h => h) rfl ?_; apply Exists.intro; refine ⟨fun v1 hv1 => ?_, ?_⟩; (· (go_simp; rfl)); simp only [Act.put, List.setIfInBounds_toArray, List.set_cons_zero, List.set_cons_succ]
  refine anyT_val (But.pre _) 2 rfl (by kernel_rfl) (by kernel_rfl) (by kernel_rfl) (fun _ _ _ _ h => h) rfl ?_; apply Exists.intro; refine ⟨fun v1 hv1 => ?_, ?_⟩; (· (go_simp; rfl)); simp only [Act.put, List.setIfInBounds_toArray, List.set_cons_zero, List.set_cons_succ]
  refine anyT_val (But.pre _) 3 rfl (by kernel_rfl) (by kernel_rfl) (by kernel_rfl) (fun _ _ _ _ h => h) rfl ?_; apply Exists.intro; refine ⟨fun v1 hv1 => ?_, ?_⟩; (· (go_simp; rfl)); simp only [Act.put, List.setIfInBounds_toArray, List.set_cons_zero, List.set_cons_succ]
  refine anyT_val (But.pre _) 4 rfl (by kernel_rfl) (by kernel_rfl) (by kernel_rfl) (fun _ _ _ _ h => h) rfl ?_; apply Exists.intro; refine ⟨fun v1 hv1 => ?_, ?_⟩; (· (go_simp; rfl)); simp only [Act.put, List.setIfInBounds_toArray, List.set_cons_zero, List.set_cons_succ]
  refine anyT_val (But.pre _) 5 rfl (by kernel_rfl) (by kernel_rfl) (by kernel_rfl) (fun _ _ _ _ h => h) rfl ?_; apply Exists.intro; refine ⟨fun v1 hv1 => ?_, ?_⟩; (· (go_simp; rfl)); simp only [Act.put, List.setIfInBounds_toArray, List.set_cons_zero, List.set_cons_succ]
  refine anyT_val (But.pre _) 6 rfl (by kernel_rfl) (by kernel_rfl) (by kernel_rfl) (fun _ _ _ _ h => h) rfl ?_; apply Exists.intro; refine ⟨fun v1 hv1 => ?_, ?_⟩; (· (go_simp; rfl)); simp only [Act.put, List.setIfInBounds_toArray, List.set_cons_zero, List.set_cons_succ]
  refine anyT_val (But.pre _) 7 rfl (by kernel_rfl) (by kernel_rfl) (by kernel_rfl) (fun _ _ _ _ h => h) rfl ?_; apply Exists.intro; refine ⟨fun v1 hv1 => ?_, ?_⟩; (· (go_simp; rfl)); simp only [Act.put, List.setIfInBounds_toArray, List.set_cons_zero, List.set_cons_succ]
  refine anyT_one 8 rfl (by kernel_rfl) rfl ?_
  refine wp_enter 26 #[.pointer (some ⟨b, 2, none⟩)] (by go_simp) ?_
  refine (pairs8_in b Wd).mono ?_
  rintro e W1 ⟨rfl, hW1⟩
  have la : Later Wd W1 := by rw [hW1]; exact (Below.refl _ _).alloc (Nat.le_refl _) _
  have hbx : W1.heap[Wd.heap.size]? = some (.cells #[.pointer (some ⟨b, 2, none⟩)] 62 (0, 0)) := by rw [hW1]; exact heap_alloc_new _ _
  clear hW1
  refine ⟨But.of la, ?_⟩
  simp only [Act.put, List.setIfInBounds_toArray, List.set_cons_zero, List.set_cons_succ]
  have hT1 := hTd.later la
  have hz1 := hzd.later la
  have hbl := hTd.lt
  generalize Wd.heap.size = B at *
  have hBl : B < W1.heap.size := (Array.getElem?_eq_some_iff.1 hbx).1
  have HF := hide (first8_o wish 25 36 (.pointer (some ⟨b, 2, none⟩)) #[.pointer (some ⟨B, 0, none⟩)] (prs ws wish) (prl ws (els ws)) (KY (b + 1)) W1
    (enters_of Tryd.func25 (by kernel_rfl) rfl) (enters_of Tryd.func36 (by kernel_rfl) rfl)
    (fun W hW => hasPair_any base b (low : Int) (high : Int) ws wish W (hT1.later hW) hw)
    (fun w4 h4 => pairs_gen B b (b + 1) base (low : Int) (high : Int) ws w4 (later_keep h4 hbx) (by have := Below.size h4; omega) (hT1.later h4) (by omega) (hz1.later h4) (by omega))
    (fun h k => h.trans k) (fun w4 W l o o' h4 hl ho hc hw => KY.put (m := w4.heap.size) (by have := Below.size h4; omega) hl ho hc) (fun h4 hA hL => KY.of hL (by have := Below.size h4; omega)))
  refine anyT_one 9 rfl (by kernel_rfl) rfl ?_
  refine wp_enter 20 #[.int .u16 (wish : Int), .func (.func 25) #[.pointer (some ⟨b, 2, none⟩)] #[], .func (.func 36) #[] #[.pointer (some ⟨B, 0, none⟩)]] (by go_simp) ?_
  refine HF.out.mono ?_
  rintro e W2 ⟨rfl, l2⟩
  refine ⟨But.of l2, ?_⟩
  simp only [Act.put, List.setIfInBounds_toArray, List.set_cons_zero, List.set_cons_succ]
  have hlim : fsb (prs ws wish) (prl ws (els ws)) = true → fsn (prs ws wish) wish (prl ws (els ws)) < 65536 ∧ fsn (prs ws wish) wish (prl ws (els ws)) % 2 = 0 := fun h => pair_lim hw h
  have HLM := hide hlim
  have hbW2 : But (fun g => g = b) w W2 := (But.of ld).trans ((But.of la).trans (But.of l2))
  have hT2 := hT1.later l2
  clear hlim HF la l2 ld hTd hT1 hzd hz1
  generalize hqe : prs ws wish = q at *
  generalize hLe : prl ws (els ws) = L at *
  have HQE := hide hqe
  have HLE := hide hLe
  clear hqe hLe
  generalize hne : fsn q wish L = n at *
  have HNE := hide hne
  clear hne
  cases hbe : fsb q L with
  | true =>
    rw [hbe] at HLM
    obtain ⟨hn, hn2⟩ := HLM.out rfl
    have hn1 : n + 1 < 65536 := by omega
    have hn1' : (n : Int) + 1 < 65536 := by omega
    have HBE := hide hbe
    clear hbe
    refine anyT_val (But.pre _) 10 rfl (by kernel_rfl) (by kernel_rfl) (by kernel_rfl) (fun _ _ _ _ h => h) rfl ?_; apply Exists.intro; refine ⟨fun v1 hv1 => ?_, ?_⟩; (· (go_simp; rfl)); simp only [Act.put, List.setIfInBounds_toArray, List.set_cons_zero, List.set_cons_succ]
    refine anyT_val (But.pre _) 11 rfl (by kernel_rfl) (by kernel_rfl) (by kernel_rfl) (fun _ _ _ _ h => h) rfl ?_; apply Exists.intro; refine ⟨fun v1 hv1 => ?_, ?_⟩; (· (go_simp; rfl)); simp only [Act.put, List.setIfInBounds_toArray, List.set_cons_zero, List.set_cons_succ]
    refine anyT_val (But.pre _) 12 rfl (by kernel_rfl) (by kernel_rfl) (by kernel_rfl) (fun _ _ _ _ h => h) rfl ?_; apply Exists.intro; refine ⟨fun v1 hv1 => ?_, ?_⟩; (· (go_simp; rfl)); simp only [Act.put, List.setIfInBounds_toArray, List.set_cons_zero, List.set_cons_succ]
    refine anyT_val (But.pre _) 13 rfl (by kernel_rfl) (by kernel_rfl) (by kernel_rfl) (fun _ _ _ _ h => h) rfl ?_; apply Exists.intro; refine ⟨fun v1 hv1 => ?_, ?_⟩; (· (go_simp; rfl)); simp only [Act.put, List.setIfInBounds_toArray, List.set_cons_zero, List.set_cons_succ]
    refine anyT_val (But.pre _) 14 rfl (by kernel_rfl) (by kernel_rfl) (by kernel_rfl) (fun _ _ _ _ h => h) rfl ?_; apply Exists.intro; refine ⟨fun v1 hv1 => ?_, ?_⟩; (· (go_simp; rfl)); simp only [Act.put, List.setIfInBounds_toArray, List.set_cons_zero, List.set_cons_succ]
    refine anyT_done (by kernel_rfl) ?_
    go_wp2_with fail
    refine (remove_any base b (low : Int) (high : Int) ws n W2 hT2 hn).mono ?_
    rintro e W3a ⟨⟨v, rfl⟩, hT3a, hb3a⟩
    have HR2 := hide (remove_any base b (low : Int) (high : Int) _ (n + 1) W3a hT3a hn1)
    rw [show ((n + 1 : Nat) : Int) = (n : Int) + 1 from by omega] at HR2
    clear hn2
    go_wp2_with fail
    refine HR2.out.mono ?_
    rintro e W3 ⟨⟨v2, rfl⟩, hT3, hb3⟩
    have hfb := (hbW2.trans hb3a).trans hb3
    go_wp2_with fail
    refine bodyPost_ret (v := .tuple #[.int .u16 (n : Int), .int .i64 0]) (by simp [results, Tryd.results14, go_sem]) rfl ?_
    rw [HQE.out, HLE.out, HNE.out, tke_t HBE.out]
    exact ⟨rfl, .inr ⟨HBE.out, hT3⟩, hfb⟩
  | false =>
    have HBE := hide hbe
    clear hbe
    refine anyT_val (But.pre _) 10 rfl (by kernel_rfl) (by kernel_rfl) (by kernel_rfl) (fun _ _ _ _ h => h) rfl ?_; apply Exists.intro; refine ⟨fun v1 hv1 => ?_, ?_⟩; (· (go_simp; rfl)); simp only [Act.put, List.setIfInBounds_toArray, List.set_cons_zero, List.set_cons_succ]
    refine anyT_val (But.pre _) 11 rfl (by kernel_rfl) (by kernel_rfl) (by kernel_rfl) (fun _ _ _ _ h => h) rfl ?_; apply Exists.intro; refine ⟨fun v1 hv1 => ?_, ?_⟩; (· (go_simp; rfl)); simp only [Act.put, List.setIfInBounds_toArray, List.set_cons_zero, List.set_cons_succ]
    refine anyT_val (But.pre _) 12 rfl (by kernel_rfl) (by kernel_rfl) (by kernel_rfl) (fun _ _ _ _ h => h) rfl ?_; apply Exists.intro; refine ⟨fun v1 hv1 => ?_, ?_⟩; (· (go_simp; rfl)); simp only [Act.put, List.setIfInBounds_toArray, List.set_cons_zero, List.set_cons_succ]
    refine anyT_val (But.pre _) 13 rfl (by kernel_rfl) (by kernel_rfl) (by kernel_rfl) (fun _ _ _ _ h => h) rfl ?_; apply Exists.intro; refine ⟨fun v1 hv1 => ?_, ?_⟩; (· (go_simp; rfl)); simp only [Act.put, List.setIfInBounds_toArray, List.set_cons_zero, List.set_cons_succ]
    refine anyT_val (But.pre _) 14 rfl (by kernel_rfl) (by kernel_rfl) (by kernel_rfl) (fun _ _ _ _ h => h) rfl ?_; apply Exists.intro; refine ⟨fun v1 hv1 => ?_, ?_⟩; (· (go_simp; rfl)); simp only [Act.put, List.setIfInBounds_toArray, List.set_cons_zero, List.set_cons_succ]
    refine anyT_done (by kernel_rfl) ?_
    go_wp2_with fail
    refine bodyPost_ret (v := .tuple #[.int .u16 0, .int .i64 9]) (by simp [results, Tryd.results14, go_sem]) rfl ?_
    rw [HQE.out, HLE.out, HNE.out, tke_f HBE.out]
    have hn0 : n = 0 := by
      rw [← HNE.out]
      have := HBE.out
      unfold fsb at this
      unfold fsn
      cases q with
      | true => simp at this
      | false =>
        cases L with
        | nil => rfl
        | cons x L => simp at this
    subst hn0
    exact ⟨rfl, .inl ⟨HBE.out, hT2⟩, hbW2⟩
end Go.Proofs.YtfompbpllndmfaaDoor

/- The walk of TopPorts. -/
namespace Go.Proofs.YtfompbpllndmfaaDoor
open Go.RowKit Go.Shelf
set_option maxRecDepth 100000
set_option linter.unusedVariables false
set_option linter.unusedSimpArgs false

theorem fr_take {ws : Nat → Nat} {a b : Nat} (h : ∀ m, fr ws m = decide (a ≤ m ∧ m ≤ b)) (m : Nat) : fr (wsR ws a) m = decide (a + 1 ≤ m ∧ m ≤ b) := by
  unfold wsR
  rw [fr_remove, h m, Bool.eq_iff_iff]
  simp
  omega
theorem fr_give {ws : Nat → Nat} {a k : Nat} (h : ∀ m, fr ws m = decide (a ≤ m ∧ m < k)) (hak : a ≤ k) (m : Nat) : fr (wsA ws k) m = decide (a ≤ m ∧ m < k + 1) := by
  unfold wsA
  rw [fr_add, h m, Bool.eq_iff_iff]
  simp
  omega

theorem take_low (base b low high : Nat) (ws : Nat → Nat) (a c : Nat) (w : World) (hT : PB base w b (low : Int) (high : Int) ws) (hz : Dz w) (ha : 1 ≤ a) (hac : a ≤ c) (hc : c < 65536) (h : ∀ m, fr ws m = decide (a ≤ m ∧ m ≤ c)) :
    Calls Tryd.prog 9 #[.pointer (some ⟨b, 0, none⟩), .int .u16 0] w fun e w' => e = .returned (.tuple #[.int .u16 (a : Int), .int .i64 0]) ∧ PB base w' b (low : Int) (high : Int) (wsR ws a) ∧ But (fun g => g = b) w w' := by
  have hq : fr ws 0 = false := by rw [h]; simp; omega
  have hL := els_interval ws a c hac hc (fun m _ => h m)
  obtain ⟨L, hL2⟩ := nums_cons a c hac
  have hn : fsn false 0 (els ws) = a := by unfold fsn; rw [hL, hL2]; simp
  have hb : fsb false (els ws) = true := by unfold fsb; rw [hL, hL2]; simp
  refine (take8_any base b low high ws 0 w hT (by omega) hz).mono ?_
  rintro e w' ⟨rfl, ht, hbt⟩
  rw [hq] at ht ⊢
  rw [hn] at ht ⊢
  rw [tke_t hb]
  rcases ht with ⟨h1, _⟩ | ⟨_, h2⟩
  · rw [hb] at h1; cases h1
  · exact ⟨rfl, h2, hbt⟩
theorem take_none (base b low high : Nat) (ws : Nat → Nat) (wish : Nat) (w : World) (hT : PB base w b (low : Int) (high : Int) ws) (hz : Dz w) (hw : wish < 65536) (h : ∀ m, fr ws m = false) :
    Calls Tryd.prog 9 #[.pointer (some ⟨b, 0, none⟩), .int .u16 (wish : Int)] w fun e w' => e = .returned (.tuple #[.int .u16 0, .int .i64 9]) ∧ PB base w' b (low : Int) (high : Int) ws ∧ But (fun g => g = b) w w' := by
  have hL := els_none ws (fun m _ => h m)
  have hn : fsn false wish (els ws) = 0 := by unfold fsn; rw [hL]; rfl
  have hb : fsb false (els ws) = false := by unfold fsb; rw [hL]; rfl
  refine (take8_any base b low high ws wish w hT hw hz).mono ?_
  rintro e w' ⟨rfl, ht, hbt⟩
  rw [h wish] at ht ⊢
  rw [hn] at ht ⊢
  rw [tke_f hb]
  rcases ht with ⟨_, h2⟩ | ⟨h1, _⟩
  · exact ⟨rfl, h2, hbt⟩
  · rw [hb] at h1; cases h1
theorem cnt_none {ws : Nat → Nat} (h : ∀ m, fr ws m = false) : cnt ws 1024 = 0 := by
  rw [cnt_eq]
  show (els ws).length = 0
  rw [els_none ws (fun m _ => h m)]
  rfl
theorem cnt_interval {ws : Nat → Nat} {a b : Nat} (hab : a ≤ b) (hb : b < 65536) (h : ∀ m, fr ws m = decide (a ≤ m ∧ m ≤ b)) : cnt ws 1024 = b - a + 1 := by
  rw [cnt_eq]
  show (els ws).length = _
  rw [els_interval ws a b hab hb (fun m _ => h m), nums_length]

set_option maxHeartbeats 8000000 in
theorem ports_walk (w : World) (hz : Dz w) (lo nn : Nat) (hlo : lo ≤ 65535) (hnn : nn ≤ 255) :
    Calls Tryd.prog 6 #[.int .u16 (lo : Int), .int .u8 (nn : Int)] w fun e w' => e = .returned (.bool true) ∧ Below w.heap.size w w' := by
  have hlo' : (lo : Int) ≤ 65535 := by omega
  have hnn' : (nn : Int) ≤ 255 := by omega
  go_enter Tryd.func6, Tryd.ntmps6
  have hcase : lo = 0 ∨ (lo ≠ 0 ∧ 65535 < lo + nn) ∨ (1 ≤ lo ∧ lo + nn ≤ 65535) := by omega
  rcases hcase with rfl | ⟨ha, hb⟩ | ⟨h1, h2⟩
  case' inl =>
    go_upto_region 3 with fail
    obtain ⟨lw, hlw, h1, h2⟩ : ∃ lw : Nat, (1 : Int) = (lw : Int) ∧ 1 ≤ lw ∧ lw + nn ≤ 65535 := ⟨1, rfl, by omega, by omega⟩
    rw [show Value.int IntKind.u16 1 = Value.int IntKind.u16 (lw : Int) from by rw [← hlw]]
    clear hlw hlo' hlo
  case' inr.inl =>
    have ha' : ¬ (lo : Int) = 0 := by omega
    have hb' : (65535 : Int) < (lo : Int) + (nn : Int) := by omega
    go_upto_region 3 with fail
    obtain ⟨lw, hlw, h1, h2⟩ : ∃ lw : Nat, (1 : Int) = (lw : Int) ∧ 1 ≤ lw ∧ lw + nn ≤ 65535 := ⟨1, rfl, by omega, by omega⟩
    rw [show Value.int IntKind.u16 1 = Value.int IntKind.u16 (lw : Int) from by rw [← hlw]]
    clear hlw ha hb ha' hb' hlo' hlo
  case' inr.inr =>
    have ha' : ¬ (lo : Int) = 0 := by omega
    have hb' : ¬ (65535 : Int) < (lo : Int) + (nn : Int) := by omega
    go_upto_region 3 with fail
    clear ha' hb' hlo' hlo
    obtain ⟨lw, rfl⟩ : ∃ lw : Nat, lw = lo := ⟨lo, rfl⟩
  all_goals
    have hs' : (lw : Int) + (nn : Int) ≤ 65535 := by omega
    have hl' : (lw : Int) ≤ 65535 := by omega
    have HNEW := hide (new8_yes lw (lw + nn) h1 (by omega) (by omega) w)
    rw [show ((lw + nn : Nat) : Int) = (lw : Int) + (nn : Int) from by omega] at HNEW
    go_wp2_with fail
    refine HNEW.out.mono ?_
    rintro e w1 ⟨rfl, l1, hT1⟩
    have hf1 : ∀ m, fr (wsOf (nums lw (lw + nn))) m = decide (lw + 0 ≤ m ∧ m ≤ lw + nn) := fun m => by
      rw [fr_wsOf, decide_eq_decide, mem_nums (by omega)]
      omega
    generalize hbt : w.heap.size = b at *
    have hzp : 0 < b := by rw [← hbt]; exact hz.pos
    have l1' : Below b w w1 := by rw [← hbt]; exact l1
    clear HNEW l1
    generalize wsOf (nums lw (lw + nn)) = ws1 at *
    go_wp2_with fail
    go_loopw [6] (fun i wr => ∃ (k : Nat) (ws : Nat → Nat), k ≤ nn + 1 ∧ i = .int .i64 (k : Int) ∧ PB b wr b (lw : Int) ((lw : Int) + (nn : Int)) ws ∧ (∀ m, fr ws m = decide (lw + k ≤ m ∧ m ≤ lw + nn)) ∧ Below b w wr) (fun i _ => nn + 1 - (intOf i).toNat)
    case atStart => exact ⟨0, ws1, by omega, rfl, hT1, hf1, l1'⟩
    case round =>
      obtain ⟨k, ws, hk, rfl, hT, hf, hbw⟩ := hrel
      by_cases hlt : k ≤ nn
      · have hlt' : (k : Int) ≤ (nn : Int) := by omega
        have HTK := hide (take_low b b lw (lw + nn) ws (lw + k) (lw + nn) wr (by rw [show ((lw + nn : Nat) : Int) = (lw : Int) + (nn : Int) from by omega]; exact hT) (hz.below hbw hzp) (by omega) (by omega) (by omega) hf)
        rw [show ((lw + nn : Nat) : Int) = (lw : Int) + (nn : Int) from by omega, show ((lw + k : Nat) : Int) = (lw : Int) + (k : Int) from by omega] at HTK
        have HFT := hide (fr_take hf)
        have hk6 : (lw : Int) + (k : Int) ≤ 65535 := by omega
        clear hf hT
        go_wp2_with fail
        refine HTK.out.mono ?_
        rintro e w2 ⟨rfl, hT2, hb2⟩
        have hbw2 : Below b w w2 := hbw.trans (hb2.below (by have := hbw.size; omega) (fun g hg e => by omega))
        have HT2 := hide hT2
        clear HTK hT2 hb2
        go_wp2_with fail
        go_roundw
        case rel => exact ⟨k + 1, _, by omega, by go_num, HT2.out, fun m => by rw [HFT.out m, Nat.add_assoc], hbw2⟩
        case measure => simp [intOf]; omega
      · obtain rfl : k = nn + 1 := by omega
        have hgt' : ¬ ((nn + 1 : Nat) : Int) ≤ (nn : Int) := by omega
        have hno : ∀ m, fr ws m = false := fun m => by rw [hf m]; simp; omega
        have HT0 := hide (take_none b b lw (lw + nn) ws lw wr (by rw [show ((lw + nn : Nat) : Int) = (lw : Int) + (nn : Int) from by omega]; exact hT) (hz.below hbw hzp) (by omega) hno)
        have HFR := hide (fun W (h : PB b W b (lw : Int) ((lw + nn : Nat) : Int) ws) => free8_any b b (lw : Int) ((lw + nn : Nat) : Int) ws 0 (cnt_none hno) W h)
        have HNO := hide hno
        clear hno hf hT hk hlt
        rename World => wl
        go_wp2_with fail
        refine HT0.out.mono ?_
        rintro e w3 ⟨rfl, hT3, hb3⟩
        have hbw3 : Below b w w3 := hbw.trans (hb3.below (by have := hbw.size; omega) (fun g hg e => by omega))
        clear HT0 hb3
        go_wp2_with fail
        refine (HFR.out w3 hT3).mono ?_
        rintro e w4 ⟨rfl, rfl⟩
        go_wp2_with fail
        clear HFR
        go_loopw [11] (fun i wr => ∃ (k : Nat) (ws : Nat → Nat), k ≤ nn + 1 ∧ i = .int .i64 (k : Int) ∧ PB b wr b (lw : Int) ((lw + nn : Nat) : Int) ws ∧ (∀ m, fr ws m = decide (lw ≤ m ∧ m < lw + k)) ∧ Below b w wr) (fun i _ => nn + 1 - (intOf i).toNat)
        case atStart => exact ⟨0, ws, by omega, rfl, hT3, fun m => by rw [HNO.out m]; symm; simp <;> omega, hbw3⟩
        case round =>
          obtain ⟨k, ws2, hk, rfl, hT, hf, hbw5⟩ := hrel
          by_cases hlt : k ≤ nn
          · have hlt' : (k : Int) ≤ (nn : Int) := by omega
            have HGV := hide (give_yes b b lw (lw + nn) ws2 (lw + k) wr hT (by omega) (by unfold hsP; rw [hf]; simp; omega))
            rw [show ((lw + k : Nat) : Int) = (lw : Int) + (k : Int) from by omega] at HGV
            have HFG := hide (fr_give hf (by omega))
            have hk6 : (lw : Int) + (k : Int) ≤ 65535 := by omega
            clear hf hT
            go_wp2_with fail
            refine HGV.out.mono ?_
            rintro e w5 ⟨rfl, hT5, hb5⟩
            have hbw6 : Below b w w5 := hbw5.trans (hb5.below (by have := hbw5.size; omega) (fun g hg e => by omega))
            have HT5 := hide hT5
            clear HGV hT5 hb5
            go_wp2_with fail
            go_roundw
            case rel => exact ⟨k + 1, _, by omega, by go_num, HT5.out, fun m => by rw [HFG.out m, Nat.add_assoc], hbw6⟩
            case measure => simp [intOf]; omega
          · obtain rfl : k = nn + 1 := by omega
            have hgt2 : ¬ ((nn + 1 : Nat) : Int) ≤ (nn : Int) := by omega
            have hfi : ∀ m, fr ws2 m = decide (lw ≤ m ∧ m ≤ lw + nn) := fun m => by rw [hf m, decide_eq_decide]; omega
            have hcn : cnt ws2 1024 = nn + 1 := by rw [cnt_interval (by omega) (by omega) hfi]; (try omega)
            have HFR := hide (free8_any b b (lw : Int) ((lw + nn : Nat) : Int) ws2 (nn + 1) hcn wr hT)
            have HUS := hide (used_none b b lw (lw + nn) ws2 (by omega) (by omega) wr hT (fun m hm1 hm2 => by rw [hfi m]; simp; omega))
            clear hf hfi hcn hk hlt hT
            go_wp2_with fail
            refine HFR.out.mono ?_
            rintro e w6 ⟨rfl, rfl⟩
            go_wp2_with fail
            refine HUS.out.mono ?_
            rintro e w7 ⟨rfl, l7⟩
            have hfin : Below b w w7 := hbw5.trans (l7.mono (by have := hbw5.size; omega))
            go_wp2_with fail
            go_ret
            exact ⟨by simp, by rw [hbt]; exact hfin⟩

theorem walk_TopPorts (w : World) (hz : Dz w) (low : Int) (hl : 0 ≤ low ∧ low ≤ 65535) (n : Int) (hn : 0 ≤ n ∧ n ≤ 255) :
    Calls Tryd.prog 6 #[.int .u16 low, .int .u8 n] w fun e w' => e = .returned (.bool true) ∧ Below w.heap.size w w' := by
  obtain ⟨lo, rfl⟩ : ∃ lo : Nat, low = (lo : Int) := ⟨low.toNat, by omega⟩
  obtain ⟨nn, rfl⟩ : ∃ nn : Nat, n = (nn : Int) := ⟨n.toNat, by omega⟩
  exact ports_walk w hz lo nn (by omega) (by omega)
end Go.Proofs.YtfompbpllndmfaaDoor
