/- The document's pool: the walk of take. -/
import Derived.Test.YtdjncjijgiemgaaDoorPZ
namespace Go.Proofs.YtdjncjijgiemgaaDoor
open Go.RowKit Go.Shelf
set_option maxRecDepth 100000
set_option linter.unusedVariables false
set_option linter.unusedSimpArgs false

theorem DP.low {base n₀ : Nat} {A B : World} {rb : Nat} {v : Value} {low high : Nat} {U : List Nat} (h : DP base A rb v low high U) (l : Below A.heap.size A B) : DP base B rb v low high U := h.later l

theorem ownsM_but {E : Nat → Prop} {t : TypeId} {sz base : Nat} {A B : World} {v : Value} {n : Nat} {xs : List Value} (h : A.ownsRow base t sz v n xs) (k : But E A B) (hE : ∀ g, base ≤ g → ¬ E g) : B.ownsRow base t sz v n xs := by
  obtain ⟨h1, h2 | ⟨g, cap, cur, hv, hg, hh, r⟩⟩ := h
  · exact ⟨h1, .inl h2⟩
  · exact ⟨h1, .inr ⟨g, cap, cur, hv, hg, (k.block g (Array.getElem?_eq_some_iff.1 hh).1 (hE g hg)).trans hh, r⟩⟩

set_option maxHeartbeats 8000000 in
theorem rtake8_any (base rb low high : Nat) (v : Value) (U : List Nat) (n : Nat) (w : World) (hT : DP base w rb v low high U) (hn : n < 65536) (hU : U.length ≤ 100000) :
    Calls Tryd.prog 42 #[.pointer (some ⟨rb, 0, none⟩), .int .i64 (n : Int)] w fun e w' => (∃ u, e = .returned u) ∧ (∃ v', DP base w' rb v' low high (insU n U)) ∧ But (fun g => g = rb) w w' := by
  obtain ⟨sa, cap, rfl⟩ := hT.slice
  have hrb : rb < w.heap.size := (Array.getElem?_eq_some_iff.1 hT.2.1).1
  have hbb := hT.1
  have HT := hide (fun W (h : Below w.heap.size w W) => hT.later h)
  have hUi : (U.length : Int) ≤ 100000 := by omega
  have hn' : (n : Int) ≤ 65535 := by omega
  clear hT
  go_enter Tryd.func42, Tryd.ntmps42
  go_wp2_with fail
  go_loopw [4, 5, 6] (fun l p i wr => ∃ (q : Nat) (M : List Nat) (pl : Bool), q ≤ U.length ∧ i = .int .i64 (q : Int) ∧ p = .bool pl ∧ wr.ownsRow w.heap.size 3 1 l M.length (i64s M) ∧ TkI n U q M pl ∧ Below w.heap.size w wr) (fun _ _ i _ => U.length - (intOf i).toNat)
  case atStart => exact ⟨0, [], false, by omega, rfl, rfl, World.ownsRow_nil _ _ _ _, .inl ⟨rfl, rfl, by simp⟩, Below.refl _ _⟩
  case round =>
    obtain ⟨q, M, pl, hq, rfl, rfl, hOw, hK, hbw⟩ := hrel
    obtain ⟨sl, cl, rfl⟩ := ownsN_slice hOw
    have hML := hK.len hq
    have k0 := block_cell (HT.out wr hbw).2.1
    have hws := hbw.size
    have HK := hide hK
    have HO := hide hOw
    clear hK hOw
    by_cases hql : q < U.length
    · have hql' : (q : Int) < U.length := by omega
      obtain ⟨g, rfl, hc1, hc2, hcs⟩ := (HT.out wr hbw).cellsU (by omega)
      have hgl : g < w.heap.size := by
        obtain ⟨_, ⟨e, h0⟩ | ⟨g', cp, cur, e, hg, hh, _⟩⟩ := (HT.out w (Below.refl _ _)).2.2
        · omega
        · cases e; exact (Array.getElem?_eq_some_iff.1 hh).1
      have d1 := hcs q hql
      clear hcs
      by_cases hc : pl = false ∧ n < U[q]?.getD 0
      · obtain ⟨rfl, hlt⟩ := hc
        have HK2 := hide (HK.out.put hql hlt)
        generalize U[q]?.getD 0 = y at *
        have hlt' : (n : Int) < (y : Int) := by omega
        go_wp2_with (at_builtin; refine wpList_app64 rfl (.tmp 29) (.tmp 31) rfl w.heap.size _ M n rfl rfl HO.out hws (by omega) ?_; intro g2 cp2 W5 hrow5 hb5; have hb5' := hide hb5; refine Hid.out ?_)
        have hbw5 : Below w.heap.size w W5 := hbw.trans hb5'.out
        have k5 := block_cell (HT.out W5 hbw5).2.1
        have d5 : W5.cell? ⟨g, q, none⟩ = some (.int .i64 (y : Int)) := (hb5'.out.cell (p := ⟨g, q, none⟩) hgl).trans d1
        have hs5 := hbw5.size
        have HO5 := hide hrow5
        clear k0 d1 hrow5 hb5
        show wpList _ _ _ _ _ _
        go_wp2_with (at_builtin; refine wpList_app64 rfl (.tmp 33) (.tmp 41) rfl w.heap.size _ (M ++ [n]) y (by simp [go_sem]) rfl HO5.out hs5 (by simp; omega) ?_; intro g3 cp3 W6 hrow6 hb6)
        go_roundw
        case rel => exact ⟨q + 1, M ++ [n] ++ [y], true, by omega, by go_num, rfl, by simpa using hrow6, HK2.out, hbw5.trans hb6⟩
        case measure => simp [intOf]; omega
      · have HK2 := hide (HK.out.keep hql (by cases pl with | true => exact .inl rfl | false => exact .inr (fun h => hc ⟨rfl, h⟩)))
        generalize U[q]?.getD 0 = y at *
        cases pl with
        | true =>
          clear hc
          go_wp2_with (at_builtin; refine wpList_app64 rfl (.tmp 33) (.tmp 41) rfl w.heap.size _ M y rfl rfl HO.out hws (by omega) ?_; intro g3 cp3 W6 hrow6 hb6)
          go_roundw
          case rel => exact ⟨q + 1, M ++ [y], true, by omega, by go_num, rfl, by simpa using hrow6, HK2.out, hbw.trans hb6⟩
          case measure => simp [intOf]; omega
        | false =>
          have hlt' : ¬ (n : Int) < (y : Int) := by intro h; exact hc ⟨rfl, by omega⟩
          clear hc
          go_wp2_with (at_builtin; refine wpList_app64 rfl (.tmp 33) (.tmp 41) rfl w.heap.size _ M y rfl rfl HO.out hws (by omega) ?_; intro g3 cp3 W6 hrow6 hb6)
          go_roundw
          case rel => exact ⟨q + 1, M ++ [y], false, by omega, by go_num, rfl, by simpa using hrow6, HK2.out, hbw.trans hb6⟩
          case measure => simp [intOf]; omega
    · obtain rfl : q = U.length := by omega
      have fin : ∀ (W : World) (u : Value), Below w.heap.size w W → W.ownsRow w.heap.size 3 1 u (insU n U).length (i64s (insU n U)) → DP base (W.setCell ⟨rb, 2, none⟩ u) rb u low high (insU n U) ∧ But (fun g => g = rb) w (W.setCell ⟨rb, 2, none⟩ u) := fun W u hW hu => by
        refine ⟨⟨hbb, ?_, ?_⟩, But.setCell (E := fun g => g = rb) (But.of (show Later w W from hW)) (p := ⟨rb, 2, none⟩) rfl _⟩
        · have := heap_set1 (HT.out W hW).2.1 2 u
          simpa using this
        · refine ownsN_mono (base := w.heap.size) ?_ (by omega)
          exact ownsM_but hu (But.setCell (E := fun g => g = rb) (But.refl _ W) (p := ⟨rb, 2, none⟩) rfl u) (fun g hg e => by omega)
      have FIN := hide fin
      have F0 := block_frozen (HT.out wr hbw).2.1
      clear fin
      cases pl with
      | true =>
        have HM := hide HK.out.done_t
        go_wp2_with fail
        go_end0
        obtain ⟨f1, f2⟩ := FIN.out wr _ hbw (by have := HO.out; rw [← HM.out]; exact this)
        exact ⟨⟨_, rfl⟩, ⟨_, f1⟩, f2⟩
      | false =>
        have HM := hide HK.out.done_f
        go_wp2_with (at_builtin; refine wpList_app64 rfl (.tmp 45) (.tmp 47) rfl w.heap.size _ M n rfl rfl HO.out hws (by omega) ?_; intro g3 cp3 W6 hrow6 hb6; have hbw6 := hbw.trans hb6; have k6 := block_cell (HT.out W6 hbw6).2.1; have F6 := block_frozen (HT.out W6 hbw6).2.1)
        go_end0
        obtain ⟨f1, f2⟩ := FIN.out W6 _ hbw6 (by rw [← HM.out]; exact hrow6)
        exact ⟨⟨_, rfl⟩, ⟨_, f1⟩, by simpa using f2⟩
end Go.Proofs.YtdjncjijgiemgaaDoor
