/- The document's pool: Give. -/
import Derived.Test.YtdjncjijgiemgaaDoorP2
namespace Go.Proofs.YtdjncjijgiemgaaDoor
open Go.RowKit Go.Shelf
set_option maxRecDepth 100000
set_option linter.unusedVariables false
set_option linter.unusedSimpArgs false

/-- What is left when one is given back. -/
def outU (n : Nat) (U : List Nat) : List Nat := U.filter (fun x => !decide (x = n))

set_option maxHeartbeats 4000000 in
theorem rGive8_any (base rb low high : Nat) (v : Value) (U : List Nat) (n : Nat) (w : World) (hT : DP base w rb v low high U) (hn : n < 65536) (hU : U.length ≤ 90000) :
    Calls Tryd.prog 33 #[.pointer (some ⟨rb, 0, none⟩), .int .u16 (n : Int)] w fun e w' => (n ∉ U ∧ e = .returned (.int .i64 11) ∧ w' = w) ∨ (n ∈ U ∧ e = .returned (.int .i64 0) ∧ (∃ v', DP base w' rb v' low high (outU n U)) ∧ But (fun g => g = rb) w w') := by
  have HH := hide (rhas8_any base rb low high v U n w hT hn (by omega))
  obtain ⟨sa, cap, rfl⟩ := hT.slice
  have hrb : rb < w.heap.size := (Array.getElem?_eq_some_iff.1 hT.2.1).1
  have hbb := hT.1
  have HT := hide (fun W (h : Below w.heap.size w W) => hT.later h)
  have hUi : (U.length : Int) ≤ 90000 := by omega
  have hn' : (n : Int) ≤ 65535 := by omega
  clear hT
  by_cases hm : n ∈ U
  · have HM := hide hm
    rw [decide_eq_true hm] at HH
    clear hm
    go_enter Tryd.func33, Tryd.ntmps33
    go_wp2_with fail
    refine HH.out.mono ?_
    rintro e w1 ⟨rfl, rfl⟩
    clear HH
    go_wp2_with fail
    go_loopw [5, 6] (fun l i wr => ∃ (q : Nat) (M : List Nat), q ≤ U.length ∧ i = .int .i64 (q : Int) ∧ wr.ownsRow w1.heap.size 3 1 l M.length (i64s M) ∧ M = outU n (U.take q) ∧ Below w1.heap.size w1 wr) (fun _ i _ => U.length - (intOf i).toNat)
    case atStart => exact ⟨0, [], by omega, rfl, World.ownsRow_nil _ _ _ _, rfl, Below.refl _ _⟩
    case round =>
      obtain ⟨q, M, hq, rfl, hOw, hK, hbw⟩ := hrel
      obtain ⟨sl, cl, rfl⟩ := ownsN_slice hOw
      have hML : M.length ≤ q := by rw [hK]; exact Nat.le_trans (List.length_filter_le _ _) (by simp; omega)
      have k0 := block_cell (HT.out wr hbw).2.1
      have hws := hbw.size
      have HK := hide hK
      have HO := hide hOw
      clear hK hOw
      by_cases hql : q < U.length
      · have hql' : (q : Int) < U.length := by omega
        obtain ⟨g, rfl, hc1, hc2, hcs⟩ := (HT.out wr hbw).cellsU (by omega)
        have d1 := hcs q hql
        clear hcs
        have HE : Hid (U.take (q + 1) = U.take q ++ [U[q]?.getD 0]) := by show _ = _; rw [List.getElem?_eq_getElem hql]; simp
        generalize U[q]?.getD 0 = y at *
        by_cases hy : y = n
        · subst hy
          go_wp2_with fail
          go_roundw
          case rel => exact ⟨q + 1, M, by omega, by go_num, HO.out, by rw [HE.out]; unfold outU; rw [List.filter_append, HK.out]; unfold outU; simp, hbw⟩
          case measure => simp [intOf]; omega
        · have hy' : ¬ (y : Int) = (n : Int) := by omega
          have HY := hide hy
          clear hy
          go_wp2_with (at_builtin; refine wpList_app64 rfl (.tmp 34) (.tmp 42) rfl w1.heap.size _ M y rfl rfl HO.out hws (by omega) ?_; intro g3 cp3 W6 hrow6 hb6)
          go_roundw
          case rel => exact ⟨q + 1, M ++ [y], by omega, by go_num, by simpa using hrow6, by rw [HE.out]; unfold outU; rw [List.filter_append, HK.out]; unfold outU; simp [HY.out], hbw.trans hb6⟩
          case measure => simp [intOf]; omega
      · obtain rfl : q = U.length := by omega
        have fin : ∀ (W : World) (u : Value), Below w1.heap.size w1 W → W.ownsRow w1.heap.size 3 1 u (outU n U).length (i64s (outU n U)) → DP base (W.setCell ⟨rb, 2, none⟩ u) rb u low high (outU n U) ∧ But (fun g => g = rb) w1 (W.setCell ⟨rb, 2, none⟩ u) := fun W u hW hu => by
          refine ⟨⟨hbb, ?_, ?_⟩, But.setCell (E := fun g => g = rb) (But.of (show Later w1 W from hW)) (p := ⟨rb, 2, none⟩) rfl _⟩
          · have := heap_set1 (HT.out W hW).2.1 2 u
            simpa using this
          · refine ownsN_mono (base := w1.heap.size) ?_ (by omega)
            exact ownsM_but hu (But.setCell (E := fun g => g = rb) (But.refl _ W) (p := ⟨rb, 2, none⟩) rfl u) (fun g hg e => by omega)
        have FIN := hide fin
        have F0 := block_frozen (HT.out wr hbw).2.1
        have HK2 : Hid (M = outU n U) := by show _ = _; rw [HK.out, List.take_of_length_le (Nat.le_refl _)]
        clear fin
        go_wp2_with fail
        go_ret
        obtain ⟨f1, f2⟩ := FIN.out wr _ hbw (by have := HO.out; rw [← HK2.out]; exact this)
        exact .inr ⟨HM.out, rfl, ⟨_, f1⟩, f2⟩
  · have HM := hide hm
    rw [decide_eq_false hm] at HH
    clear hm
    go_enter Tryd.func33, Tryd.ntmps33
    go_wp2_with fail
    refine HH.out.mono ?_
    rintro e w1 ⟨rfl, rfl⟩
    clear HH
    go_wp2_with fail
    go_ret
    exact .inl ⟨HM.out, rfl, rfl⟩
end Go.Proofs.YtdjncjijgiemgaaDoor
