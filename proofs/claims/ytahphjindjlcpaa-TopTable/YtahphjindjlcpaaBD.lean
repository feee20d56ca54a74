/- Package table: New; a row added. -/
import Derived.Deep.AppendLies
import Derived.Test.YtahphjindjlcpaaBC
namespace Go.Proofs.Ytahphjindjlcpaa
open Go.RowKit Go.Shelf
set_option maxRecDepth 100000
set_option linter.unusedVariables false
set_option linter.unusedSimpArgs false

theorem zero_table : Try.zeroCells62 = (Value.int .i64 0 :: .int .i64 0 :: .int .i64 0 :: List.replicate 256 (.slice none 0 0)).toArray := by kernel_rfl

theorem info_row : (Try.prog.info? 65).map (fun i => (i.zero, i.size, i.bytes)) = some (some (.agg #[.int .u8 0, .int .u32 0, .int .u32 0, .int .u16 0, .int .u16 0, .int .i64 0, .int .i64 0, .int .i64 0]), 8, 40) := by kernel_rfl

set_option maxHeartbeats 4000000 in
theorem new_yes (n : Int) (w : World) (h1 : 1 ≤ n) (h2 : n ≤ 4096) : Calls Try.prog 18 #[.int .i64 n] w fun e w' => e = .returned (.pointer (some ⟨w.heap.size, 0, none⟩)) ∧ Below w.heap.size w w' ∧ TB w.heap.size w' w.heap.size n 0 0 (fun _ => []) := by
  have hb : Below w.heap.size w (w.alloc (.cells (Try.zeroCells62.setIfInBounds 0 (.int .i64 n)) 62)) := (Below.refl _ _).alloc (Nat.le_refl _) _
  have hT : TB w.heap.size (w.alloc (.cells (Try.zeroCells62.setIfInBounds 0 (.int .i64 n)) 62)) w.heap.size n 0 0 (fun _ => []) := by
    refine ⟨List.replicate 256 (.slice none 0 0), by simp, Nat.le_refl _, ?_, fun i hi => ?_, fun i j hi hj _ g hg => ?_⟩
    · rw [heap_alloc_new, zero_table]
      simp
    · have : (List.replicate 256 (Value.slice none 0 0))[i]?.getD undef = .slice none 0 0 := by rw [List.getElem?_replicate, if_pos hi]; rfl
      rw [this]
      exact World.ownsRow_nil _ _ _ _
    · have : (List.replicate 256 (Value.slice none 0 0))[i]?.getD undef = .slice none 0 0 := by rw [List.getElem?_replicate, if_pos hi]; rfl
      rw [this] at hg
      cases hg
  have HT := hide hT
  clear hT
  go_enter Try.func18, Try.ntmps18
  go_wp2_with fail
  go_ret
  exact ⟨rfl, hb, HT.out⟩

set_option maxHeartbeats 1000000 in
theorem new_no (n : Int) (w : World) (h : n < 1 ∨ 4096 < n) : Calls Try.prog 18 #[.int .i64 n] w fun e w' => e = .returned (.pointer none) ∧ w' = w := by
  rcases h with h | h
  · go_enter Try.func18, Try.ntmps18
    go_wp2_with fail
    go_ret
    exact ⟨rfl, rfl⟩
  · have h' : ¬ n < 1 := by omega
    go_enter Try.func18, Try.ntmps18
    go_wp2_with fail
    go_ret
    exact ⟨rfl, rfl⟩

/-- One more row in list i. -/
def addL (ls : Nat → List Rw) (i : Nat) (r : Rw) : Nat → List Rw := fun j => if j = i then ls i ++ [r] else ls j
theorem TBv.added {base bt : Nat} {W W6 V : World} {lim cnt trn : Int} {vs : List Value} {ls : Nat → List Rw} (hT : TBv base W bt lim cnt trn vs ls) (i : Nat) (hi : i < 256) (r : Rw) {g' cap' : Nat}
    (hrow : W6.ownsRow base 65 8 (.slice (some ⟨g', 0, none⟩) ((ls i).length + 1) cap') ((ls i).length + 1) (rws (ls i) ++ rwc r)) (hg : W.grownBy W6 (vs[i]?.getD undef).ownBlock) (hpl : (vs[i]?.getD undef).ownBlock = some g' ∨ W.heap.size ≤ g')
    (hbV : But (fun g => g = bt) W6 V) (hV : V.heap[bt]? = some (.cells (.int .i64 lim :: .int .i64 cnt :: .int .i64 trn :: vs.set i (.slice (some ⟨g', 0, none⟩) ((ls i).length + 1) cap')).toArray 62 (0, 0))) :
    TBv base V bt lim cnt trn (vs.set i (.slice (some ⟨g', 0, none⟩) ((ls i).length + 1) cap')) (addL ls i r) := by
  obtain ⟨h1, h2, h3, h4, h5⟩ := hT
  have hb6 : W6.heap[bt]? = some (.cells (.int .i64 lim :: .int .i64 cnt :: .int .i64 trn :: vs).toArray 62 (0, 0)) := by
    refine (hg.block bt (Array.getElem?_eq_some_iff.1 h3).1 (fun e => ?_)).trans h3
    obtain ⟨_, ⟨hn, _⟩ | ⟨g, cap, cur, hv, _, hh, _⟩⟩ := h4 i hi
    · rw [hn] at e; cases e
    · rw [hv] at e
      cases e
      rw [h3] at hh
      simp at hh
  have keep : ∀ (g : Nat) (cur : Array Value), W6.heap[g]? = some (.cells cur 65 (0, 0)) → V.heap[g]? = some (.cells cur 65 (0, 0)) := fun g cur h =>
    (hbV.block g (Array.getElem?_eq_some_iff.1 h).1 (fun e => by subst e; rw [hb6] at h; simp at h)).trans h
  refine ⟨by simpa using h1, h2, hV, fun j hj => ?_, fun j k hj hk hjk g hg1 => ?_⟩
  · by_cases hji : j = i
    · subst hji
      rw [List.getElem?_set_self (by omega)]
      unfold addL
      rw [if_pos rfl, List.length_append, List.length_singleton, show rws (ls j ++ [r]) = rws (ls j) ++ rwc r from by simp [rws]]
      obtain ⟨q1, ⟨q2, q3⟩ | ⟨g, cap, cur, hv, hgb, hh, q⟩⟩ := hrow
      · simp at q2
      · exact ⟨q1, .inr ⟨g, cap, cur, hv, hgb, keep g cur hh, q⟩⟩
    · rw [List.getElem?_set_ne (fun e => hji e.symm)]
      unfold addL
      rw [if_neg hji]
      obtain ⟨q1, q2 | ⟨g, cap, cur, hv, hgb, hh, q⟩⟩ := h4 j hj
      · exact ⟨q1, .inl q2⟩
      · refine ⟨q1, .inr ⟨g, cap, cur, hv, hgb, keep g cur ((hg.block g (Array.getElem?_eq_some_iff.1 hh).1 (fun e => ?_)).trans hh), q⟩⟩
        have := h5 j i hj hi hji g (by rw [hv]; rfl)
        exact this e.symm
  · have old : ∀ j, j < 256 → ∀ g, (vs[j]?.getD undef).ownBlock = some g → g < W.heap.size := fun j hj g h => by
      obtain ⟨_, ⟨hn, _⟩ | ⟨g2, cap, cur, hv, _, hh, _⟩⟩ := h4 j hj
      · rw [hn] at h; cases h
      · rw [hv] at h
        cases h
        exact (Array.getElem?_eq_some_iff.1 hh).1
    by_cases hji : j = i
    · subst hji
      rw [List.getElem?_set_self (by omega)] at hg1
      cases hg1
      rw [List.getElem?_set_ne hjk]
      intro e
      rcases hpl with h | h
      · exact h5 j k hj hk hjk g' h e
      · have := old k hk g' e; omega
    · rw [List.getElem?_set_ne (fun e => hji e.symm)] at hg1
      by_cases hki : k = i
      · subst hki
        rw [List.getElem?_set_self (by omega)]
        intro e
        cases e
        rcases hpl with h | h
        · exact h5 j k hj hk hjk g' hg1 h
        · have := old j hj g' hg1; omega
      · rw [List.getElem?_set_ne (fun e => hki e.symm)]
        exact h5 j k hj hk hjk g hg1
end Go.Proofs.Ytahphjindjlcpaa
