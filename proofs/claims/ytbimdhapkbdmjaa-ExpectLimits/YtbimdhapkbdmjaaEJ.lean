/- The document's expected flows: New, Fork, List, Same, Gone, Due. -/
import Derived.Test.YtbimdhapkbdmjaaEI
import Derived.Laws.Slices
namespace Go.Proofs.Ytbimdhapkbdmjaa
open Go.RowKit Go.Shelf
set_option maxRecDepth 100000
set_option linter.unusedVariables false
set_option linter.unusedSimpArgs false

theorem RdV.upto {n₀ : Nat} {A : World} {a : Option Addr} {len cap : Nat} {l : List Ex} (k : Nat) (hk : k ≤ len) (h : RdV n₀ A (.slice a len cap) l) : RdV n₀ A (sliced a 0 k cap 9) (l.take k) := by
  rcases h with ⟨a', cap', e, hz, hm, hn⟩ | ⟨b, off, cap', e, hne, hl, hm, hb, hc⟩
  · cases e
    obtain rfl : k = 0 := by omega
    subst hz
    exact .inl ⟨_, _, rfl, by simp, by omega, fun h => by cases a with | none => simp [hn rfl] | some x => split at h <;> simp at h⟩
  · cases e
    by_cases h0 : k = 0
    · subst h0
      exact .inl ⟨_, _, rfl, by simp, by omega, fun h => by split at h <;> simp at h⟩
    · have hlen : (l.take k).length = k := by simp; omega
      refine .inr ⟨b, off, cap, ?_, fun e => by rw [e] at hlen; simp at hlen; omega, by omega, hm, hb, fun j hj i hi => ?_⟩
      · rw [hlen]
        simp [sliced, Addr.add]
      · rw [hc j (by omega) i hi, List.getElem_take]
theorem RdV.from {n₀ : Nat} {A : World} {a : Option Addr} {len cap : Nat} {l : List Ex} (k : Nat) (hk : k ≤ len) (h : RdV n₀ A (.slice a len cap) l) : RdV n₀ A (sliced a k len cap 9) (l.drop k) := by
  rcases h with ⟨a', cap', e, hz, hm, hn⟩ | ⟨b, off, cap', e, hne, hl, hm, hb, hc⟩
  · cases e
    obtain rfl : k = 0 := by omega
    subst hz
    exact .inl ⟨_, _, rfl, by simp, by omega, fun h => by cases a with | none => simp [hn rfl] | some x => split at h <;> simp at h⟩
  · cases e
    by_cases h0 : k = l.length
    · subst h0
      exact .inl ⟨if cap = l.length then some ⟨b, off, none⟩ else (some (⟨b, off, none⟩ : Addr)).map (·.add (l.length * 9)), cap - l.length, by simp [sliced], by simp, by omega, fun h => by split at h <;> simp at h⟩
    · refine .inr ⟨b, off + k * 9, cap - k, ?_, fun e => by have := congrArg List.length e; simp at this; omega, by simp; omega, by omega, hb, fun j hj i hi => ?_⟩
      · simp [sliced]
        rw [if_neg (by omega), addr_add']
      · have hj' : k + j < l.length := by simp at hj; omega
        rw [show off + k * 9 + j * 9 + i = off + (k + j) * 9 + i from by omega, hc (k + j) hj' i hi, List.getElem_drop]

theorem rnew12_any (w : World) : Calls Try.prog 25 #[] w fun e w' => e = .returned (.pointer (some ⟨w.heap.size, 0, none⟩)) ∧ Later w w' ∧ BL 64 w.heap.size w' w.heap.size (.slice none 0 0) [] := by
  have la : Later w (w.alloc (.cells #[.slice none 0 0] 64)) := (Below.refl _ _).alloc (Nat.le_refl _) _
  have hn := heap_alloc_new w (.cells #[.slice none 0 0] 64)
  go_enter Try.func25, Try.ntmps25
  go_wp2_with fail
  go_ret
  exact ⟨rfl, la, Nat.le_refl _, hn, rfl, .inl ⟨rfl, rfl⟩⟩

set_option maxHeartbeats 2000000 in
theorem rfork12_any (base b : Nat) (v : Value) (l : List Ex) (w : World) (hT : BL 64 base w b v l) (hl : l.length ≤ 1000) :
    Calls Try.prog 23 #[.pointer (some ⟨b, 0, none⟩)] w fun e w' => Later w w' ∧ ∃ b' v', e = .returned (.pointer (some ⟨b', 0, none⟩)) ∧ BL 64 w.heap.size w' b' v' l := by
  have la0 : Later w (w.alloc (.cells #[] 26)) := (Below.refl _ _).alloc (Nat.le_refl _) _
  have k0 := block_cell (later_keep la0 hT.2.1)
  obtain ⟨u, W1, hrun, hrow, hlat⟩ := copyE w 42 w.heap.size v l (ownE_rd hT.2.2) (Nat.le_refl _) (by omega)
  obtain ⟨av, cv, rfl, _, _⟩ := (ownE_rd hT.2.2).slice
  obtain ⟨au, cu, rfl, _, _⟩ := (ownE_rd hrow).slice
  have HRUN := hide hrun
  have la : Later W1 (W1.alloc (.cells #[.slice au l.length cu] 64)) := (Below.refl _ _).alloc (Nat.le_refl _) _
  have hn := heap_alloc_new W1 (.cells #[.slice au l.length cu] 64)
  have HR := hide (ownE_later hrow la)
  clear hrun hrow
  go_enter Try.func23, Try.ntmps23
  go_wp2_with (at_builtin; refine wpList_appv rfl (.tmp 5) (.tmp 9) 42 rfl _ _ rfl rfl _ W1 HRUN.out ?_)
  go_ret
  exact ⟨hlat.trans la, _, _, rfl, hlat.size, hn, HR.out⟩

set_option maxHeartbeats 2000000 in
theorem rlist12_any (base b : Nat) (v : Value) (l : List Ex) (w : World) (hT : BL 64 base w b v l) (hl : l.length ≤ 1000) :
    Calls Try.prog 27 #[.pointer (some ⟨b, 0, none⟩)] w fun e w' => Later w w' ∧ ∃ u, e = .returned u ∧ w'.ownsRow w.heap.size 26 9 u l.length (exs l) := by
  have la0 : Later w (w.alloc (.cells #[] 26)) := (Below.refl _ _).alloc (Nat.le_refl _) _
  have k0 := block_cell (later_keep la0 hT.2.1)
  obtain ⟨u, W1, hrun, hrow, hlat⟩ := copyE w 42 w.heap.size v l (ownE_rd hT.2.2) (Nat.le_refl _) (by omega)
  obtain ⟨av, cv, rfl, _, _⟩ := (ownE_rd hT.2.2).slice
  obtain ⟨au, cu, rfl, _, _⟩ := (ownE_rd hrow).slice
  have HRUN := hide hrun
  have HR := hide hrow
  clear hrun hrow
  go_enter Try.func27, Try.ntmps27
  go_wp2_with (at_builtin; refine wpList_appv rfl (.tmp 5) (.tmp 9) 42 rfl _ _ rfl rfl _ W1 HRUN.out ?_)
  go_ret
  exact ⟨hlat, _, rfl, HR.out⟩

set_option maxHeartbeats 4000000 in
theorem same12_eq (n₀ : Nat) (u v : Value) (l : List Ex) (w : World) (hA : RdV n₀ w u l) (hB : RdV n₀ w v l) (hn : n₀ ≤ w.heap.size) (hl : l.length ≤ 1000) :
    Calls Try.prog 21 #[u, v] w fun e w' => e = .returned (.bool true) ∧ Later w w' := by
  obtain ⟨su, cu, rfl, _, _⟩ := hA.slice
  obtain ⟨sv, cv, rfl, _, _⟩ := hB.slice
  have HA := hide hA
  have HB := hide hB
  have hli : (l.length : Int) ≤ 1000 := by omega
  clear hA hB
  go_enter Try.func21, Try.ntmps21
  go_wp2_with fail
  go_loopw [5] (fun i wr => ∃ k : Nat, k ≤ l.length ∧ i = .int .i64 (k : Int) ∧ Later w wr) (fun i _ => l.length - (intOf i).toNat)
  case atStart => exact ⟨0, by omega, rfl, Later.refl _⟩
  case round =>
    obtain ⟨k, hk, rfl, lr⟩ := hrel
    by_cases hkl : k < l.length
    · have hkl' : (k : Int) < l.length := by omega
      obtain ⟨g1, o1, cp1, e, _, _, _, hcs1⟩ := (HA.out.below (lr.mono hn)).cells (by omega)
      simp at e
      obtain ⟨rfl, rfl⟩ := e
      obtain ⟨g2, o2, cp2, e, _, _, _, hcs2⟩ := (HB.out.below (lr.mono hn)).cells (by omega)
      simp at e
      obtain ⟨rfl, rfl⟩ := e
      have c0 := hcs1 k hkl 0 (by omega)
      have c1 := hcs1 k hkl 1 (by omega)
      have c2 := hcs1 k hkl 2 (by omega)
      have c3 := hcs1 k hkl 3 (by omega)
      have c4 := hcs1 k hkl 4 (by omega)
      have c5 := hcs1 k hkl 5 (by omega)
      have c6 := hcs1 k hkl 6 (by omega)
      have c7 := hcs1 k hkl 7 (by omega)
      have c8 := hcs1 k hkl 8 (by omega)
      have d0 := hcs2 k hkl 0 (by omega)
      have d1 := hcs2 k hkl 1 (by omega)
      have d2 := hcs2 k hkl 2 (by omega)
      have d3 := hcs2 k hkl 3 (by omega)
      have d4 := hcs2 k hkl 4 (by omega)
      have d5 := hcs2 k hkl 5 (by omega)
      have d6 := hcs2 k hkl 6 (by omega)
      have d7 := hcs2 k hkl 7 (by omega)
      have d8 := hcs2 k hkl 8 (by omega)
      clear hcs1 hcs2
      generalize l[k] = r at *
      simp only [exc, List.getElem?_cons_zero, List.getElem?_cons_succ, Nat.add_zero] at c0 c1 c2 c3 c4 c5 c6 c7 c8 d0 d1 d2 d3 d4 d5 d6 d7 d8
      go_upto_region 6 with fail
      go_quiet (fail)
      go_wp2_with fail
      go_roundw
      case rel => exact ⟨k + 1, by omega, by go_num, lr.trans (below_draw (Later.refl _) _)⟩
      case measure => simp [intOf]; omega
    · obtain rfl : k = l.length := by omega
      go_wp2_with fail
      go_ret
      exact ⟨rfl, lr⟩

set_option maxHeartbeats 8000000 in
theorem rgone12_any (base b : Nat) (v : Value) (l : List Ex) (m : Int) (w : World) (hT : BL 64 base w b v l) (hbs : base ≤ w.heap.size) (hl : l.length ≤ 1000) :
    Calls Try.prog 42 #[.pointer (some ⟨b, 0, none⟩), .int .i64 m] w fun e w' => ∃ u, e = .returned u ∧ TkO 64 base w w' b (l.filter (fun x => decide (x.ms = m))) (l.filter (fun x => !decide (x.ms = m))) u := by
  obtain ⟨av, cv, rfl, _, _⟩ := (ownE_rd hT.2.2).slice
  have hli : (l.length : Int) ≤ 1000 := by omega
  have hbl := hT.blt
  go_enter Try.func42, Try.ntmps42
  go_wp2_with fail
  go_loopw [5, 6, 7] (fun u1 u2 i wr => ∃ k : Nat, k ≤ l.length ∧ i = .int .i64 (k : Int) ∧ Two w.heap.size wr u1 u2 ((l.take k).filter (fun x => decide (x.ms = m))) ((l.take k).filter (fun x => !decide (x.ms = m))) ∧ Later w wr) (fun _ _ i _ => l.length - (intOf i).toNat)
  case atStart => exact ⟨0, by omega, rfl, ⟨World.ownsRow_nil _ _ _ _, World.ownsRow_nil _ _ _ _, fun g h => by cases h⟩, Later.refl _⟩
  case round =>
    obtain ⟨k, hk, rfl, hTw, lr⟩ := hrel
    obtain ⟨s1, k1, rfl⟩ := ownE_slice hTw.1
    obtain ⟨s2, k2, rfl⟩ := ownE_slice hTw.2.1
    have HTW := hide hTw
    clear hTw
    have hTr := hT.later lr
    have kb := block_cell hTr.2.1
    have hws : w.heap.size ≤ wr.heap.size := lr.size
    have hlA : ((l.take k).filter (fun x => decide (x.ms = m))).length ≤ 1000 := Nat.le_trans (List.length_filter_le _ _) (by simp; omega)
    have hlB : ((l.take k).filter (fun x => !decide (x.ms = m))).length ≤ 1000 := Nat.le_trans (List.length_filter_le _ _) (by simp; omega)
    by_cases hkl : k < l.length
    · obtain ⟨g, off, cp, e, _, _, hgn, hcs⟩ := (ownE_rd hTr.2.2).cells (by omega)
      simp at e
      obtain ⟨rfl, rfl⟩ := e
      have c0 := hcs k hkl 0 (by omega)
      have c1 := hcs k hkl 1 (by omega)
      have c2 := hcs k hkl 2 (by omega)
      have c3 := hcs k hkl 3 (by omega)
      have c4 := hcs k hkl 4 (by omega)
      have c5 := hcs k hkl 5 (by omega)
      have c6 := hcs k hkl 6 (by omega)
      have c7 := hcs k hkl 7 (by omega)
      have c8 := hcs k hkl 8 (by omega)
      have hkl' : (k : Int) < l.length := by omega
      have htk : l.take (k + 1) = l.take k ++ [l[k]] := (List.take_append_getElem hkl).symm
      have HFA : Hid (∀ c, decide (l[k].ms = m) = c → (l.take (k + 1)).filter (fun x => decide (x.ms = m)) = if c then (l.take k).filter (fun x => decide (x.ms = m)) ++ [l[k]] else (l.take k).filter (fun x => decide (x.ms = m))) := fun c h => by rw [htk, List.filter_append]; cases c <;> simp [List.filter_cons, h]
      have HFB : Hid (∀ c, decide (l[k].ms = m) = c → (l.take (k + 1)).filter (fun x => !decide (x.ms = m)) = if c then (l.take k).filter (fun x => !decide (x.ms = m)) else (l.take k).filter (fun x => !decide (x.ms = m)) ++ [l[k]]) := fun c h => by rw [htk, List.filter_append]; cases c <;> simp [List.filter_cons, h]
      clear hcs htk
      generalize hFq : (l.take k).filter (fun x => decide (x.ms = m)) = FA at *
      generalize hFn : (l.take k).filter (fun x => !decide (x.ms = m)) = FB at *
      clear hFq hFn
      generalize l[k] = r at *
      simp only [exc, List.getElem?_cons_zero, List.getElem?_cons_succ, Nat.add_zero] at c0 c1 c2 c3 c4 c5 c6 c7 c8
      by_cases hq : r.ms = m
      · obtain ⟨g2, cp2, W3, hrun, hrow, hbt, hob, _⟩ := app1E wr 42 w.heap.size (.slice s1 FA.length k1) FA r HTW.out.1 hws (by omega)
        have HRUN := hide hrun
        have HE1 := hide (HFA.out true (decide_eq_true hq))
        have HE2 := hide (HFB.out true (decide_eq_true hq))
        have HN : Hid (Two w.heap.size W3 (.slice (some ⟨g2, 0, none⟩) (FA.length + 1) cp2) (.slice s2 FB.length k2) (FA ++ [r]) FB ∧ Later w W3) := ⟨⟨hrow, ownE_but HTW.out.2.1 hbt (fun g hg e => HTW.out.2.2 g e hg), fun g hg e => by
          cases hg
          rcases hob with h | h
          · exact HTW.out.2.2 _ h e
          · have : g2 < wr.heap.size := (ownE_lt HTW.out.2.1 e).2
            omega⟩, Below.trans lr (hbt.below hws (fun x hx e => by have := (ownE_lt HTW.out.1 e).1; omega))⟩
        clear hrun hrow hbt hob HFA HFB
        subst hq
        go_wp2_with (at_builtin; refine wpList_appv rfl (.tmp 31) (.tmp 39) 42 rfl _ _ rfl rfl _ W3 HRUN.out ?_)
        go_roundw
        case rel => exact ⟨k + 1, by omega, by go_num, by rw [HE1.out, HE2.out]; exact HN.out.1, HN.out.2⟩
        case measure => simp [intOf]; omega
      · obtain ⟨g2, cp2, W3, hrun, hrow, hbt, hob, _⟩ := app1E wr 42 w.heap.size (.slice s2 FB.length k2) FB r HTW.out.2.1 hws (by omega)
        have HRUN := hide hrun
        have HE1 := hide (HFA.out false (decide_eq_false hq))
        have HE2 := hide (HFB.out false (decide_eq_false hq))
        have HN : Hid (Two w.heap.size W3 (.slice s1 FA.length k1) (.slice (some ⟨g2, 0, none⟩) (FB.length + 1) cp2) FA (FB ++ [r]) ∧ Later w W3) := ⟨⟨ownE_but HTW.out.1 hbt (fun g hg e => HTW.out.2.2 g hg e), hrow, fun g hg e => by
          cases e
          rcases hob with h | h
          · exact HTW.out.2.2 _ hg h
          · have : g2 < wr.heap.size := (ownE_lt HTW.out.1 hg).2
            omega⟩, Below.trans lr (hbt.below hws (fun x hx e => by have := (ownE_lt HTW.out.2.1 e).1; omega))⟩
        clear hrun hrow hbt hob HFA HFB
        go_wp2_with (at_builtin; refine wpList_appv rfl (.tmp 41) (.tmp 49) 42 rfl _ _ rfl rfl _ W3 HRUN.out ?_)
        go_roundw
        case rel => exact ⟨k + 1, by omega, by go_num, by rw [HE1.out, HE2.out]; exact HN.out.1, HN.out.2⟩
        case measure => simp [intOf]; omega
    · obtain rfl : k = l.length := by omega
      simp only [List.take_length] at *
      have fb := block_frozen hTr.2.1
      generalize hFq : l.filter (fun x => decide (x.ms = m)) = FA at *
      generalize hFn : l.filter (fun x => !decide (x.ms = m)) = FB at *
      have HFq := hide hFq
      have HFn := hide hFn
      clear hFq hFn
      go_wp2_with fail
      go_ret
      have hbt : But (fun g => g = b) wr (wr.setCell ⟨b, 0, none⟩ (.slice s2 FB.length k2)) := (But.refl (fun g => g = b) _).setCell (p := ⟨b, 0, none⟩) rfl _
      rw [HFq.out, HFn.out]
      refine ⟨_, rfl, .slice s2 FB.length k2, ⟨hT.1, by simpa using heap_set1 hTr.2.1 0 (.slice s2 FB.length k2), ?_⟩, ?_, (But.of lr).trans hbt, fun g hg => (ownE_lt HTW.out.2.1 hg).1⟩
      · exact BL.mono' (t := 0) (b := 0) (ownE_but HTW.out.2.1 hbt (fun g hg e => by have := (ownE_lt HTW.out.2.1 hg).1; omega)) hbs
      · exact ownE_but HTW.out.1 hbt (fun g hg e => by have := (ownE_lt HTW.out.1 hg).1; omega)

set_option maxHeartbeats 8000000 in
theorem rdue12_any (base b : Nat) (v : Value) (l : List Ex) (m : Int) (w : World) (hT : BL 64 base w b v l) (hbs : base ≤ w.heap.size) (hl : l.length ≤ 1000) :
    Calls Try.prog 43 #[.pointer (some ⟨b, 0, none⟩), .int .i64 m] w fun e w' => ∃ u, e = .returned u ∧ TkO 64 base w w' b (l.filter (fun x => decide (x.dl ≤ m))) (l.filter (fun x => !decide (x.dl ≤ m))) u := by
  obtain ⟨av, cv, rfl, _, _⟩ := (ownE_rd hT.2.2).slice
  have hli : (l.length : Int) ≤ 1000 := by omega
  have hbl := hT.blt
  go_enter Try.func43, Try.ntmps43
  go_wp2_with fail
  go_loopw [5, 6, 7] (fun u1 u2 i wr => ∃ k : Nat, k ≤ l.length ∧ i = .int .i64 (k : Int) ∧ Two w.heap.size wr u1 u2 ((l.take k).filter (fun x => decide (x.dl ≤ m))) ((l.take k).filter (fun x => !decide (x.dl ≤ m))) ∧ Later w wr) (fun _ _ i _ => l.length - (intOf i).toNat)
  case atStart => exact ⟨0, by omega, rfl, ⟨World.ownsRow_nil _ _ _ _, World.ownsRow_nil _ _ _ _, fun g h => by cases h⟩, Later.refl _⟩
  case round =>
    obtain ⟨k, hk, rfl, hTw, lr⟩ := hrel
    obtain ⟨s1, k1, rfl⟩ := ownE_slice hTw.1
    obtain ⟨s2, k2, rfl⟩ := ownE_slice hTw.2.1
    have HTW := hide hTw
    clear hTw
    have hTr := hT.later lr
    have kb := block_cell hTr.2.1
    have hws : w.heap.size ≤ wr.heap.size := lr.size
    have hlA : ((l.take k).filter (fun x => decide (x.dl ≤ m))).length ≤ 1000 := Nat.le_trans (List.length_filter_le _ _) (by simp; omega)
    have hlB : ((l.take k).filter (fun x => !decide (x.dl ≤ m))).length ≤ 1000 := Nat.le_trans (List.length_filter_le _ _) (by simp; omega)
    by_cases hkl : k < l.length
    · obtain ⟨g, off, cp, e, _, _, hgn, hcs⟩ := (ownE_rd hTr.2.2).cells (by omega)
      simp at e
      obtain ⟨rfl, rfl⟩ := e
      have c0 := hcs k hkl 0 (by omega)
      have c1 := hcs k hkl 1 (by omega)
      have c2 := hcs k hkl 2 (by omega)
      have c3 := hcs k hkl 3 (by omega)
      have c4 := hcs k hkl 4 (by omega)
      have c5 := hcs k hkl 5 (by omega)
      have c6 := hcs k hkl 6 (by omega)
      have c7 := hcs k hkl 7 (by omega)
      have c8 := hcs k hkl 8 (by omega)
      have hkl' : (k : Int) < l.length := by omega
      have htk : l.take (k + 1) = l.take k ++ [l[k]] := (List.take_append_getElem hkl).symm
      have HFA : Hid (∀ c, decide (l[k].dl ≤ m) = c → (l.take (k + 1)).filter (fun x => decide (x.dl ≤ m)) = if c then (l.take k).filter (fun x => decide (x.dl ≤ m)) ++ [l[k]] else (l.take k).filter (fun x => decide (x.dl ≤ m))) := fun c h => by rw [htk, List.filter_append]; cases c <;> simp [List.filter_cons, h]
      have HFB : Hid (∀ c, decide (l[k].dl ≤ m) = c → (l.take (k + 1)).filter (fun x => !decide (x.dl ≤ m)) = if c then (l.take k).filter (fun x => !decide (x.dl ≤ m)) else (l.take k).filter (fun x => !decide (x.dl ≤ m)) ++ [l[k]]) := fun c h => by rw [htk, List.filter_append]; cases c <;> simp [List.filter_cons, h]
      clear hcs htk
      generalize hFq : (l.take k).filter (fun x => decide (x.dl ≤ m)) = FA at *
      generalize hFn : (l.take k).filter (fun x => !decide (x.dl ≤ m)) = FB at *
      clear hFq hFn
      generalize l[k] = r at *
      simp only [exc, List.getElem?_cons_zero, List.getElem?_cons_succ, Nat.add_zero] at c0 c1 c2 c3 c4 c5 c6 c7 c8
      by_cases hq : r.dl ≤ m
      · obtain ⟨g2, cp2, W3, hrun, hrow, hbt, hob, _⟩ := app1E wr 42 w.heap.size (.slice s1 FA.length k1) FA r HTW.out.1 hws (by omega)
        have HRUN := hide hrun
        have HE1 := hide (HFA.out true (decide_eq_true hq))
        have HE2 := hide (HFB.out true (decide_eq_true hq))
        have HN : Hid (Two w.heap.size W3 (.slice (some ⟨g2, 0, none⟩) (FA.length + 1) cp2) (.slice s2 FB.length k2) (FA ++ [r]) FB ∧ Later w W3) := ⟨⟨hrow, ownE_but HTW.out.2.1 hbt (fun g hg e => HTW.out.2.2 g e hg), fun g hg e => by
          cases hg
          rcases hob with h | h
          · exact HTW.out.2.2 _ h e
          · have : g2 < wr.heap.size := (ownE_lt HTW.out.2.1 e).2
            omega⟩, Below.trans lr (hbt.below hws (fun x hx e => by have := (ownE_lt HTW.out.1 e).1; omega))⟩
        clear hrun hrow hbt hob HFA HFB
        go_wp2_with (at_builtin; refine wpList_appv rfl (.tmp 31) (.tmp 39) 42 rfl _ _ rfl rfl _ W3 HRUN.out ?_)
        go_roundw
        case rel => exact ⟨k + 1, by omega, by go_num, by rw [HE1.out, HE2.out]; exact HN.out.1, HN.out.2⟩
        case measure => simp [intOf]; omega
      · obtain ⟨g2, cp2, W3, hrun, hrow, hbt, hob, _⟩ := app1E wr 42 w.heap.size (.slice s2 FB.length k2) FB r HTW.out.2.1 hws (by omega)
        have HRUN := hide hrun
        have HE1 := hide (HFA.out false (decide_eq_false hq))
        have HE2 := hide (HFB.out false (decide_eq_false hq))
        have HN : Hid (Two w.heap.size W3 (.slice s1 FA.length k1) (.slice (some ⟨g2, 0, none⟩) (FB.length + 1) cp2) FA (FB ++ [r]) ∧ Later w W3) := ⟨⟨ownE_but HTW.out.1 hbt (fun g hg e => HTW.out.2.2 g hg e), hrow, fun g hg e => by
          cases e
          rcases hob with h | h
          · exact HTW.out.2.2 _ hg h
          · have : g2 < wr.heap.size := (ownE_lt HTW.out.1 hg).2
            omega⟩, Below.trans lr (hbt.below hws (fun x hx e => by have := (ownE_lt HTW.out.2.1 e).1; omega))⟩
        clear hrun hrow hbt hob HFA HFB
        go_wp2_with (at_builtin; refine wpList_appv rfl (.tmp 41) (.tmp 49) 42 rfl _ _ rfl rfl _ W3 HRUN.out ?_)
        go_roundw
        case rel => exact ⟨k + 1, by omega, by go_num, by rw [HE1.out, HE2.out]; exact HN.out.1, HN.out.2⟩
        case measure => simp [intOf]; omega
    · obtain rfl : k = l.length := by omega
      simp only [List.take_length] at *
      have fb := block_frozen hTr.2.1
      generalize hFq : l.filter (fun x => decide (x.dl ≤ m)) = FA at *
      generalize hFn : l.filter (fun x => !decide (x.dl ≤ m)) = FB at *
      have HFq := hide hFq
      have HFn := hide hFn
      clear hFq hFn
      go_wp2_with fail
      go_ret
      have hbt : But (fun g => g = b) wr (wr.setCell ⟨b, 0, none⟩ (.slice s2 FB.length k2)) := (But.refl (fun g => g = b) _).setCell (p := ⟨b, 0, none⟩) rfl _
      rw [HFq.out, HFn.out]
      refine ⟨_, rfl, .slice s2 FB.length k2, ⟨hT.1, by simpa using heap_set1 hTr.2.1 0 (.slice s2 FB.length k2), ?_⟩, ?_, (But.of lr).trans hbt, fun g hg => (ownE_lt HTW.out.2.1 hg).1⟩
      · exact BL.mono' (t := 0) (b := 0) (ownE_but HTW.out.2.1 hbt (fun g hg e => by have := (ownE_lt HTW.out.2.1 hg).1; omega)) hbs
      · exact ownE_but HTW.out.1 hbt (fun g hg e => by have := (ownE_lt HTW.out.1 hg).1; omega)

end Go.Proofs.Ytbimdhapkbdmjaa
