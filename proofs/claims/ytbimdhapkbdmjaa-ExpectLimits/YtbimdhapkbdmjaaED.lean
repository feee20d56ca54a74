/- Package expect: those that are wanted and the others. -/
import Derived.Test.YtbimdhapkbdmjaaEC
namespace Go.Proofs.Ytbimdhapkbdmjaa
open Go.RowKit Go.Shelf
set_option maxRecDepth 100000
set_option linter.unusedVariables false
set_option linter.unusedSimpArgs false

theorem containsF_any (n₀ cf : Nat) (lb : Array Value) (v : Value) (l : List Ex) (q : Ex → Bool) (w : World) (hR : RdV n₀ w v l) (hn : n₀ ≤ w.heap.size) (hl : l.length ≤ 5000)
    (eg : ∀ args w, (callFunc cf args).run Try.prog w = .ok (.enter cf args) w)
    (hcl : ∀ x ∈ l, ∀ W, Later w W → Calls Try.prog cf (#[.agg (exc x).toArray] ++ lb) W fun e W' => e = .returned (.bool (q x)) ∧ Later W W') :
    Calls Try.prog 28 #[v, .func (.func cf) #[] lb] w fun e w' => e = .returned (.bool (l.any q)) ∧ Later w w' := by
  have HIX := hide (index12_any n₀ cf lb v l q w hR hn hl eg hcl)
  obtain ⟨sa, cap, rfl, hc1, hc2⟩ := hR.slice
  clear hR hcl eg
  go_enter Try.func28, Try.ntmps28
  go_wp2_with fail
  refine HIX.out.mono ?_
  rintro e w1 ⟨⟨k, hk, rfl, hq, _⟩ | ⟨rfl, hno⟩, l1⟩
  · have HF : Hid (l.any q = true) := by show _ = _; rw [List.any_eq_true]; exact ⟨l[k], List.getElem_mem hk, hq⟩
    clear hq hk
    go_wp2_with fail
    go_ret
    exact ⟨by rw [HF.out]; first | rfl | simp, l1⟩
  · have HF : Hid (l.any q = false) := by show _ = _; rw [List.any_eq_false]; intro x hx; rw [hno x hx]; simp
    clear hno
    go_wp2_with fail
    go_ret
    exact ⟨by rw [HF.out]; first | rfl | simp, l1⟩

/-- One more behind one's own. -/
theorem app1E (W : World) (ty : TypeId) (base : Nat) (v : Value) (xs : List Ex) (x : Ex) (hown : W.ownsRow base 26 9 v xs.length (exs xs)) (hb : base ≤ W.heap.size) (hs : xs.length ≤ 5000) :
    ∃ g cap W', (Builtin.append_ #[42, 42] ty #[v, .slice (some ⟨W.heap.size, 0, none⟩) 1 1]).run Try.prog (W.alloc (.cells (exc x).toArray 26)) = .ok (.slice (some ⟨g, 0, none⟩) (xs.length + 1) cap) W' ∧ W'.ownsRow base 26 9 (.slice (some ⟨g, 0, none⟩) (xs.length + 1) cap) (xs ++ [x]).length (exs (xs ++ [x])) ∧ But (fun b => v.ownBlock = some b) W W' ∧ (v.ownBlock = some g ∨ W.heap.size ≤ g) ∧ (W.alloc (.cells (exc x).toArray 26)).grownBy W' v.ownBlock := by
  have la : Later W (W.alloc (.cells (exc x).toArray 26)) := (Below.refl _ _).alloc (Nat.le_refl _) _
  have hn := heap_alloc_new W (.cells (exc x).toArray 26)
  have hI : RdV (W.heap.size + 1) (W.alloc (.cells (exc x).toArray 26)) (.slice (some ⟨W.heap.size, 0, none⟩) 1 1) [x] := .inr ⟨W.heap.size, 0, 1, rfl, by simp, by simp, by omega, by omega, fun j hj i hi => by
    obtain rfl : j = 0 := by simpa using hj
    rw [show 0 + 0 * 9 + i = i from by omega, block_cell hn i]
    simp⟩
  obtain ⟨v', w', h1, h2, h3, h4⟩ := appE (W.alloc (.cells (exc x).toArray 26)) ty base (W.heap.size + 1) v xs _ [x] (ownE_later hown la) hI (by have := la.size; omega) (by simp; omega)
  have h2' := h2
  rw [show (xs ++ [x]).length = xs.length + 1 from by simp] at h2'
  obtain ⟨g, cap, rfl⟩ := ownsRow_succ h2'
  refine ⟨g, cap, w', h1, h2, (But.of la).trans ⟨h3.os, h3.tape, h3.output, h3.size, fun k hk he => h3.block k hk (fun e => he e.symm)⟩, ?_, h3⟩
  rcases h4 with h4 | h4
  · exact .inl h4.symm
  · right
    simp [Value.ownBlock] at h4
    omega
theorem ownE_but {E : Nat → Prop} {base : Nat} {A B : World} {v : Value} {n : Nat} {xs : List Value} (h : A.ownsRow base 26 9 v n xs) (k : But E A B) (hE : ∀ g, v.ownBlock = some g → ¬ E g) : B.ownsRow base 26 9 v n xs := by
  obtain ⟨h1, h2 | ⟨g, cap, cur, hv, hg, hh, r⟩⟩ := h
  · exact ⟨h1, .inl h2⟩
  · exact ⟨h1, .inr ⟨g, cap, cur, hv, hg, (k.block g (Array.getElem?_eq_some_iff.1 hh).1 (hE g (by rw [hv]; rfl))).trans hh, r⟩⟩
theorem ownE_lt {base : Nat} {W : World} {v : Value} {n : Nat} {xs : List Value} (h : W.ownsRow base 26 9 v n xs) {g : Nat} (e : v.ownBlock = some g) : base ≤ g ∧ g < W.heap.size := h.lt g e
theorem ownE_slice {base : Nat} {A : World} {v : Value} {n : Nat} {xs : List Value} (h : A.ownsRow base 26 9 v n xs) : ∃ sa cap, v = .slice sa n cap := by
  obtain ⟨h1, ⟨rfl, rfl⟩ | ⟨g, cap, cur, hv, hg, r⟩⟩ := h
  · exact ⟨_, _, rfl⟩
  · exact ⟨_, _, hv⟩

/-- Two lists of one's own that share nothing. -/
def Two (base : Nat) (W : World) (u v : Value) (xs ys : List Ex) : Prop := W.ownsRow base 26 9 u xs.length (exs xs) ∧ W.ownsRow base 26 9 v ys.length (exs ys) ∧ ∀ g, u.ownBlock = some g → v.ownBlock ≠ some g
theorem Two.later {base : Nat} {A B : World} {u v : Value} {xs ys : List Ex} (h : Two base A u v xs ys) (k : Later A B) : Two base B u v xs ys := ⟨ownE_later h.1 k, ownE_later h.2.1 k, h.2.2⟩

set_option maxHeartbeats 8000000 in
theorem split12_any (n₀ cf : Nat) (lb : Array Value) (v : Value) (l : List Ex) (q : Ex → Bool) (w : World) (hR : RdV n₀ w v l) (hn : n₀ ≤ w.heap.size) (hl : l.length ≤ 1000)
    (eg : ∀ args w, (callFunc cf args).run Try.prog w = .ok (.enter cf args) w)
    (hcl : ∀ x ∈ l, ∀ W, Later w W → Calls Try.prog cf (#[.agg (exc x).toArray] ++ lb) W fun e W' => e = .returned (.bool (q x)) ∧ Later W W') :
    Calls Try.prog 46 #[v, .func (.func cf) #[] lb] w fun e w' => Later w w' ∧ ∃ u1 u2, e = .returned (.tuple #[u1, u2]) ∧ Two w.heap.size w' u1 u2 (l.filter q) (l.filter (fun x => !q x)) := by
  obtain ⟨sa, cap, rfl, hc1, hc2⟩ := hR.slice
  have HR := hide hR
  have HCL := hide hcl
  have HEG := hide eg
  have hli : (l.length : Int) ≤ 1000 := by omega
  clear hR hcl eg
  go_enter Try.func46, Try.ntmps46
  go_wp2_with fail
  go_loopw [4, 5, 10] (fun u1 u2 i wr => ∃ k : Nat, k ≤ l.length ∧ i = .int .i64 (k : Int) ∧ Two w.heap.size wr u1 u2 ((l.take k).filter q) ((l.take k).filter (fun x => !q x)) ∧ Later w wr) (fun _ _ i _ => l.length - (intOf i).toNat)
  case atStart => exact ⟨0, by omega, rfl, ⟨World.ownsRow_nil _ _ _ _, World.ownsRow_nil _ _ _ _, fun g h => by cases h⟩, Later.refl _⟩
  case round =>
    obtain ⟨k, hk, rfl, hTw, lr⟩ := hrel
    obtain ⟨s1, k1, rfl⟩ := ownE_slice hTw.1
    obtain ⟨s2, k2, rfl⟩ := ownE_slice hTw.2.1
    have HTW := hide hTw
    clear hTw
    have hlA : ((l.take k).filter q).length ≤ 1000 := Nat.le_trans (List.length_filter_le _ _) (by simp; omega)
    have hlB : ((l.take k).filter (fun x => !q x)).length ≤ 1000 := Nat.le_trans (List.length_filter_le _ _) (by simp; omega)
    by_cases hkl : k < l.length
    · obtain ⟨g, off, cp, e, _, _, hgn, hcs⟩ := (HR.out.below (lr.mono hn)).cells (by omega)
      simp at e
      obtain ⟨rfl, rfl⟩ := e
      have c0 := hcs k hkl 0 (by omega)
      have c1 := hcs k hkl 1 (by omega)
      have c2 := hcs k hkl 2 (by omega)
      have c3 := hcs k hkl 3 (by omega)
      have c4 := hcs k hkl 4 (by omega)
      have c5 := hcs k hkl 5 (by omega)
      have c6 := hcs k hkl 6 (by omega)
      have c7 := hcs k hkl 7 (by omega)
      have c8 := hcs k hkl 8 (by omega)
      have hkl' : (k : Int) < l.length := by omega
      have htk : l.take (k + 1) = l.take k ++ [l[k]] := (List.take_append_getElem hkl).symm
      have HFA : Hid (∀ b, q l[k] = b → (l.take (k + 1)).filter q = if b then (l.take k).filter q ++ [l[k]] else (l.take k).filter q) := fun b h => by rw [htk, List.filter_append]; cases b <;> simp [h]
      have HFB : Hid (∀ b, q l[k] = b → (l.take (k + 1)).filter (fun x => !q x) = if b then (l.take k).filter (fun x => !q x) else (l.take k).filter (fun x => !q x) ++ [l[k]]) := fun b h => by rw [htk, List.filter_append]; cases b <;> simp [h]
      have HC := hide (HCL.out l[k] (List.getElem_mem hkl))
      clear hcs htk
      generalize hFq : (l.take k).filter q = FA at *
      generalize hFn : (l.take k).filter (fun x => !q x) = FB at *
      clear hFq hFn
      generalize l[k] = r at *
      simp only [exc, List.getElem?_cons_zero, List.getElem?_cons_succ, Nat.add_zero] at c0 c1 c2 c3 c4 c5 c6 c7 c8
      have la : Later wr (wr.alloc (.cells #[.int .u8 r.pr, .int .u32 r.src, .int .u32 r.dst, .int .u16 r.sp, .int .u16 r.dp, .int .u32 r.host, .int .u16 r.hp, .int .i64 r.ms, .int .i64 r.dl] 26)) := (Below.refl _ _).alloc (Nat.le_refl _) _
      have cB := heap_alloc_new wr (.cells #[.int .u8 r.pr, .int .u32 r.src, .int .u32 r.dst, .int .u16 r.sp, .int .u16 r.dp, .int .u32 r.host, .int .u16 r.hp, .int .i64 r.ms, .int .i64 r.dl] 26)
      have kB := block_cell cB
      have hws : w.heap.size ≤ wr.heap.size := lr.size
      go_wp2_with fail
      generalize wr.alloc (.cells #[.int .u8 r.pr, .int .u32 r.src, .int .u32 r.dst, .int .u16 r.sp, .int .u16 r.dp, .int .u32 r.host, .int .u16 r.hp, .int .i64 r.ms, .int .i64 r.dl] 26) = w1 at *
      clear c0 c1 c2 c3 c4 c5 c6 c7 c8 kB
      rw [HEG.out]
      simp only [Oper.upon]
      have L1 : Later w w1 := lr.trans la
      refine (HC.out w1 L1).mono ?_
      rintro e w2 ⟨rfl, l2⟩
      have L2 : Later w w2 := L1.trans l2
      have kB := block_cell (later_keep l2 cB)
      have HTW2 := hide (HTW.out.later (la.trans l2))
      have hs2 := L2.size
      clear la l2 cB HTW HC
      cases hq : q r with
      | true =>
        obtain ⟨g2, cp2, W3, hrun, hrow, hbt, hob, _⟩ := app1E w2 42 w.heap.size (.slice s1 FA.length k1) FA r HTW2.out.1 hs2 (by omega)
        have HRUN := hide hrun
        have HE1 := hide (HFA.out true hq)
        have HE2 := hide (HFB.out true hq)
        have HN : Hid (Two w.heap.size W3 (.slice (some ⟨g2, 0, none⟩) (FA.length + 1) cp2) (.slice s2 FB.length k2) (FA ++ [r]) FB ∧ Later w W3) := ⟨⟨hrow, ownE_but HTW2.out.2.1 hbt (fun g hg e => HTW2.out.2.2 g e hg), fun g hg e => by
          cases hg
          rcases hob with h | h
          · exact HTW2.out.2.2 _ h e
          · have : g2 < w2.heap.size := (ownE_lt HTW2.out.2.1 e).2
            omega⟩, Below.trans L2 (hbt.below hs2 (fun x hx e => by have := (ownE_lt HTW2.out.1 e).1; omega))⟩
        clear hq hrun hrow hbt hob HFA HFB
        go_wp2_with (at_builtin; refine wpList_appv rfl (.tmp 17) (.tmp 19) 42 rfl _ _ rfl rfl _ W3 HRUN.out ?_)
        go_roundw
        case rel => exact ⟨k + 1, by omega, by go_num, by rw [HE1.out, HE2.out]; exact HN.out.1, HN.out.2⟩
        case measure => simp [intOf]; omega
      | false =>
        obtain ⟨g2, cp2, W3, hrun, hrow, hbt, hob, _⟩ := app1E w2 42 w.heap.size (.slice s2 FB.length k2) FB r HTW2.out.2.1 hs2 (by omega)
        have HRUN := hide hrun
        have HE1 := hide (HFA.out false hq)
        have HE2 := hide (HFB.out false hq)
        have HN : Hid (Two w.heap.size W3 (.slice s1 FA.length k1) (.slice (some ⟨g2, 0, none⟩) (FB.length + 1) cp2) FA (FB ++ [r]) ∧ Later w W3) := ⟨⟨ownE_but HTW2.out.1 hbt (fun g hg e => HTW2.out.2.2 g hg e), hrow, fun g hg e => by
          cases e
          rcases hob with h | h
          · exact HTW2.out.2.2 _ hg h
          · have : g2 < w2.heap.size := (ownE_lt HTW2.out.1 hg).2
            omega⟩, Below.trans L2 (hbt.below hs2 (fun x hx e => by have := (ownE_lt HTW2.out.2.1 e).1; omega))⟩
        clear hq hrun hrow hbt hob HFA HFB
        go_wp2_with (at_builtin; refine wpList_appv rfl (.tmp 21) (.tmp 23) 42 rfl _ _ rfl rfl _ W3 HRUN.out ?_)
        go_roundw
        case rel => exact ⟨k + 1, by omega, by go_num, by rw [HE1.out, HE2.out]; exact HN.out.1, HN.out.2⟩
        case measure => simp [intOf]; omega
    · obtain rfl : k = l.length := by omega
      rw [List.take_length] at HTW
      simp only [List.take_length] at *
      go_wp2_with fail
      refine bodyPost_ret (v := .tuple #[.slice s1 (l.filter q).length k1, .slice s2 (l.filter (fun x => !q x)).length k2]) (by simp [results, Try.results46, go_sem]) rfl ?_
      exact ⟨lr, _, _, rfl, HTW.out⟩
end Go.Proofs.Ytbimdhapkbdmjaa
