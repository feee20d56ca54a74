/- Package rules: List. -/
import Derived.Test.YtgjemeibaghfaabYI
namespace Go.Proofs.Ytgjemeibaghfaab
open Go.RowKit Go.Shelf
set_option maxRecDepth 100000
attribute [local go_sem] Oper.semAt_some
set_option linter.unusedVariables false
set_option linter.unusedSimpArgs false

theorem hset_ne {W : World} {n m j : Nat} {v : Value} {o : Obj} (h : W.heap[n]? = some o) (hne : n ≠ m) : (W.setCell ⟨m, j, none⟩ v).heap[n]? = some o := (Below.heap_setCell W ⟨m, j, none⟩ v n hne).trans h
theorem ownsU_ct {base : Nat} {e : TypeId} {size : Nat} {A B : World} {v : Value} {n : Nat} {xs : List Value} (h : A.ownsRow base e size v n xs) (c : CT A B) : B.ownsRow base e size v n xs := by
  obtain ⟨h1, h2 | ⟨g, cap, cur, hv, hg, hh, r⟩⟩ := h
  · exact ⟨h1, .inl h2⟩
  · exact ⟨h1, .inr ⟨g, cap, cur, hv, hg, c.2 _ _ hh rfl, r⟩⟩
/-- What AppendSeq keeps while it gathers. -/
def PC (rb base : Nat) (pre : List Ru) (W : World) : Prop := ∃ v, W.heap[rb]? = some (.cells #[v] 31 (0, 0)) ∧ W.ownsRow base 30 8 v pre.length (rus pre)
theorem PC.ct {rb base : Nat} {pre : List Ru} {A B : World} (h : PC rb base pre A) (c : CT A B) : PC rb base pre B := by
  obtain ⟨v, h1, h2⟩ := h
  exact ⟨v, c.2 _ _ h1 rfl, ownsU_ct h2 c⟩

set_option maxRecDepth 100000 in
set_option maxHeartbeats 4000000 in
theorem appseq_any (base : Nat) (p : Option Addr) (B : Nat) (ls : List Ru) (w : World) (hT : PL base w p ls) (hl : ls.length ≤ 5000) (hBl : B < w.heap.size) (hB : w.cell? ⟨B, 0, none⟩ = some (.pointer p)) :
    Calls Try.prog 23 #[.slice none 0 0, .func (.func 24) #[] #[.pointer (some ⟨B, 0, none⟩)]] w fun e w' => Later w w' ∧ ∃ v, e = .returned v ∧ w'.ownsRow w.heap.size 30 8 v ls.length (rus ls) := by
  refine (callsIn_wide (n := 5)).1 ?_
  refine callsIn_of_wp_marks Try.func23 rfl trivial ?_ rfl
  simp only [Try.ntmps23, List.size_toArray, List.length_cons, List.length_nil, Nat.reduceAdd, Nat.reduceSub, Array.replicate_succ, Array.replicate_zero, List.push_toArray, List.append_toArray, List.nil_append, List.cons_append]
  have hb4 : Later w (w.alloc (.cells #[.slice none 0 0] 31)) := (Below.refl _ _).alloc (Nat.le_refl _) _
  have c0 := heap_alloc_new w (.cells #[.slice none 0 0] 31)
  have hs4 : (w.alloc (.cells #[.slice none 0 0] 31)).heap.size = w.heap.size + 1 := by simp
  have C0 := hide c0
  have HS4 := hide hs4
  clear c0 hs4
  gi_wp2
  generalize w.alloc (.cells #[.slice none 0 0] 31) = w4 at *
  have hs4 : w4.heap.size = w.heap.size + 1 := HS4.out
  refine wpIn_rangeX (w := w4) rfl (by omega) (gf := 24) (lb := #[.pointer (some ⟨B, 0, none⟩)]) rfl trivial (enters_of Try.func24 (by kernel_rfl) rfl)
    (allU_gen 4 (by omega) B base p ls w w4 hT hb4 (by omega) ((hb4.cell hB)))
    (fun h k => h.trans k) (fun W l o o' hl ho hc hw => belowU_b (w := w4) (by omega) W l o o' hl ho hc hw) (fun hA hL => hL.mono (by omega)) (fun _ _ _ _ h _ => h) (fun _ _ _ _ _ _ _ _ _ h => h) (fun _ => rfl)
    (fun pre W => PC w.heap.size (w.heap.size + 1) pre W ∧ Below w.heap.size w W) (fun pre W => False)
    (OwnFrom.and (fun s A B row hs hg hr => hs.ct (CT.row hg (fun r e => (hr r e).2))) (ownFrom_below (Nat.le_refl _) (by omega)))
    (fun s A B h l => ⟨h.1.ct (CT.of l), h.2.trans (l.mono h.2.size)⟩)
    (fun s A B row hs hg hr => hs)
    ⟨⟨.slice none 0 0, C0.out, rfl, .inl ⟨rfl, rfl⟩⟩, hb4⟩
    (fun x a' W => ∃ bx : Nat, w.heap.size + 1 ≤ bx ∧ W.heap[bx]? = some (.cells #[.int .i64 x.kind, .int .u8 x.proto, .int .u32 x.net, .int .i64 x.bits, .int .u32 x.to, .int .u16 x.port, .int .u32 x.host, .int .u16 x.hp] 30 (0, 0)) ∧ a' = { tmps := #[.slice none 0 0, .func (.func 24) #[] #[.pointer (some ⟨B, 0, none⟩)], .pointer (some ⟨w.heap.size, 0, none⟩), undef, .slice none 0 0, .pointer (some ⟨bx, 0, none⟩), .func (.func 24) #[] #[.pointer (some ⟨B, 0, none⟩)], .agg #[.int .i64 x.kind, .int .u8 x.proto, .int .u32 x.net, .int .i64 x.bits, .int .u32 x.to, .int .u16 x.port, .int .u32 x.host, .int .u16 x.hp], undef, undef, undef, undef, undef], defers := [] })
    (fun x a' W l o o' hl ho hc h => by obtain ⟨bx, h1, h2, h3⟩ := h; exact ⟨bx, h1, (CT.put ho hc).2 _ _ h2 rfl, h3⟩) ?assign ?body ?done ?stop
  case assign =>
    rintro l pre x W K hsz _ hX hK
    dsimp only [encU, ruc]
    gi_wp2
    refine hK _ _ ?_ ⟨W.heap.size, by omega, heap_alloc_new _ _, rfl⟩
    exact (Below.refl _ W).alloc (Nat.le_refl _) _
  case body =>
    rintro l pre x a' W ⟨⟨v, hob, hOw⟩, hbW⟩ hX ⟨bx, hbx, hbo, rfl⟩
    have hbsz := hbW.size
    have Kb := block_cell hbo
    have hobl := (Array.getElem?_eq_some_iff.1 hob).1
    have hbl := (Array.getElem?_eq_some_iff.1 hbo).1
    have hal2 : pre.length ≤ 5000 := by obtain ⟨rest, e⟩ := hX; have := congrArg List.length e; simp at this; omega
    have Kv := block_cell hob
    have Fv := block_frozen hob
    obtain ⟨sa, cap, rfl, _, _⟩ := (ownU_rd hOw).slice
    obtain ⟨i0, hi, hz0, hz1, hz2⟩ := info_partsU info_rule
    have la : Later W (W.alloc (.cells #[.int .i64 x.kind, .int .u8 x.proto, .int .u32 x.net, .int .i64 x.bits, .int .u32 x.to, .int .u16 x.port, .int .u32 x.host, .int .u16 x.hp] 30)) := (Below.refl _ W).alloc (Nat.le_refl _) _
    have hrowA := ownU_later hOw la
    have hnews : ∀ j u, (ruc x)[j]? = some u → (W.alloc (.cells #[.int .i64 x.kind, .int .u8 x.proto, .int .u32 x.net, .int .i64 x.bits, .int .u32 x.to, .int .u16 x.port, .int .u32 x.host, .int .u16 x.hp] 30)).cell? ((⟨W.heap.size, 0, none⟩ : Addr).add j) = some u := new_rowU W x
    have hbl2 : ∀ r, (Value.slice sa pre.length cap).ownBlock = some r → ∃ cur, (W.alloc (.cells #[.int .i64 x.kind, .int .u8 x.proto, .int .u32 x.net, .int .i64 x.bits, .int .u32 x.to, .int .u16 x.port, .int .u32 x.host, .int .u16 x.hp] 30)).heap[r]? = some (.cells cur 30 (0, 0)) ∧ w.heap.size + 1 ≤ r := fun r hr => by
      rcases hrowA.2 with ⟨e, _⟩ | ⟨g, cp, cur, e, hg, hh, _⟩
      · rw [e] at hr; cases hr
      · rw [e] at hr; cases hr
        exact ⟨cur, hh, hg⟩
    have HNW := hide hnews
    have HRA := hide hrowA
    have HB2 := hide hbl2
    clear hnews hrowA hbl2 hOw
    gi_wp2_with (gi_at_builtin; refine wpListIn_append_own _ rfl (.tmp 8) (.tmp 10) 31 rfl (w.heap.size + 1) 30 i0 (.agg #[.int .i64 0, .int .u8 0, .int .u32 0, .int .i64 0, .int .u32 0, .int .u16 0, .int .u32 0, .int .u16 0]) 8 40 Try.underlying31 hi hz0 hz1 hz2 rfl (by decide) _ pre.length (rus pre) rfl HRA.out ⟨W.heap.size, 0, none⟩ 1 1 (ruc x) rfl rfl HNW.out (by intro u hu; simp [ruc] at hu; rcases hu with rfl | rfl | rfl | rfl | rfl | rfl | rfl | rfl <;> rfl) (by simp only [maxLen]; omega) (by omega) (by simp; omega) ?_; intro v2 W2 hrow2 hg2 hnn; obtain ⟨g2, cp2, rfl⟩ := ownsRow_succ hrow2; have hob2 := (hg2.block w.heap.size (by simp; omega) (fun e => by obtain ⟨_, _, h⟩ := HB2.out _ e.symm; omega)).trans ((Below.heap_alloc W _ w.heap.size hobl).trans hob); have Kv2 := block_cell hob2; have Fv2 := block_frozen hob2)
    have hkeep : ∀ i o, W.heap[i]? = some o → some i ≠ (Value.slice sa pre.length cap).ownBlock → i ≠ w.heap.size → (W2.setCell ⟨w.heap.size, 0, none⟩ (.slice (some ⟨g2, 0, none⟩) (pre.length + 1) cp2)).heap[i]? = some o := fun i o hi h1 h2 =>
      hset_ne ((hg2.block i (by have := (Array.getElem?_eq_some_iff.1 hi).1; simp; omega) h1).trans ((Below.heap_alloc W _ i (Array.getElem?_eq_some_iff.1 hi).1).trans hi)) h2
    have hsz2 : W.heap.size + 1 ≤ W2.heap.size := by have := hg2.size; simpa using this
    have hown2 : (W2.setCell ⟨w.heap.size, 0, none⟩ (.slice (some ⟨g2, 0, none⟩) (pre.length + 1) cp2)).ownsRow (w.heap.size + 1) 30 8 (.slice (some ⟨g2, 0, none⟩) (pre.length + 1) cp2) (pre.length + 1) (rus pre ++ ruc x) := by
      refine ⟨hrow2.1, hrow2.2.imp id ?_⟩
      rintro ⟨g, cp, cur, e1, e2, e3, r⟩
      exact ⟨g, cp, cur, e1, e2, hset_ne e3 (by omega), r⟩
    have hbn : Below w.heap.size W (W2.setCell ⟨w.heap.size, 0, none⟩ (.slice (some ⟨g2, 0, none⟩) (pre.length + 1) cp2)) := ⟨hg2.os, hg2.tape, hg2.output, by simp; omega, fun i hi => by
      cases hh : W.heap[i]? with
      | none => have := Array.getElem?_eq_none_iff.1 hh; omega
      | some o => exact hkeep i o hh (fun e => by obtain ⟨_, _, h⟩ := HB2.out _ e.symm; omega) (by omega)⟩
    refine ⟨⟨by simp; omega, fun i o hi ho hc => hkeep i o ho (fun e => ?_) (by omega)⟩, hbn, ⟨.slice (some ⟨g2, 0, none⟩) (pre.length + 1) cp2, heap_set1 hob2 0 _, ?_⟩, hbW.trans hbn⟩
    · obtain ⟨c2, h2, _⟩ := HB2.out i e.symm
      rw [Below.heap_alloc W _ i (Array.getElem?_eq_some_iff.1 ho).1, ho] at h2
      cases h2
      cases hc
    · rw [List.length_append, List.length_singleton, rus_snoc]
      exact hown2
  case done =>
    rintro D xs W hD rfl ⟨⟨v, h1, h2⟩, hbW⟩ hK
    have K1 := block_cell h1
    obtain ⟨sa, cap, rfl, _, _⟩ := (ownU_rd h2).slice
    have H2 := hide h2
    clear h2
    gi_wp2
    refine ⟨by simp, .inl ⟨_, _, rfl, run_takeDeferred hK, ?_⟩⟩
    have h3 := ownsU_ct H2.out (CT.put (o' := .deferred none) hK rfl)
    refine ⟨.slice sa xs.length cap, by simp [results, Try.results23, go_sem], hbW.trans (belowK_b (w := w) (Nat.le_refl _) W D _ _ (by omega) hK rfl rfl), _, rfl, ?_⟩
    obtain ⟨q1, q2 | ⟨g, cp, cur, e1, e2, e3, r⟩⟩ := h3
    · exact ⟨q1, .inl q2⟩
    · exact ⟨q1, .inr ⟨g, cp, cur, e1, by omega, e3, r⟩⟩
  case stop =>
    rintro D pre W hD hSp hF hK
    exact hF.elim

set_option maxHeartbeats 2000000 in
theorem collect_any (base : Nat) (p : Option Addr) (B : Nat) (ls : List Ru) (w : World) (hT : PL base w p ls) (hl : ls.length ≤ 5000) (hBl : B < w.heap.size) (hB : w.cell? ⟨B, 0, none⟩ = some (.pointer p)) :
    Calls Try.prog 14 #[.func (.func 24) #[] #[.pointer (some ⟨B, 0, none⟩)]] w fun e w' => Later w w' ∧ ∃ v, e = .returned v ∧ w'.ownsRow w.heap.size 30 8 v ls.length (rus ls) := by
  go_enter Try.func14, Try.ntmps14
  go_wp2_with fail
  refine (appseq_any base p B ls w hT hl hBl hB).mono ?_
  rintro e w1 ⟨l1, v, rfl, hv⟩
  obtain ⟨sa, cap, rfl, _, _⟩ := (ownU_rd hv).slice
  have HV := hide hv
  clear hv
  go_wp2_with fail
  go_ret
  exact ⟨l1, _, rfl, HV.out⟩

set_option maxHeartbeats 2000000 in
theorem list9_any (base : Nat) (p : Option Addr) (ls : List Ru) (w : World) (hT : PL base w p ls) (hl : ls.length ≤ 5000) :
    Calls Try.prog 7 #[.pointer p] w fun e w' => Later w w' ∧ ∃ v, e = .returned v ∧ w'.ownsRow w.heap.size 30 8 v ls.length (rus ls) := by
  go_enter Try.func7, Try.ntmps7
  go_wp2_with fail
  refine ((callsIn_wide (n := 5)).1 (allU_in 5 p w)).mono ?_
  rintro e w1 ⟨rfl, hw1⟩
  have l1 : Later w w1 := by rw [hw1]; exact (Below.refl _ _).alloc (Nat.le_refl _) _
  have b1 : w1.heap[w.heap.size]? = some (.cells #[.pointer p] 22) := by rw [hw1]; exact heap_alloc_new w _
  have hs := l1.size
  clear hw1
  go_wp2_with fail
  refine (collect_any base p w.heap.size ls w1 (hT.later l1) hl (Array.getElem?_eq_some_iff.1 b1).1 ((block_cell b1 0).trans rfl)).mono ?_
  rintro e w2 ⟨l2, v, rfl, hv⟩
  obtain ⟨sa, cap, rfl, _, _⟩ := (ownU_rd hv).slice
  have HV := hide hv
  clear hv
  go_wp2_with fail
  go_ret
  refine ⟨l1.trans l2, _, rfl, ?_⟩
  obtain ⟨q1, q2 | ⟨g, cp, cur, e1, e2, e3, r⟩⟩ := HV.out
  · exact ⟨q1, .inl q2⟩
  · exact ⟨q1, .inr ⟨g, cp, cur, e1, by omega, e3, r⟩⟩
end Go.Proofs.Ytgjemeibaghfaab
