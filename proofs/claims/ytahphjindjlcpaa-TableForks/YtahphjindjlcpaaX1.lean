/- Several texts in one. -/
import Derived.Test.YtahphjindjlcpaaX2
import Derived.Deep.Upon
/- The document's rows in order. -/
namespace Go.Proofs.Ytahphjindjlcpaa
open Go.RowKit Go.Shelf
set_option maxRecDepth 100000
set_option linter.unusedVariables false
set_option linter.unusedSimpArgs false

/-- A row put into its place, from the front. -/
def insB (x : Rw) : List Rw → List Rw
  | [] => [x]
  | y :: l => if ltR x y = true then x :: y :: l else y :: insB x l

theorem insB_perm (x : Rw) : ∀ l, (insB x l).Perm (x :: l)
  | [] => List.Perm.refl _
  | y :: l => by
    unfold insB
    split
    · exact List.Perm.refl _
    · exact ((insB_perm x l).cons y).trans (List.Perm.swap x y l)

theorem insB_inO (x : Rw) : ∀ l, InO l → InO (insB x l)
  | [], _ => by unfold insB InO; simp
  | y :: l, h => by
    have h' := List.pairwise_cons.1 h
    unfold insB
    split
    · rename_i hlt
      have hyx : ltR y x = false := by rw [ltR_iff] at hlt; rw [ltR_false]; omega
      refine List.pairwise_cons.2 ⟨fun z hz => ?_, h⟩
      rcases List.mem_cons.1 hz with rfl | hz
      · exact hyx
      · exact ltR_step hyx (h'.1 z hz)
    · rename_i hlt
      refine List.pairwise_cons.2 ⟨fun z hz => ?_, insB_inO x l h'.2⟩
      rcases List.mem_cons.1 ((insB_perm x l).mem_iff.1 hz) with rfl | hz
      · simpa using hlt
      · exact h'.1 z hz

/-- The document's rows in order. -/
def ordD (l : List Rw) : List Rw := l.foldl (fun P x => insB x P) []

theorem ordD_snoc (l : List Rw) (x : Rw) : ordD (l ++ [x]) = insB x (ordD l) := by unfold ordD; rw [List.foldl_append]; rfl

theorem ordD_perm (l : List Rw) : (ordD l).Perm l := by
  have : ∀ (m P : List Rw), (m.foldl (fun P x => insB x P) P).Perm (P ++ m) := by
    intro m
    induction m with
    | nil => intro P; simp
    | cons x m ih =>
      intro P
      rw [List.foldl_cons]
      refine (ih _).trans ?_
      refine ((insB_perm x P).append_right m).trans ?_
      rw [List.cons_append]
      exact List.perm_middle.symm
  unfold ordD
  simpa using this l []

theorem ordD_inO (l : List Rw) : InO (ordD l) := by
  have : ∀ (m P : List Rw), InO P → InO (m.foldl (fun P x => insB x P) P) := by
    intro m
    induction m with
    | nil => intro P h; exact h
    | cons x m ih => intro P h; exact ih _ (insB_inO x _ h)
  exact this l [] List.Pairwise.nil

theorem ordD_length (l : List Rw) : (ordD l).length = l.length := (ordD_perm l).length_eq

/-- Both ways to put rows in order make the same of them. -/
theorem ordD_isort {l m : List Rw} (hp : m.Perm l) (hd : l.Pairwise (fun x y => x.turn ≠ y.turn)) : isort m = ordD l := by
  refine inO_unique ((isort_perm m).trans (hp.trans (ordD_perm l).symm)) (isort_inO m) (ordD_inO l) ?_
  exact ((((isort_perm m).trans hp)).pairwise_iff (fun {x y} h e => h e.symm)).2 hd

/-- What is written so far, and whether the row stands in it. -/
def stp (x : Rw) (q : List Rw × Bool) (y : Rw) : List Rw × Bool := if q.2 = false ∧ ltR x y = true then (q.1 ++ [x] ++ [y], true) else (q.1 ++ [y], q.2)
def pst (x : Rw) (l : List Rw) : List Rw × Bool := l.foldl (stp x) ([], false)

theorem pst_snoc (x : Rw) (l : List Rw) (y : Rw) : pst x (l ++ [y]) = stp x (pst x l) y := by unfold pst; rw [List.foldl_append]; rfl

theorem pst_true (x : Rw) : ∀ (l M : List Rw), l.foldl (stp x) (M, true) = (M ++ l, true)
  | [], M => by simp
  | y :: l, M => by
    rw [List.foldl_cons]
    have : stp x (M, true) y = (M ++ [y], true) := by unfold stp; simp
    rw [this, pst_true x l]
    simp

theorem pst_fin (x : Rw) : ∀ (l M : List Rw), (if (l.foldl (stp x) (M, false)).2 = true then (l.foldl (stp x) (M, false)).1 else (l.foldl (stp x) (M, false)).1 ++ [x]) = M ++ insB x l
  | [], M => by simp [insB]
  | y :: l, M => by
    rw [List.foldl_cons]
    by_cases h : ltR x y = true
    · have : stp x (M, false) y = (M ++ [x] ++ [y], true) := by unfold stp; simp [h]
      rw [this, pst_true]
      unfold insB
      rw [if_pos h]
      simp
    · have : stp x (M, false) y = (M ++ [y], false) := by unfold stp; simp [h]
      rw [this, pst_fin x l, show insB x (y :: l) = y :: insB x l from by rw [insB, if_neg h]]
      simp

theorem pst_end (x : Rw) (l : List Rw) : (if (pst x l).2 = true then (pst x l).1 else (pst x l).1 ++ [x]) = insB x l := by
  have := pst_fin x l []
  unfold pst
  simpa using this

theorem stp_true (x : Rw) (M : List Rw) (y : Rw) : stp x (M, true) y = (M ++ [y], true) := by unfold stp; simp
theorem stp_no {x y : Rw} {M : List Rw} (h : ltR x y = false) : stp x (M, false) y = (M ++ [y], false) := by unfold stp; simp [h]

theorem stp_len (x : Rw) (q : List Rw × Bool) (y : Rw) : (stp x q y).1.length ≤ q.1.length + 2 := by unfold stp; split <;> simp

theorem pst_len (x : Rw) (l : List Rw) : (pst x l).1.length ≤ 2 * l.length := by
  have : ∀ (m : List Rw) (q : List Rw × Bool), (m.foldl (stp x) q).1.length ≤ q.1.length + 2 * m.length := by
    intro m
    induction m with
    | nil => intro q; simp
    | cons y m ih =>
      intro q
      rw [List.foldl_cons]
      have h1 := ih (stp x q y)
      have h2 := stp_len x q y
      simp only [List.length_cons]
      omega
  have := this l ([], false)
  unfold pst
  simpa using this

theorem ownD_base {b1 b2 : Nat} {W : World} {v : Value} {n : Nat} {xs : List Value} (h : W.ownsRow b1 86 8 v n xs) (hb : b2 ≤ b1) : W.ownsRow b2 86 8 v n xs := by
  obtain ⟨h1, h2 | ⟨g, cap, cur, e, hg, r⟩⟩ := h
  · exact ⟨h1, .inl h2⟩
  · exact ⟨h1, .inr ⟨g, cap, cur, e, by omega, r⟩⟩

/-- A row more, behind rows of one's own. -/
theorem wpList_appd {ops : Array Oper} {rest : List Oper} {o : Oper} {a : Act} {Q : Exit → Act → World → Prop} {W : World} (hgd : o.guard = none) (s y : Operand)
    (ho : o.op = .call { callee := .builtin .append, args := #[s, y], argTypes := #[67, 67] }) (base : Nat) (v : Value) (M : List Rw) (r : Rw)
    (hs : a.eval s = v) (hy : a.eval y = .slice (some ⟨W.heap.size, 0, none⟩) 1 1) (hown : W.ownsRow base 86 8 v M.length (rws M)) (hb : base ≤ W.heap.size) (hM : M.length ≤ 10000)
    (h : ∀ g cp W2, W2.ownsRow base 86 8 (.slice (some ⟨g, 0, none⟩) (M.length + 1) cp) (M ++ [r]).length (rws (M ++ [r])) → Below base W W2 → But (fun i => v.ownBlock = some i) W W2 → wpList Try.prog ops Q rest (a.put o.dst (.slice (some ⟨g, 0, none⟩) (M.length + 1) cp)) W2) :
    wpList Try.prog ops Q (o :: rest) a (W.alloc (.cells (rwc r).toArray 86)) := by
  obtain ⟨i0, hi0, hz0, hz1, hz2⟩ := info_parts info_drow
  have la : Later W (W.alloc (.cells (rwc r).toArray 86)) := (Below.refl _ _).alloc (Nat.le_refl _) _
  have hnx := new_drow W r
  refine wpList_append_own _ hgd s y 67 ho base 86 i0 (.agg #[.int .u8 0, .int .u32 0, .int .u32 0, .int .u16 0, .int .u16 0, .int .i64 0, .int .i64 0, .int .i64 0]) 8 40 Try.underlying67 hi0 hz0 hz1 hz2 rfl (by decide) v M.length (rws M) hs (ownD_later hown la) ⟨W.heap.size, 0, none⟩ 1 1 (rwc r) hy rfl hnx (by intro u hu; simp only [rwc, List.mem_cons, List.not_mem_nil, or_false] at hu; rcases hu with rfl | rfl | rfl | rfl | rfl | rfl | rfl | rfl <;> rfl) (by unfold maxLen; omega) (by omega) (by have := la.size; omega) ?_
  intro v2 W2 hrow hg _
  obtain ⟨g2, cp2, rfl⟩ := ownsRow_succ hrow
  refine h g2 cp2 W2 ?_ ?_ ((But.of la).trans ⟨hg.os, hg.tape, hg.output, hg.size, fun i hi he => hg.block i hi (fun e => he e.symm)⟩)
  · rw [rws_append, List.length_append, List.length_singleton, show rws [r] = rwc r from by simp [rws]]
    exact hrow
  · refine (la.mono hb).trans ⟨hg.os, hg.tape, hg.output, hg.size, fun i hi => hg.block i (by have := la.size; omega) (fun e => ?_)⟩
    have := (hown.lt i e.symm).1
    omega

set_option maxHeartbeats 8000000 in
theorem rordered_any (base bt : Nat) (v : Value) (lim sq : Int) (l : List Rw) (w : World) (hT : DT base w bt v lim sq l) (hl : l.length ≤ 2000) :
    Calls Try.prog 43 #[.pointer (some ⟨bt, 0, none⟩)] w fun e w' => Later w w' ∧ ∃ u, e = .returned u ∧ w'.ownsRow w.heap.size 86 8 u (ordD l).length (rws (ordD l)) := by
  obtain ⟨av, cv, rfl, hcv1, hcv2⟩ := (ownD_rd hT.2.2).slice
  have HRD := hide (ownD_rd hT.2.2)
  go_enter Try.func43, Try.ntmps43
  go_wp2_with fail
  go_loopw [3, 4] (fun ov i wr => ∃ k : Nat, k ≤ l.length ∧ i = .int .i64 (k : Int) ∧ wr.ownsRow w.heap.size 86 8 ov (ordD (l.take k)).length (rws (ordD (l.take k))) ∧ Later w wr) (fun _ i _ => l.length - (intOf i).toNat)
  case atStart => exact ⟨0, by omega, rfl, World.ownsRow_nil _ _ _ _, Later.refl _⟩
  case round =>
    obtain ⟨k, hk, rfl, hOu, hlw⟩ := hrel
    rename World => wo
    have hTr := hT.later hlw
    have kT := block_cell hTr.2.1
    by_cases hlt : k < l.length
    · have hlt' : (k : Int) < l.length := by omega
      obtain ⟨bb, off, cp, e, _, _, hbb, hcs⟩ := (HRD.out.below hlw).cells (by omega)
      simp at e
      obtain ⟨rfl, rfl⟩ := e
      have hsn : ordD (l.take (k + 1)) = insB l[k] (ordD (l.take k)) := by rw [← List.take_append_getElem hlt, ordD_snoc]
      have c0 := hcs k hlt 0 (by omega)
      have c1 := hcs k hlt 1 (by omega)
      have c2 := hcs k hlt 2 (by omega)
      have c3 := hcs k hlt 3 (by omega)
      have c4 := hcs k hlt 4 (by omega)
      have c5 := hcs k hlt 5 (by omega)
      have c6 := hcs k hlt 6 (by omega)
      have c7 := hcs k hlt 7 (by omega)
      clear hcs
      generalize l[k] = x at *
      have hol : (ordD (l.take k)).length ≤ 2000 := by rw [ordD_length, List.length_take]; omega
      have HSN := hide hsn
      clear hsn
      generalize ordD (l.take k) = out at *
      simp only [rwc, List.getElem?_cons_zero, List.getElem?_cons_succ, Nat.add_zero] at c0 c1 c2 c3 c4 c5 c6 c7
      obtain ⟨ao, co, rfl, hco1, hco2⟩ := (ownD_rd hOu).slice
      have la : Later wo (wo.alloc (.cells #[.int .u8 x.p, .int .u32 x.s, .int .u32 x.d, .int .u16 x.a, .int .u16 x.b, .int .i64 x.id, .int .i64 x.till, .int .i64 x.turn] 86)) := (Below.refl _ _).alloc (Nat.le_refl _) _
      have hx0 := heap_alloc_new wo (.cells #[.int .u8 x.p, .int .u32 x.s, .int .u32 x.d, .int .u16 x.a, .int .u16 x.b, .int .i64 x.id, .int .i64 x.till, .int .i64 x.turn] 86)
      have hsz : (wo.alloc (.cells #[.int .u8 x.p, .int .u32 x.s, .int .u32 x.d, .int .u16 x.a, .int .u16 x.b, .int .i64 x.id, .int .i64 x.till, .int .i64 x.turn] 86)).heap.size = wo.heap.size + 1 := by simp
      have HRO := hide (ownD_rd (ownD_later hOu la))
      have HL1 := hide (hlw.trans la)
      go_wp2_with fail
      clear c0 c1 c2 c3 c4 c5 c6 c7 kT hTr
      generalize hw1 : wo.alloc _ = w1 at *
      have hS1 : wo.heap.size < w1.heap.size := by omega
      go_loopw [6, 7, 8] (fun lv pl j wi => ∃ m : Nat, m ≤ out.length ∧ j = .int .i64 (m : Int) ∧ pl = .bool (pst x (out.take m)).2 ∧ wi.ownsRow w1.heap.size 86 8 lv (pst x (out.take m)).1.length (rws (pst x (out.take m)).1) ∧ Later w1 wi) (fun _ _ j _ => out.length - (intOf j).toNat)
      case atStart => exact ⟨0, by omega, rfl, rfl, World.ownsRow_nil _ _ _ _, Below.refl _ _⟩
      case round =>
        obtain ⟨m, hm, rfl, rfl, hOw, hbi⟩ := hrel
        by_cases hml : m < out.length
        · have hml' : (m : Int) < out.length := by omega
          obtain ⟨b2, off2, cp2, e, _, _, hb2, hcs⟩ := (HRO.out.below hbi).cells (by omega)
          simp at e
          obtain ⟨rfl, rfl⟩ := e
          have hsn2 : pst x (out.take (m + 1)) = stp x (pst x (out.take m)) out[m] := by rw [← List.take_append_getElem hml, pst_snoc]
          have hpl : (pst x (out.take m)).1.length ≤ 4000 := by have := pst_len x (out.take m); rw [List.length_take] at this; omega
          have d0 := hcs m hml 0 (by omega)
          have d1 := hcs m hml 1 (by omega)
          have d2 := hcs m hml 2 (by omega)
          have d3 := hcs m hml 3 (by omega)
          have d4 := hcs m hml 4 (by omega)
          have d5 := hcs m hml 5 (by omega)
          have d6 := hcs m hml 6 (by omega)
          have d7 := hcs m hml 7 (by omega)
          clear hcs
          generalize out[m] = y at *
          have HSN2 := hide hsn2
          clear hsn2
          generalize pst x (out.take m) = q at *
          obtain ⟨M, b⟩ := q
          simp only at hOw hpl
          simp only [rwc, List.getElem?_cons_zero, List.getElem?_cons_succ, Nat.add_zero] at d0 d1 d2 d3 d4 d5 d6 d7
          obtain ⟨sm, cm, rfl, _, _⟩ := (ownD_rd hOw).slice
          have lb : Later wr (wr.alloc (.cells #[.int .u8 y.p, .int .u32 y.s, .int .u32 y.d, .int .u16 y.a, .int .u16 y.b, .int .i64 y.id, .int .i64 y.till, .int .i64 y.turn] 86)) := (Below.refl _ _).alloc (Nat.le_refl _) _
          have hy0 := heap_alloc_new wr (.cells #[.int .u8 y.p, .int .u32 y.s, .int .u32 y.d, .int .u16 y.a, .int .u16 y.b, .int .i64 y.id, .int .i64 y.till, .int .i64 y.turn] 86)
          have HO2 := hide (ownD_later hOw lb)
          have hx2 := later_keep (hbi.trans lb) hx0
          have HB2 := hide (hbi.trans lb)
          have HLT := hide (fun g e => (hOw.lt g e).2)
          go_upto_region 12 with fail
          clear d0 d1 d2 d3 d4 d5 d6 d7 hb2
          generalize wr.alloc _ = w2 at *
          have HN2 : Hid (w1.heap.size ≤ w2.heap.size) := hide HB2.out.size
          have kx := block_cell hx2
          have ky := block_cell hy0
          have hcase : (b = false ∧ ltR x y = true ∧ x.till < y.till) ∨ (b = false ∧ ltR x y = true ∧ ¬ x.till < y.till ∧ x.till = y.till ∧ x.turn < y.turn) ∨ b = true ∨ (b = false ∧ ltR x y = false ∧ ¬ x.till < y.till ∧ ¬ x.till = y.till) ∨ (b = false ∧ ltR x y = false ∧ ¬ x.till < y.till ∧ x.till = y.till ∧ ¬ x.turn < y.turn) := by
            cases b with
            | true => exact .inr (.inr (.inl rfl))
            | false =>
              cases h : ltR x y with
              | true => rw [ltR_iff] at h; by_cases h1 : x.till < y.till; (· exact .inl ⟨rfl, rfl, h1⟩); (· exact .inr (.inl ⟨rfl, rfl, h1, by omega, by omega⟩))
              | false => rw [ltR_false] at h; by_cases h1 : x.till = y.till; (· exact .inr (.inr (.inr (.inr ⟨rfl, rfl, by omega, h1, by omega⟩)))); (· exact .inr (.inr (.inr (.inl ⟨rfl, rfl, by omega, h1⟩))))
          rcases hcase with ⟨rfl, hc, h1⟩ | ⟨rfl, hc, h1, h2, h3⟩ | rfl | ⟨rfl, hc, h1, h2⟩ | ⟨rfl, hc, h1, h2, h3⟩
          · go_upto_region 13 with fail
            clear h1
            have hst : stp x (M, false) y = (M ++ [x] ++ [y], true) := (by unfold stp; simp [hc]); have HST := hide hst; clear hst hc; go_wp2_with (at_builtin; refine wpList_appd rfl (.tmp 63) (.tmp 65) rfl w1.heap.size _ M x rfl rfl HO2.out HN2.out (by omega) ?_; intro g3 cp3 w3 ho3 hb3 hbt3; refine Hid.out ?_); have hy3 := (hbt3.block wr.heap.size (Array.getElem?_eq_some_iff.1 hy0).1 (fun e => by have := HLT.out _ e; omega)).trans hy0; have ky3 := block_cell hy3; have HO3 := hide ho3; have HN3 : Hid (w1.heap.size ≤ w3.heap.size) := hide (Nat.le_trans HN2.out hb3.size); clear kx ky ho3; show wpList _ _ _ _ _ _; go_wp2_with (at_builtin; refine wpList_appd rfl (.tmp 67) (.tmp 69) rfl w1.heap.size _ (M ++ [x]) y rfl (by simp [go_sem]) HO3.out HN3.out (by simp; omega) ?_; intro g4 cp4 w4 ho4 hb4 hbt4); rw [show (M ++ [x]).length + 1 = M.length + 1 + 1 from by simp] at ho4; go_roundw; (case rel => exact ⟨m + 1, by omega, by go_num, by rw [HSN2.out, HST.out], by rw [HSN2.out, HST.out]; exact ho4, (show Later w1 w4 from Below.trans HB2.out (Below.trans hb3 hb4))⟩); (case measure => simp [intOf]; omega)
          · go_upto_region 13 with fail
            clear h1 h2 h3
            have hst : stp x (M, false) y = (M ++ [x] ++ [y], true) := (by unfold stp; simp [hc]); have HST := hide hst; clear hst hc; go_wp2_with (at_builtin; refine wpList_appd rfl (.tmp 63) (.tmp 65) rfl w1.heap.size _ M x rfl rfl HO2.out HN2.out (by omega) ?_; intro g3 cp3 w3 ho3 hb3 hbt3; refine Hid.out ?_); have hy3 := (hbt3.block wr.heap.size (Array.getElem?_eq_some_iff.1 hy0).1 (fun e => by have := HLT.out _ e; omega)).trans hy0; have ky3 := block_cell hy3; have HO3 := hide ho3; have HN3 : Hid (w1.heap.size ≤ w3.heap.size) := hide (Nat.le_trans HN2.out hb3.size); clear kx ky ho3; show wpList _ _ _ _ _ _; go_wp2_with (at_builtin; refine wpList_appd rfl (.tmp 67) (.tmp 69) rfl w1.heap.size _ (M ++ [x]) y rfl (by simp [go_sem]) HO3.out HN3.out (by simp; omega) ?_; intro g4 cp4 w4 ho4 hb4 hbt4); rw [show (M ++ [x]).length + 1 = M.length + 1 + 1 from by simp] at ho4; go_roundw; (case rel => exact ⟨m + 1, by omega, by go_num, by rw [HSN2.out, HST.out], by rw [HSN2.out, HST.out]; exact ho4, (show Later w1 w4 from Below.trans HB2.out (Below.trans hb3 hb4))⟩); (case measure => simp [intOf]; omega)
          · go_upto_region 15 with fail
            have hst : stp x (M, true) y = (M ++ [y], true) := (stp_true x M y); have HST := hide hst; clear hst; go_wp2_with (at_builtin; refine wpList_appd rfl (.tmp 67) (.tmp 69) rfl w1.heap.size _ M y rfl rfl HO2.out HN2.out (by omega) ?_; intro g4 cp4 w4 ho4 hb4 hbt4); go_roundw; (case rel => exact ⟨m + 1, by omega, by go_num, by rw [HSN2.out, HST.out], by rw [HSN2.out, HST.out]; exact ho4, (show Later w1 w4 from Below.trans HB2.out hb4)⟩); (case measure => simp [intOf]; omega)
          · go_upto_region 15 with fail
            have HC := hide hc
            clear h1 h2 hc
            have hst : stp x (M, false) y = (M ++ [y], false) := (stp_no HC.out); have HST := hide hst; clear hst; go_wp2_with (at_builtin; refine wpList_appd rfl (.tmp 67) (.tmp 69) rfl w1.heap.size _ M y rfl rfl HO2.out HN2.out (by omega) ?_; intro g4 cp4 w4 ho4 hb4 hbt4); go_roundw; (case rel => exact ⟨m + 1, by omega, by go_num, by rw [HSN2.out, HST.out], by rw [HSN2.out, HST.out]; exact ho4, (show Later w1 w4 from Below.trans HB2.out hb4)⟩); (case measure => simp [intOf]; omega)
          · go_upto_region 15 with fail
            have HC := hide hc
            clear h1 h2 hc
            have hst : stp x (M, false) y = (M ++ [y], false) := (stp_no HC.out); have HST := hide hst; clear hst; go_wp2_with (at_builtin; refine wpList_appd rfl (.tmp 67) (.tmp 69) rfl w1.heap.size _ M y rfl rfl HO2.out HN2.out (by omega) ?_; intro g4 cp4 w4 ho4 hb4 hbt4); go_roundw; (case rel => exact ⟨m + 1, by omega, by go_num, by rw [HSN2.out, HST.out], by rw [HSN2.out, HST.out]; exact ho4, (show Later w1 w4 from Below.trans HB2.out hb4)⟩); (case measure => simp [intOf]; omega)
        · obtain rfl : m = out.length := by omega
          rw [List.take_length] at hOw
          have hend := pst_end x out
          have hpl : (pst x out).1.length ≤ 4000 := by have := pst_len x out; omega
          have hx2 := later_keep hbi hx0
          have kx := block_cell hx2
          simp only [List.take_length]
          generalize pst x out = q at *
          obtain ⟨M, b⟩ := q
          simp only at hOw hpl hend
          obtain ⟨sm, cm, rfl, _, _⟩ := (ownD_rd hOw).slice
          have HOW := hide hOw
          have HND := hide hend
          clear hOw hend
          have HLB := hide hbi
          cases b with
          | true =>
            go_wp2_with fail
            go_roundw
            case rel => exact ⟨k + 1, by omega, by go_num, by rw [HSN.out, ← HND.out]; exact ownD_base HOW.out (by have := hlw.size; omega), HL1.out.trans HLB.out⟩
            case measure => simp [intOf]; omega
          | false =>
            go_wp2_with (at_builtin; refine wpList_appd rfl (.tmp 73) (.tmp 75) rfl w1.heap.size _ M x rfl rfl HOW.out HLB.out.size (by omega) ?_; intro g4 cp4 w4 ho4 hb4 hbt4)
            go_roundw
            case rel => exact ⟨k + 1, by omega, by go_num, by rw [HSN.out, ← HND.out]; exact ownD_base ho4 (by have := hlw.size; omega), HL1.out.trans (show Later w1 w4 from Below.trans HLB.out hb4)⟩
            case measure => simp [intOf]; omega
    · obtain rfl : k = l.length := by omega
      rw [List.take_length] at hOu
      go_wp2_with fail
      go_ret
      exact ⟨hlw, _, rfl, hOu⟩
end Go.Proofs.Ytahphjindjlcpaa

/- The document's Get, Due, First, Len. -/
namespace Go.Proofs.Ytahphjindjlcpaa
open Go.RowKit Go.Shelf
set_option maxRecDepth 100000
set_option linter.unusedVariables false
set_option linter.unusedSimpArgs false

/-- What the document's Get answers. -/
def rgv (p s d a b : Int) (l : List Rw) : Value := match kix p s d (kyp p a) b l with | none => .tuple #[.int .i64 0, .int .i64 0, .bool false] | some k => match l[k]? with | some r => .tuple #[.int .i64 r.id, .int .i64 r.till, .bool true] | none => undef

theorem rel_rgv {ls : Nat → List Rw} {l : List Rw} (h : Rel ls l) (p s d a b : Int) : gtv p s d a b ls = rgv p s d a b l := by
  unfold rgv gtv
  cases hk : kix p s d (kyp p a) b l with
  | none => rw [(h.kxe p s d a b).2 hk]
  | some k =>
    obtain ⟨hkl, hks⟩ := kix_at hk
    have hm := (h.mem l[k]).1 (List.getElem_mem hkl)
    rw [bkr_key hks] at hm
    obtain ⟨i, hi, e⟩ := List.getElem_of_mem hm
    have hx : kx p s d a b ls = some i := by
      unfold kx
      cases hn : kix p s d (kyp p a) b (ls (bki p s d a b)) with
      | none =>
        have := kix_none_iff.1 hn _ hm
        rw [hks] at this
        cases this
      | some j =>
        obtain ⟨hj, hj2⟩ := kix_at hn
        rw [h.uq _ p s d (kyp p a) b j i hj hi hj2 (by rw [e]; exact hks)]
    rw [hx]
    simp only [List.getElem?_eq_getElem hi, List.getElem?_eq_getElem hkl, e]

set_option maxHeartbeats 4000000 in
theorem rget6_any (base bt : Nat) (v : Value) (lim sq : Int) (l : List Rw) (p s d a b : Int) (w : World) (hT : DT base w bt v lim sq l) :
    Calls Try.prog 21 #[.pointer (some ⟨bt, 0, none⟩), .agg #[.int .u8 p, .int .u32 s, .int .u32 d, .int .u16 a, .int .u16 b]] w fun e w' => e = .returned (rgv p s d a b l) ∧ Later w w' := by
  have lb0 : Later w (w.alloc (.cells #[.int .u8 p, .int .u32 s, .int .u32 d, .int .u16 a, .int .u16 b] 26)) := (Below.refl _ _).alloc (Nat.le_refl _) _
  have HAT := hide (fun W (hW : Later w W) => at_any base bt v lim sq l p s d a b W (hT.later hW))
  obtain ⟨av, cv, rfl, hcv1, hcv2⟩ := (ownD_rd hT.2.2).slice
  go_enter Try.func21, Try.ntmps21
  go_wp2_with fail
  generalize w.alloc _ = w0 at *
  refine (HAT.out w0 lb0).mono ?_
  rintro e w1 ⟨rfl, l1⟩
  have L1 := lb0.trans l1
  cases hk : kix p s d (kyp p a) b l with
  | none =>
    have HG : Hid (rgv p s d a b l = .tuple #[.int .i64 0, .int .i64 0, .bool false]) := by show _ = _; unfold rgv; rw [hk]
    clear hk
    rw [rix_none]
    go_wp2_with fail
    exact bodyPost_ret (v := .tuple #[.int .i64 0, .int .i64 0, .bool false]) (by simp [results, Try.results21, go_sem]) rfl ⟨by rw [HG.out], L1⟩
  | some k =>
    obtain ⟨hkl, hks⟩ := kix_at hk
    have HG : Hid (rgv p s d a b l = .tuple #[.int .i64 l[k].id, .int .i64 l[k].till, .bool true]) := by show _ = _; unfold rgv; rw [hk]; simp [hkl]
    clear hk hks
    rw [rix_some]
    have hk0 : ¬ (k : Int) < 0 := by omega
    have hkl' : (k : Int) < l.length := by omega
    have hT1 := hT.later L1
    obtain ⟨bb, off, cp, e, _, _, hbb, hcs⟩ := (ownD_rd hT1.2.2).cells (by omega)
    simp at e
    obtain ⟨rfl, rfl⟩ := e
    have c5 := hcs k hkl 5 (by omega)
    have c6 := hcs k hkl 6 (by omega)
    clear hcs
    have kT := block_cell hT1.2.1
    have c0 := kT 0
    clear kT
    generalize l[k] = r at *
    simp only [rwc, List.getElem?_cons_zero, List.getElem?_cons_succ] at c5 c6
    simp at c0
    go_upto_region 4 with fail
    refine anyR_begin (R := Later) Later.pre Later.drew 19 rfl (by kernel_rfl) (fun V1 hV1 => ?_)
    have q0 : ∀ v1, Later V1 v1 → v1.cell? ⟨bt, 0, none⟩ = some (.slice (some ⟨bb, off, none⟩) l.length cv) := fun v1 h => (hV1.trans h).cell c0
    have q5 : ∀ v1, Later V1 v1 → v1.cell? ⟨bb, off + k * 8 + 5, none⟩ = some (.int .i64 r.id) := fun v1 h => (hV1.trans h).cell c5
    have q6 : ∀ v1, Later V1 v1 → v1.cell? ⟨bb, off + k * 8 + 6, none⟩ = some (.int .i64 r.till) := fun v1 h => (hV1.trans h).cell c6
    clear c0 c5 c6
    refine anyR_val Later.pre 0 rfl (by kernel_rfl) (by kernel_rfl) (by kernel_rfl) (fun _ _ _ _ h => h) rfl ?_; apply Exists.intro; refine ⟨fun w1 hw1 => ?_, ?_⟩; (· (go_simp; rfl)); simp only [Act.put, List.setIfInBounds_toArray, List.set_cons_zero, List.set_cons_succ]
    refine anyR_val Later.pre 1 rfl (by kernel_rfl) (by kernel_rfl) (by kernel_rfl) (fun _ _ _ _ h => h) rfl ?_; apply Exists.intro; refine ⟨fun w1 hw1 => ?_, ?_⟩; (· (go_simp; rfl)); simp only [Act.put, List.setIfInBounds_toArray, List.set_cons_zero, List.set_cons_succ]
    refine anyR_val Later.pre 2 rfl (by kernel_rfl) (by kernel_rfl) (by kernel_rfl) (fun _ _ _ _ h => h) rfl ?_; apply Exists.intro; refine ⟨fun w1 hw1 => ?_, ?_⟩; (· (go_simp; rfl)); simp only [Act.put, List.setIfInBounds_toArray, List.set_cons_zero, List.set_cons_succ]
    refine anyR_val Later.pre 3 rfl (by kernel_rfl) (by kernel_rfl) (by kernel_rfl) (fun _ _ _ _ h => h) rfl ?_; apply Exists.intro; refine ⟨fun w1 hw1 => ?_, ?_⟩; (· (go_simp; rfl)); simp only [Act.put, List.setIfInBounds_toArray, List.set_cons_zero, List.set_cons_succ]
    refine anyR_val Later.pre 4 rfl (by kernel_rfl) (by kernel_rfl) (by kernel_rfl) (fun _ _ _ _ h => h) rfl ?_; apply Exists.intro; refine ⟨fun w1 hw1 => ?_, ?_⟩; (· (go_simp; rfl)); simp only [Act.put, List.setIfInBounds_toArray, List.set_cons_zero, List.set_cons_succ]
    refine anyR_val Later.pre 5 rfl (by kernel_rfl) (by kernel_rfl) (by kernel_rfl) (fun _ _ _ _ h => h) rfl ?_; apply Exists.intro; refine ⟨fun w1 hw1 => ?_, ?_⟩; (· (go_simp; rfl)); simp only [Act.put, List.setIfInBounds_toArray, List.set_cons_zero, List.set_cons_succ]
    refine anyR_val Later.pre 6 rfl (by kernel_rfl) (by kernel_rfl) (by kernel_rfl) (fun _ _ _ _ h => h) rfl ?_; apply Exists.intro; refine ⟨fun w1 hw1 => ?_, ?_⟩; (· (go_simp; rfl)); simp only [Act.put, List.setIfInBounds_toArray, List.set_cons_zero, List.set_cons_succ]
    refine anyR_val Later.pre 7 rfl (by kernel_rfl) (by kernel_rfl) (by kernel_rfl) (fun _ _ _ _ h => h) rfl ?_; apply Exists.intro; refine ⟨fun w1 hw1 => ?_, ?_⟩; (· (go_simp; rfl)); simp only [Act.put, List.setIfInBounds_toArray, List.set_cons_zero, List.set_cons_succ]
    refine anyR_val Later.pre 8 rfl (by kernel_rfl) (by kernel_rfl) (by kernel_rfl) (fun _ _ _ _ h => h) rfl ?_; apply Exists.intro; refine ⟨fun w1 hw1 => ?_, ?_⟩; (· (go_simp; rfl)); simp only [Act.put, List.setIfInBounds_toArray, List.set_cons_zero, List.set_cons_succ]
    refine anyR_val Later.pre 9 rfl (by kernel_rfl) (by kernel_rfl) (by kernel_rfl) (fun _ _ _ _ h => h) rfl ?_; apply Exists.intro; refine ⟨fun w1 hw1 => ?_, ?_⟩; (· (go_simp; rfl)); simp only [Act.put, List.setIfInBounds_toArray, List.set_cons_zero, List.set_cons_succ]
    refine anyR_val Later.pre 10 rfl (by kernel_rfl) (by kernel_rfl) (by kernel_rfl) (fun _ _ _ _ h => h) rfl ?_; apply Exists.intro; refine ⟨fun w1 hw1 => ?_, ?_⟩; (· (go_simp; rfl)); simp only [Act.put, List.setIfInBounds_toArray, List.set_cons_zero, List.set_cons_succ]
    refine anyR_val Later.pre 11 rfl (by kernel_rfl) (by kernel_rfl) (by kernel_rfl) (fun _ _ _ _ h => h) rfl ?_; apply Exists.intro; refine ⟨fun w1 hw1 => ?_, ?_⟩; (· (go_simp; rfl)); simp only [Act.put, List.setIfInBounds_toArray, List.set_cons_zero, List.set_cons_succ]
    refine anyR_val Later.pre 12 rfl (by kernel_rfl) (by kernel_rfl) (by kernel_rfl) (fun _ _ _ _ h => h) rfl ?_; apply Exists.intro; refine ⟨fun w1 hw1 => ?_, ?_⟩; (· (go_simp; rfl)); simp only [Act.put, List.setIfInBounds_toArray, List.set_cons_zero, List.set_cons_succ]
    refine anyR_val Later.pre 13 rfl (by kernel_rfl) (by kernel_rfl) (by kernel_rfl) (fun _ _ _ _ h => h) rfl ?_; apply Exists.intro; refine ⟨fun w1 hw1 => ?_, ?_⟩; (· (go_simp; rfl)); simp only [Act.put, List.setIfInBounds_toArray, List.set_cons_zero, List.set_cons_succ]
    refine anyR_val Later.pre 14 rfl (by kernel_rfl) (by kernel_rfl) (by kernel_rfl) (fun _ _ _ _ h => h) rfl ?_; apply Exists.intro; refine ⟨fun w1 hw1 => ?_, ?_⟩; (· (go_simp; rfl)); simp only [Act.put, List.setIfInBounds_toArray, List.set_cons_zero, List.set_cons_succ]
    refine anyR_val Later.pre 15 rfl (by kernel_rfl) (by kernel_rfl) (by kernel_rfl) (fun _ _ _ _ h => h) rfl ?_; apply Exists.intro; refine ⟨fun w1 hw1 => ?_, ?_⟩; (· (go_simp; rfl)); simp only [Act.put, List.setIfInBounds_toArray, List.set_cons_zero, List.set_cons_succ]
    refine anyR_val Later.pre 16 rfl (by kernel_rfl) (by kernel_rfl) (by kernel_rfl) (fun _ _ _ _ h => h) rfl ?_; apply Exists.intro; refine ⟨fun w1 hw1 => ?_, ?_⟩; (· (go_simp; rfl)); simp only [Act.put, List.setIfInBounds_toArray, List.set_cons_zero, List.set_cons_succ]
    refine anyR_val Later.pre 17 rfl (by kernel_rfl) (by kernel_rfl) (by kernel_rfl) (fun _ _ _ _ h => h) rfl ?_; apply Exists.intro; refine ⟨fun w1 hw1 => ?_, ?_⟩; (· (go_simp; rfl)); simp only [Act.put, List.setIfInBounds_toArray, List.set_cons_zero, List.set_cons_succ]
    refine anyR_val Later.pre 18 rfl (by kernel_rfl) (by kernel_rfl) (by kernel_rfl) (fun _ _ _ _ h => h) rfl ?_; apply Exists.intro; refine ⟨fun w1 hw1 => ?_, ?_⟩; (· (go_simp; rfl)); simp only [Act.put, List.setIfInBounds_toArray, List.set_cons_zero, List.set_cons_succ]
    refine anyR_done (by kernel_rfl) (fun V2 hV2 => ?_)
    have hw2 := L1.trans (hV1.trans hV2)
    clear q0 q5 q6
    go_wp2_with fail
    exact bodyPost_ret (v := .tuple #[.int .i64 r.id, .int .i64 r.till, .bool true]) (by simp [results, Try.results21, go_sem]) rfl ⟨by rw [HG.out], hw2⟩

set_option maxHeartbeats 2000000 in
theorem rlen6_any (base bt : Nat) (v : Value) (lim sq : Int) (l : List Rw) (w : World) (hT : DT base w bt v lim sq l) :
    Calls Try.prog 24 #[.pointer (some ⟨bt, 0, none⟩)] w fun e w' => e = .returned (.int .i64 (l.length : Nat)) ∧ Later w w' := by
  obtain ⟨av, cv, rfl, hcv1, hcv2⟩ := (ownD_rd hT.2.2).slice
  have kT := block_cell hT.2.1
  go_enter Try.func24, Try.ntmps24
  go_wp2_with fail
  go_ret
  exact ⟨rfl, Later.refl _⟩

/-- What First answers of rows in order. -/
def frv (X : List Rw) : Value := match X with | [] => .tuple #[.agg #[.int .u8 0, .int .u32 0, .int .u32 0, .int .u16 0, .int .u16 0], .bool false] | r :: _ => .tuple #[.agg (rwk r).toArray, .bool true]

set_option maxHeartbeats 4000000 in
theorem rfirst6_any (base bt : Nat) (v : Value) (lim sq : Int) (l : List Rw) (w : World) (hT : DT base w bt v lim sq l) (hl : l.length ≤ 2000) :
    Calls Try.prog 23 #[.pointer (some ⟨bt, 0, none⟩)] w fun e w' => e = .returned (frv (ordD l)) ∧ Later w w' := by
  have lb0 : Later w (w.alloc (.cells #[.int .u8 0, .int .u32 0, .int .u32 0, .int .u16 0, .int .u16 0] 26)) := (Below.refl _ _).alloc (Nat.le_refl _) _
  have c0 := heap_alloc_new w (.cells #[.int .u8 0, .int .u32 0, .int .u32 0, .int .u16 0, .int .u16 0] 26)
  go_enter Try.func23, Try.ntmps23
  go_wp2_with fail
  generalize w.alloc _ = w0 at *
  refine (rordered_any base bt v lim sq l w0 (hT.later lb0) hl).mono ?_
  rintro e w1 ⟨l1, u, rfl, hOu⟩
  have L1 := lb0.trans l1
  have r1 := later_keep l1 c0
  have r2 := block_cell r1
  have f2 := block_frozen r1
  cases hX : ordD l with
  | nil =>
    rw [hX] at hOu
    have HX := hide hX
    obtain ⟨av, cv, rfl, hcv1, hcv2⟩ := (ownD_rd hOu).slice
    simp only [List.length_nil]
    go_wp2_with fail
    change bodyPost _ _ _ _ _ (putRow w1 w.heap.size 0 [.int .u8 0, .int .u32 0, .int .u32 0, .int .u16 0, .int .u16 0])
    have v1 := putRow_all [.int .u8 0, .int .u32 0, .int .u32 0, .int .u16 0, .int .u16 0] r1 rfl
    have hbl : Below w.heap.size w1 (putRow w1 w.heap.size 0 [.int .u8 0, .int .u32 0, .int .u32 0, .int .u16 0, .int .u16 0]) := (putRow_rb (rb := w.heap.size) _ w1).below L1.size (fun k hk e => by omega)
    generalize putRow w1 w.heap.size 0 _ = V at *
    have k1 := block_cell v1
    refine bodyPost_ret (v := .tuple #[.agg #[.int .u8 0, .int .u32 0, .int .u32 0, .int .u16 0, .int .u16 0], .bool false]) (by simp [results, Try.results23, go_sem, k1]) rfl ⟨by rw [HX.out]; rfl, Below.trans L1 hbl⟩
  | cons r X =>
    rw [hX] at hOu
    have HX := hide hX
    obtain ⟨av, cv, rfl, hcv1, hcv2⟩ := (ownD_rd hOu).slice
    obtain ⟨bb, off, cp, e, _, _, hbb, hcs⟩ := (ownD_rd hOu).cells (by simp)
    simp at e
    obtain ⟨rfl, rfl⟩ := e
    have d0 := hcs 0 (by simp) 0 (by omega)
    have d1 := hcs 0 (by simp) 1 (by omega)
    have d2 := hcs 0 (by simp) 2 (by omega)
    have d3 := hcs 0 (by simp) 3 (by omega)
    have d4 := hcs 0 (by simp) 4 (by omega)
    clear hcs hX
    have hcl : (r :: X).length = X.length + 1 := rfl
    simp only [List.getElem_cons_zero, rwc, List.getElem?_cons_zero, List.getElem?_cons_succ, Nat.add_zero, Nat.zero_mul] at d0 d1 d2 d3 d4
    have hne : ¬ ((X.length : Int) + 1 = 0) := by omega
    have hpos : (0 : Int) < (X.length : Int) + 1 := by omega
    go_wp2_with fail
    change bodyPost _ _ _ _ _ (putRow w1 w.heap.size 0 (rwk r))
    have v1 := putRow_all (rwk r) r1 rfl
    have hbl : Below w.heap.size w1 (putRow w1 w.heap.size 0 (rwk r)) := (putRow_rb (rb := w.heap.size) (rwk r) w1).below L1.size (fun k hk e => by omega)
    generalize putRow w1 w.heap.size 0 (rwk r) = V at *
    have k1 := block_cell v1
    simp only [rwk] at k1
    refine bodyPost_ret (v := .tuple #[.agg (rwk r).toArray, .bool true]) (by simp [results, Try.results23, go_sem, k1, rwk]) rfl ⟨by rw [HX.out]; rfl, Below.trans L1 hbl⟩
end Go.Proofs.Ytahphjindjlcpaa

/- The law's sameKeys. -/
namespace Go.Proofs.Ytahphjindjlcpaa
open Go.RowKit Go.Shelf
set_option maxRecDepth 100000
set_option linter.unusedVariables false
set_option linter.unusedSimpArgs false

theorem keys_at {w : World} {g : Nat} {X : List Rw} (h : w.heap[g]? = some (.cells (rks X).toArray 26 (0, 0))) (k : Nat) (hk : k < X.length) (i : Nat) (hi : i < 5) : w.cell? ⟨g, k * 5 + i, none⟩ = (rwk X[k])[i]? := by
  rw [block_cell h, List.getElem?_toArray, rks_at X k i hk hi]

set_option maxHeartbeats 4000000 in
theorem sameKeys_yes (ga gb cb : Nat) (X Y : List Rw) (w : World) (hx : w.heap[ga]? = some (.cells (rks X).toArray 26 (0, 0))) (hy : w.heap[gb]? = some (.cells (rks Y).toArray 26 (0, 0))) (hXY : X = Y.take X.length) (hl : X.length ≤ 100) (hc : X.length ≤ cb ∧ cb ≤ 1000) :
    Calls Try.prog 25 #[.slice (some ⟨ga, 0, none⟩) X.length X.length, .slice (some ⟨gb, 0, none⟩) X.length cb] w fun e w' => e = .returned (.bool true) ∧ Below w.heap.size w w' := by
  have HXY := hide hXY
  have HX := hide hx
  have HY := hide hy
  clear hXY hx hy
  go_enter Try.func25, Try.ntmps25
  go_wp2_with fail
  go_loopw [5] (fun i wr => ∃ k : Nat, k ≤ X.length ∧ i = .int .i64 (k : Int) ∧ Later w wr) (fun i _ => X.length - (intOf i).toNat)
  case atStart => exact ⟨0, by omega, rfl, Below.refl _ _⟩
  case round =>
    obtain ⟨k, hk, rfl, hlw⟩ := hrel
    by_cases hlt : k < X.length
    · have hlt' : (k : Int) < X.length := by omega
      have hYl : k < Y.length := by
        have := congrArg List.length HXY.out
        rw [List.length_take] at this
        omega
      have hxy : X[k] = Y[k] := by
        have e : X[k]? = Y[k]? := by
          rw [HXY.out, List.getElem?_take, if_pos hlt]
        rw [List.getElem?_eq_getElem hlt, List.getElem?_eq_getElem hYl] at e
        simpa using e
      have fx := keys_at (later_keep hlw HX.out) k hlt
      have fy := keys_at (later_keep hlw HY.out) k hYl
      rw [← hxy] at fy
      have a0 := fx 0 (by omega)
      have a1 := fx 1 (by omega)
      have a2 := fx 2 (by omega)
      have a3 := fx 3 (by omega)
      have a4 := fx 4 (by omega)
      have b0 := fy 0 (by omega)
      have b1 := fy 1 (by omega)
      have b2 := fy 2 (by omega)
      have b3 := fy 3 (by omega)
      have b4 := fy 4 (by omega)
      clear fx fy hxy
      generalize X[k] = r at *
      simp only [rwk, List.getElem?_cons_zero, List.getElem?_cons_succ, Nat.add_zero] at a0 a1 a2 a3 a4 b0 b1 b2 b3 b4
      go_upto_region 6 with fail
      go_quiet (fail)
      have hld : Later w (wr.drewN nq) := hlw.trans (below_draw (Below.refl _ _) nq)
      go_wp2_with fail
      go_roundw
      case rel => exact ⟨k + 1, by omega, by go_num, hld⟩
      case measure => simp [intOf]; omega
    · obtain rfl : k = X.length := by omega
      go_wp2_with fail
      go_ret
      exact ⟨by simp, hlw⟩
end Go.Proofs.Ytahphjindjlcpaa

/- The document's Due; the law's sameKeys of both answers. -/
namespace Go.Proofs.Ytahphjindjlcpaa
open Go.RowKit Go.Shelf
set_option maxRecDepth 100000
set_option linter.unusedVariables false
set_option linter.unusedSimpArgs false

theorem ownX_later {t : TypeId} {sz base : Nat} {A B : World} {v : Value} {n : Nat} {xs : List Value} (h : A.ownsRow base t sz v n xs) (l : Later A B) : B.ownsRow base t sz v n xs := by
  obtain ⟨h1, h2 | ⟨g, cap, cur, hv, hg, hh, r⟩⟩ := h
  · exact ⟨h1, .inl h2⟩
  · exact ⟨h1, .inr ⟨g, cap, cur, hv, hg, later_keep l hh, r⟩⟩
theorem ownX_base {t : TypeId} {sz b1 b2 : Nat} {W : World} {v : Value} {n : Nat} {xs : List Value} (h : W.ownsRow b1 t sz v n xs) (hb : b2 ≤ b1) : W.ownsRow b2 t sz v n xs := by
  obtain ⟨h1, h2 | ⟨g, cap, cur, e, hg, r⟩⟩ := h
  · exact ⟨h1, .inl h2⟩
  · exact ⟨h1, .inr ⟨g, cap, cur, e, by omega, r⟩⟩
theorem ownX_cases {base : Nat} {W : World} {v : Value} {X : List Rw} (h : W.ownsRow base 26 5 v X.length (rks X)) : (X = [] ∧ v = .slice none 0 0) ∨ ∃ g cap, v = .slice (some ⟨g, 0, none⟩) X.length cap ∧ X.length ≤ cap ∧ cap ≤ 9223372036854775807 ∧ g < W.heap.size ∧ ∀ k (hk : k < X.length) i, i < 5 → W.cell? ⟨g, k * 5 + i, none⟩ = (rwk X[k])[i]? := by
  obtain ⟨h1, ⟨rfl, h0⟩ | ⟨g, cap, cur, rfl, hg, hh, hl, hm, hs, hc⟩⟩ := h
  · exact .inl ⟨List.eq_nil_of_length_eq_zero h0, rfl⟩
  · refine .inr ⟨g, cap, rfl, hl, by simpa [maxLen] using hm, (Array.getElem?_eq_some_iff.1 hh).1, fun k hk i hi => ?_⟩
    rw [block_cell hh, ← rks_at X k i hk hi, ← hc, List.getElem?_take_of_lt (by omega)]
    simp

theorem ownX_slice {base : Nat} {W : World} {v : Value} {X : List Rw} (h : W.ownsRow base 26 5 v X.length (rks X)) : ∃ sm cm, v = .slice sm X.length cm := by
  rcases ownX_cases h with ⟨e1, e2⟩ | ⟨g, cap, e, _⟩
  · exact ⟨none, 0, by rw [e2, e1]; rfl⟩
  · exact ⟨_, _, e⟩

theorem new_key (W : World) (x : Rw) : ∀ j u, (rwk x)[j]? = some u → (W.alloc (.cells (rwk x).toArray 26)).cell? ((⟨W.heap.size, 0, none⟩ : Addr).add j) = some u := fun j u hj => by
  rw [show (⟨W.heap.size, 0, none⟩ : Addr).add j = ⟨W.heap.size, j, none⟩ from by unfold Addr.add; split <;> simp_all, block_cell (heap_alloc_new W _) j]
  simpa using hj

/-- A key more, behind keys of one's own. -/
theorem wpList_appk {ops : Array Oper} {rest : List Oper} {o : Oper} {a : Act} {Q : Exit → Act → World → Prop} {W : World} (hgd : o.guard = none) (s y : Operand)
    (ho : o.op = .call { callee := .builtin .append, args := #[s, y], argTypes := #[50, 50] }) (base : Nat) (v : Value) (M : List Rw) (r : Rw)
    (hs : a.eval s = v) (hy : a.eval y = .slice (some ⟨W.heap.size, 0, none⟩) 1 1) (hown : W.ownsRow base 26 5 v M.length (rks M)) (hb : base ≤ W.heap.size) (hM : M.length ≤ 10000)
    (h : ∀ g cp W2, W2.ownsRow base 26 5 (.slice (some ⟨g, 0, none⟩) (M.length + 1) cp) (M ++ [r]).length (rks (M ++ [r])) → Below base W W2 → wpList Try.prog ops Q rest (a.put o.dst (.slice (some ⟨g, 0, none⟩) (M.length + 1) cp)) W2) :
    wpList Try.prog ops Q (o :: rest) a (W.alloc (.cells (rwk r).toArray 26)) := by
  obtain ⟨i0, hi0, hz0, hz1, hz2⟩ := info_parts info_tupl
  have la : Later W (W.alloc (.cells (rwk r).toArray 26)) := (Below.refl _ _).alloc (Nat.le_refl _) _
  have hnx := new_key W r
  refine wpList_append_own _ hgd s y 50 ho base 26 i0 (.agg #[.int .u8 0, .int .u32 0, .int .u32 0, .int .u16 0, .int .u16 0]) 5 16 Try.underlying50 hi0 hz0 hz1 hz2 rfl (by decide) v M.length (rks M) hs (ownX_later hown la) ⟨W.heap.size, 0, none⟩ 1 1 (rwk r) hy rfl hnx (by intro u hu; simp only [rwk, List.mem_cons, List.not_mem_nil, or_false] at hu; rcases hu with rfl | rfl | rfl | rfl | rfl <;> rfl) (by unfold maxLen; omega) (by omega) (by have := la.size; omega) ?_
  intro v2 W2 hrow hg _
  obtain ⟨g2, cp2, rfl⟩ := ownsRow_succ hrow
  refine h g2 cp2 W2 ?_ ?_
  · rw [rks_snoc, List.length_append, List.length_singleton]
    exact hrow
  · refine (la.mono hb).trans ⟨hg.os, hg.tape, hg.output, hg.size, fun i hi => hg.block i (by have := la.size; omega) (fun e => ?_)⟩
    have := (hown.lt i e.symm).1
    omega

set_option maxHeartbeats 4000000 in
theorem rdue6_any (base bt : Nat) (v : Value) (lim sq now : Int) (l : List Rw) (w : World) (hT : DT base w bt v lim sq l) (hl : l.length ≤ 2000) :
    Calls Try.prog 26 #[.pointer (some ⟨bt, 0, none⟩), .int .i64 now] w fun e w' => Later w w' ∧ ∃ u, e = .returned u ∧ w'.ownsRow w.heap.size 26 5 u (duR now (ordD l)).length (rks (duR now (ordD l))) := by
  have hXl : (ordD l).length ≤ 2000 := by rw [ordD_length]; exact hl
  go_enter Try.func26, Try.ntmps26
  go_wp2_with fail
  refine (rordered_any base bt v lim sq l w hT hl).mono ?_
  rintro e w1 ⟨l1, u, rfl, hOu⟩
  generalize hXE : ordD l = X at *
  have HXE := hide hXE
  clear hXE
  obtain ⟨av, cv, rfl, hcv1, hcv2⟩ := (ownD_rd hOu).slice
  have HRD := hide (ownD_rd hOu)
  have HL1 := hide l1
  clear hOu
  go_wp2_with fail
  go_loopw [5, 7] (fun ov i wr => ∃ k : Nat, k ≤ X.length ∧ i = .int .i64 (k : Int) ∧ wr.ownsRow w1.heap.size 26 5 ov (duR now (X.take k)).length (rks (duR now (X.take k))) ∧ Later w1 wr) (fun _ i _ => X.length - (intOf i).toNat)
  case atStart => exact ⟨0, by omega, rfl, World.ownsRow_nil _ _ _ _, Later.refl _⟩
  case round =>
    obtain ⟨k, hk, rfl, hOw, hlw⟩ := hrel
    by_cases hlt : k < X.length
    · have hlt' : (k : Int) < X.length := by omega
      obtain ⟨bb, off, cp, e, _, _, hbb, hcs⟩ := (HRD.out.below hlw).cells (by omega)
      simp at e
      obtain ⟨rfl, rfl⟩ := e
      have htk : X.take (k + 1) = X.take k ++ [X[k]] := (List.take_append_getElem hlt).symm
      have hdl : (duR now (X.take k)).length ≤ 2000 := by have := duR_length now (X.take k); rw [List.length_take] at this; omega
      have d0 := hcs k hlt 0 (by omega)
      have d1 := hcs k hlt 1 (by omega)
      have d2 := hcs k hlt 2 (by omega)
      have d3 := hcs k hlt 3 (by omega)
      have d4 := hcs k hlt 4 (by omega)
      have d6 := hcs k hlt 6 (by omega)
      clear hcs
      generalize X[k] = r at *
      simp only [rwc, List.getElem?_cons_zero, List.getElem?_cons_succ, Nat.add_zero] at d0 d1 d2 d3 d4 d6
      obtain ⟨sm, cm, rfl⟩ := ownX_slice hOw
      have HTK := hide htk
      have HOW := hide hOw
      have HLW := hide hlw
      clear htk hOw
      by_cases htl : r.till ≤ now
      · have HDU := hide (duR_yes (l := X.take k) htl)
        generalize duR now (X.take k) = M at *
        go_wp2_with (at_builtin; refine wpList_appk rfl (.tmp 23) (.tmp 29) rfl w1.heap.size _ M r rfl rfl HOW.out HLW.out.size (by omega) ?_; intro g4 cp4 w4 ho4 hb4)
        go_roundw
        case rel => exact ⟨k + 1, by omega, by go_num, by rw [HTK.out, HDU.out]; exact ho4, show Below _ _ _ from Below.trans HLW.out hb4⟩
        case measure => simp [intOf]; omega
      · have HDU := hide (duR_no (l := X.take k) htl)
        go_wp2_with fail
        go_roundw
        case rel => exact ⟨k + 1, by omega, by go_num, by rw [HTK.out, HDU.out]; exact HOW.out, HLW.out⟩
        case measure => simp [intOf]; omega
    · obtain rfl : k = X.length := by omega
      rw [List.take_length] at hOw
      obtain ⟨sm, cm, rfl⟩ := ownX_slice hOw
      go_wp2_with fail
      go_ret
      have hfin := ownX_base hOw HL1.out.size
      exact ⟨HL1.out.trans hlw, _, rfl, by rw [HXE.out]; exact hfin⟩

set_option maxHeartbeats 4000000 in
theorem sameKeys_eq (ga base : Nat) (vb : Value) (X : List Rw) (w : World) (hx : w.heap[ga]? = some (.cells (rks X).toArray 26 (0, 0))) (hy : w.ownsRow base 26 5 vb X.length (rks X)) (hl : X.length ≤ 2000) :
    Calls Try.prog 25 #[.slice (some ⟨ga, 0, none⟩) X.length X.length, vb] w fun e w' => e = .returned (.bool true) ∧ Below w.heap.size w w' := by
  have HX := hide hx
  clear hx
  rcases ownX_cases hy with ⟨rfl, rfl⟩ | ⟨gb, cb, rfl, hc1, hc2, hgb, hcs⟩
  · simp only [List.length_nil]
    go_enter Try.func25, Try.ntmps25
    go_wp2_with fail
    go_loopw [5] (fun i wr => i = .int .i64 0 ∧ wr = w) (fun _ _ => 0)
    case atStart => exact ⟨rfl, rfl⟩
    case round =>
      obtain ⟨rfl, rfl⟩ := hrel
      go_wp2_with fail
      go_ret
      exact ⟨by simp, Below.refl _ _⟩
  · have HY := hide hcs
    clear hcs hy
    go_enter Try.func25, Try.ntmps25
    go_wp2_with fail
    go_loopw [5] (fun i wr => ∃ k : Nat, k ≤ X.length ∧ i = .int .i64 (k : Int) ∧ Later w wr) (fun i _ => X.length - (intOf i).toNat)
    case atStart => exact ⟨0, by omega, rfl, Below.refl _ _⟩
    case round =>
      obtain ⟨k, hk, rfl, hlw⟩ := hrel
      by_cases hlt : k < X.length
      · have hlt' : (k : Int) < X.length := by omega
        have fx := keys_at (later_keep hlw HX.out) k hlt
        have fy : ∀ i, i < 5 → wr.cell? ⟨gb, k * 5 + i, none⟩ = (rwk X[k])[i]? := fun i hi => (Below.cell (B := w.heap.size) hlw (p := ⟨gb, k * 5 + i, none⟩) hgb).trans (HY.out k hlt i hi)
        have a0 := fx 0 (by omega)
        have a1 := fx 1 (by omega)
        have a2 := fx 2 (by omega)
        have a3 := fx 3 (by omega)
        have a4 := fx 4 (by omega)
        have b0 := fy 0 (by omega)
        have b1 := fy 1 (by omega)
        have b2 := fy 2 (by omega)
        have b3 := fy 3 (by omega)
        have b4 := fy 4 (by omega)
        clear fx fy
        generalize X[k] = r at *
        simp only [rwk, List.getElem?_cons_zero, List.getElem?_cons_succ, Nat.add_zero] at a0 a1 a2 a3 a4 b0 b1 b2 b3 b4
        go_upto_region 6 with fail
        go_quiet (fail)
        have hld : Later w (wr.drewN nq) := hlw.trans (below_draw (Below.refl _ _) nq)
        go_wp2_with fail
        go_roundw
        case rel => exact ⟨k + 1, by omega, by go_num, hld⟩
        case measure => simp [intOf]; omega
      · obtain rfl : k = X.length := by omega
        go_wp2_with fail
        go_ret
        exact ⟨by simp, hlw⟩
end Go.Proofs.Ytahphjindjlcpaa

/- Package table: First. -/
namespace Go.Proofs.Ytahphjindjlcpaa
open Go.RowKit Go.Shelf
set_option maxRecDepth 100000
attribute [local go_sem] Oper.semAt_some
set_option linter.unusedVariables false
set_option linter.unusedSimpArgs false

def zRx : Rw := ⟨0, 0, 0, 0, 0, 0, 0, 0⟩
/-- The first of rows, as they are gone through. -/
def fst2 (l : List Rw) : Rw × Bool := l.foldl (fun q r => if q.2 = false ∨ ltR r q.1 = true then (r, true) else q) (zRx, false)
theorem fst2_snoc (l : List Rw) (r : Rw) : fst2 (l ++ [r]) = if (fst2 l).2 = false ∨ ltR r (fst2 l).1 = true then (r, true) else fst2 l := by unfold fst2; rw [List.foldl_append]; rfl
theorem fst2_least (l : List Rw) : (l = [] ∧ fst2 l = (zRx, false)) ∨ ((fst2 l).2 = true ∧ (fst2 l).1 ∈ l ∧ ∀ r ∈ l, ltR r (fst2 l).1 = false) := by
  suffices h : ∀ m : List Rw, (m.reverse = [] ∧ fst2 m.reverse = (zRx, false)) ∨ ((fst2 m.reverse).2 = true ∧ (fst2 m.reverse).1 ∈ m.reverse ∧ ∀ r ∈ m.reverse, ltR r (fst2 m.reverse).1 = false) by simpa using h l.reverse
  intro m
  induction m with
  | nil => exact .inl ⟨rfl, rfl⟩
  | cons x m ih =>
    refine .inr ?_
    rw [List.reverse_cons, fst2_snoc]
    generalize m.reverse = l at *
    have hxx : ltR x x = false := by rw [ltR_false]; omega
    rcases ih with ⟨rfl, e⟩ | ⟨h1, h2, h3⟩
    · rw [e]
      refine ⟨by simp, by simp, fun r hr => ?_⟩
      obtain rfl : r = x := by simpa using hr
      simpa using hxx
    · by_cases hlt : ltR x (fst2 l).1 = true
      · rw [if_pos (.inr hlt)]
        refine ⟨rfl, by simp, fun r hr => ?_⟩
        rcases List.mem_append.1 hr with hr | hr
        · have h4 := h3 r hr
          show ltR r x = false
          rw [ltR_iff] at hlt
          rw [ltR_false] at h4 ⊢
          omega
        · obtain rfl : r = x := by simpa using hr
          exact hxx
      · rw [if_neg (by simp [h1, hlt])]
        refine ⟨h1, List.mem_append_left _ h2, fun r hr => ?_⟩
        rcases List.mem_append.1 hr with hr | hr
        · exact h3 r hr
        · obtain rfl : r = x := by simpa using hr
          simpa using hlt

/-- The first of the rows is the first of them in order. -/
theorem fst2_ordD {m l : List Rw} (hp : m.Perm l) (hd : l.Pairwise (fun x y => x.turn ≠ y.turn)) : (Value.tuple #[.agg (rwk (fst2 m).1).toArray, .bool (fst2 m).2]) = frv (ordD l) := by
  have hpo : m.Perm (ordD l) := hp.trans (ordD_perm l).symm
  have hO := ordD_inO l
  have hdo : (ordD l).Pairwise (fun x y => x.turn ≠ y.turn) := ((ordD_perm l).pairwise_iff (fun {x y} h e => h e.symm)).2 hd
  rcases fst2_least m with ⟨rfl, e⟩ | ⟨h1, h2, h3⟩
  · have : ordD l = [] := hpo.symm.eq_nil
    rw [this, e]
    rfl
  · cases hX : ordD l with
    | nil => rw [hX] at hpo; rw [hpo.eq_nil] at h2; cases h2
    | cons y X =>
      rw [hX] at hpo hO hdo
      have hy : y ∈ m := hpo.mem_iff.2 (by simp)
      have a1 := h3 y hy
      have hf := hpo.mem_iff.1 h2
      have : (fst2 m).1 = y := by
        rcases List.mem_cons.1 hf with e | hf
        · exact e
        · have a2 := (List.pairwise_cons.1 hO).1 _ hf
          have a3 := (List.pairwise_cons.1 hdo).1 _ hf
          rw [ltR_false] at a1 a2
          omega
      rw [this, h1]
      rfl

theorem wp_calm {P : Program} {c : Code} {Q : Exit → Act → World → Prop} {a : Act} {w : World} (h : c.wp P (fun e a w => e = .normal ∧ Q .normal a w) a w) : c.wp P Q a w := wp_mono h (fun e a w h => by obtain ⟨rfl, h⟩ := h; exact h)

/-- What First keeps while it looks. -/
def PX (rb : Nat) (pre : List Rw) (W : World) : Prop := W.heap[rb]? = some (.cells #[.int .u8 0, .int .u32 0, .int .u32 0, .int .u16 0, .int .u16 0] 26 (0, 0)) ∧ W.heap[rb + 1]? = some (.cells (rwc (fst2 pre).1).toArray 65 (0, 0)) ∧ W.heap[rb + 1 + 1]? = some (.cells #[.bool (fst2 pre).2] 4 (0, 0))
theorem PX.ct {rb : Nat} {pre : List Rw} {A B : World} (h : PX rb pre A) (c : CT A B) : PX rb pre B := ⟨c.2 _ _ h.1 rfl, c.2 _ _ h.2.1 rfl, c.2 _ _ h.2.2 rfl⟩

set_option maxRecDepth 100000 in
set_option maxHeartbeats 4000000 in
theorem tfirst_any (base bt : Nat) (lim cnt trn : Int) (ls : Nat → List Rw) (w : World) (hT : TB base w bt lim cnt trn ls) :
    Calls Try.prog 22 #[.pointer (some ⟨bt, 0, none⟩)] w fun e w' => Below w.heap.size w w' ∧ e = .returned (.tuple #[.agg (rwk (fst2 (allR ls)).1).toArray, .bool (fst2 (allR ls)).2]) := by
  obtain ⟨vs, hT⟩ := hT
  refine (callsIn_wide (n := 5)).1 ?_
  refine callsIn_of_wp_marks Try.func22 rfl trivial ?_ rfl
  simp only [Try.ntmps22, List.size_toArray, List.length_cons, List.length_nil, Nat.reduceAdd, Nat.reduceSub, Array.replicate_succ, Array.replicate_zero, List.push_toArray, List.append_toArray, List.nil_append, List.cons_append]
  have hb4 : Later w ((((w.alloc (.cells #[.int .u8 0, .int .u32 0, .int .u32 0, .int .u16 0, .int .u16 0] 26)).alloc (.cells #[.int .u8 0, .int .u32 0, .int .u32 0, .int .u16 0, .int .u16 0, .int .i64 0, .int .i64 0, .int .i64 0] 65)).alloc (.cells #[.bool false] 4)).alloc (.cells #[.pointer (some ⟨bt, 3, none⟩)] 66)) := ((((Below.refl _ _).alloc (Nat.le_refl _) _).alloc (by simp) _).alloc (by simp <;> omega) _).alloc (by simp <;> omega) _
  have c0 : ((((w.alloc (.cells #[.int .u8 0, .int .u32 0, .int .u32 0, .int .u16 0, .int .u16 0] 26)).alloc (.cells #[.int .u8 0, .int .u32 0, .int .u32 0, .int .u16 0, .int .u16 0, .int .i64 0, .int .i64 0, .int .i64 0] 65)).alloc (.cells #[.bool false] 4)).alloc (.cells #[.pointer (some ⟨bt, 3, none⟩)] 66)).heap[w.heap.size]? = some (.cells #[.int .u8 0, .int .u32 0, .int .u32 0, .int .u16 0, .int .u16 0] 26) := (Below.heap_alloc _ _ _ (by simp <;> omega)).trans ((Below.heap_alloc _ _ _ (by simp <;> omega)).trans ((Below.heap_alloc _ _ _ (by simp)).trans (heap_alloc_new w _)))
  have c1 : ((((w.alloc (.cells #[.int .u8 0, .int .u32 0, .int .u32 0, .int .u16 0, .int .u16 0] 26)).alloc (.cells #[.int .u8 0, .int .u32 0, .int .u32 0, .int .u16 0, .int .u16 0, .int .i64 0, .int .i64 0, .int .i64 0] 65)).alloc (.cells #[.bool false] 4)).alloc (.cells #[.pointer (some ⟨bt, 3, none⟩)] 66)).heap[w.heap.size + 1]? = some (.cells #[.int .u8 0, .int .u32 0, .int .u32 0, .int .u16 0, .int .u16 0, .int .i64 0, .int .i64 0, .int .i64 0] 65) := by
    have := heap_alloc_new (w.alloc (.cells #[.int .u8 0, .int .u32 0, .int .u32 0, .int .u16 0, .int .u16 0] 26)) (.cells #[.int .u8 0, .int .u32 0, .int .u32 0, .int .u16 0, .int .u16 0, .int .i64 0, .int .i64 0, .int .i64 0] 65)
    rw [World.size_alloc] at this
    exact (Below.heap_alloc _ _ _ (by simp)).trans ((Below.heap_alloc _ _ _ (by simp)).trans this)
  have c2 : ((((w.alloc (.cells #[.int .u8 0, .int .u32 0, .int .u32 0, .int .u16 0, .int .u16 0] 26)).alloc (.cells #[.int .u8 0, .int .u32 0, .int .u32 0, .int .u16 0, .int .u16 0, .int .i64 0, .int .i64 0, .int .i64 0] 65)).alloc (.cells #[.bool false] 4)).alloc (.cells #[.pointer (some ⟨bt, 3, none⟩)] 66)).heap[w.heap.size + 1 + 1]? = some (.cells #[.bool false] 4) := by
    have := heap_alloc_new ((w.alloc (.cells #[.int .u8 0, .int .u32 0, .int .u32 0, .int .u16 0, .int .u16 0] 26)).alloc (.cells #[.int .u8 0, .int .u32 0, .int .u32 0, .int .u16 0, .int .u16 0, .int .i64 0, .int .i64 0, .int .i64 0] 65)) (.cells #[.bool false] 4)
    simp only [World.size_alloc] at this
    exact (Below.heap_alloc _ _ _ (by simp)).trans this
  have c3 : ((((w.alloc (.cells #[.int .u8 0, .int .u32 0, .int .u32 0, .int .u16 0, .int .u16 0] 26)).alloc (.cells #[.int .u8 0, .int .u32 0, .int .u32 0, .int .u16 0, .int .u16 0, .int .i64 0, .int .i64 0, .int .i64 0] 65)).alloc (.cells #[.bool false] 4)).alloc (.cells #[.pointer (some ⟨bt, 3, none⟩)] 66)).heap[w.heap.size + 1 + 1 + 1]? = some (.cells #[.pointer (some ⟨bt, 3, none⟩)] 66) := by
    have := heap_alloc_new (((w.alloc (.cells #[.int .u8 0, .int .u32 0, .int .u32 0, .int .u16 0, .int .u16 0] 26)).alloc (.cells #[.int .u8 0, .int .u32 0, .int .u32 0, .int .u16 0, .int .u16 0, .int .i64 0, .int .i64 0, .int .i64 0] 65)).alloc (.cells #[.bool false] 4)) (.cells #[.pointer (some ⟨bt, 3, none⟩)] 66)
    simpa only [World.size_alloc] using this
  have hs4 : ((((w.alloc (.cells #[.int .u8 0, .int .u32 0, .int .u32 0, .int .u16 0, .int .u16 0] 26)).alloc (.cells #[.int .u8 0, .int .u32 0, .int .u32 0, .int .u16 0, .int .u16 0, .int .i64 0, .int .i64 0, .int .i64 0] 65)).alloc (.cells #[.bool false] 4)).alloc (.cells #[.pointer (some ⟨bt, 3, none⟩)] 66)).heap.size = w.heap.size + 1 + 1 + 1 + 1 := by simp
  have C0 := hide c0
  have C1 := hide c1
  have C2 := hide c2
  have C3 := hide c3
  have HS4 := hide hs4
  clear c0 c1 c2 c3 hs4
  gi_wp2_with (refine ⟨trivial, ?_⟩; gi_at_call 39; refine (all_in _ _ _).mono ?_; rintro e w' ⟨rfl, rfl⟩)
  generalize ((((w.alloc (.cells #[.int .u8 0, .int .u32 0, .int .u32 0, .int .u16 0, .int .u16 0] 26)).alloc (.cells #[.int .u8 0, .int .u32 0, .int .u32 0, .int .u16 0, .int .u16 0, .int .i64 0, .int .i64 0, .int .i64 0] 65)).alloc (.cells #[.bool false] 4)).alloc (.cells #[.pointer (some ⟨bt, 3, none⟩)] 66)) = w4 at *
  have hs4 : w4.heap.size = w.heap.size + 1 + 1 + 1 + 1 := HS4.out
  refine wpIn_rangeX (w := w4) rfl (by omega) (gf := 51) (lb := #[.pointer (some ⟨w.heap.size + 1 + 1 + 1, 0, none⟩)]) rfl trivial (enters_of Try.func51 (by kernel_rfl) rfl)
    (all_gen 4 (by omega) (w.heap.size + 1 + 1 + 1) bt w.heap.size base lim cnt trn vs ls w w4 hT rfl hb4 (by omega) (block_cell C3.out 0))
    (fun h k => h.trans k) (fun W l o o' hl ho hc hw => belowK_b (w := w4) (by omega) W l o o' hl ho hc hw) (fun hA hL => hL.mono (by omega)) (fun _ _ _ _ h _ => h) (fun _ _ _ _ _ _ _ _ _ h => h) (fun _ => rfl)
    (fun pre W => PX w.heap.size pre W ∧ Below w.heap.size w W) (fun pre W => False)
    (OwnFrom.and (fun s A B row hs hg hr => hs.ct (CT.row hg (fun r e => (hr r e).2))) (ownFrom_below (Nat.le_refl _) (by omega)))
    (fun s A B h l => ⟨h.1.ct (CT.of l), h.2.trans (l.mono h.2.size)⟩)
    (fun s A B row hs hg hr => hs)
    ⟨⟨C0.out, C1.out, C2.out⟩, hb4⟩
    (fun x a' W => ∃ bx : Nat, w.heap.size + 1 + 1 + 1 + 1 ≤ bx ∧ W.heap[bx]? = some (.cells #[.int .u8 x.p, .int .u32 x.s, .int .u32 x.d, .int .u16 x.a, .int .u16 x.b, .int .i64 x.id, .int .i64 x.till, .int .i64 x.turn] 65 (0, 0)) ∧ a' = { tmps := #[.pointer (some ⟨bt, 0, none⟩), undef, .pointer (some ⟨w.heap.size, 0, none⟩), .bool false, .pointer (some ⟨w.heap.size + 1, 0, none⟩), .pointer (some ⟨w.heap.size + 1 + 1, 0, none⟩), .pointer (some ⟨bx, 0, none⟩), .pointer (some ⟨bt, 0, none⟩), .bool false, undef, .pointer (some ⟨bt, 0, none⟩), .pointer (some ⟨bt, 0, none⟩), .pointer (some ⟨bt, 3, none⟩), .func (.func 51) #[] #[.pointer (some ⟨w.heap.size + 1 + 1 + 1, 0, none⟩)], .agg #[.int .u8 x.p, .int .u32 x.s, .int .u32 x.d, .int .u16 x.a, .int .u16 x.b, .int .i64 x.id, .int .i64 x.till, .int .i64 x.turn], undef, undef, undef, undef, undef, undef, undef, undef, undef, undef, undef, undef], defers := [] })
    (fun x a' W l o o' hl ho hc h => by obtain ⟨bx, h1, h2, h3⟩ := h; exact ⟨bx, h1, (CT.put ho hc).2 _ _ h2 rfl, h3⟩) ?assign ?body ?done ?stop
  case assign =>
    rintro l pre x W K hsz _ hX hK
    dsimp only [encR, rwc]
    gi_wp2
    refine hK _ _ ?_ ⟨W.heap.size, by omega, heap_alloc_new _ _, rfl⟩
    exact (Below.refl _ W).alloc (Nat.le_refl _) _
  case body =>
    rintro l pre x a' W ⟨⟨h0, h1, h2⟩, hbW⟩ hX ⟨bx, hbx, hbo, rfl⟩
    have hsn := fst2_snoc pre x
    have hstore : ∀ W1, W1.heap[w.heap.size]? = some (.cells #[.int .u8 0, .int .u32 0, .int .u32 0, .int .u16 0, .int .u16 0] 26 (0, 0)) → W1.heap[w.heap.size + 1]? = some (.cells (rwc (fst2 pre).1).toArray 65 (0, 0)) → W1.heap[w.heap.size + 1 + 1]? = some (.cells #[.bool (fst2 pre).2] 4 (0, 0)) → Later W W1 → fst2 (pre ++ [x]) = (x, true) →
        postX w4.heap.size (Below w.heap.size) (fun pre W => PX w.heap.size pre W ∧ Below w.heap.size w W) (fun pre W => False) (pre ++ [x]) W Exit.normal { tmps := #[], defers := [] } ((putRow W1 (w.heap.size + 1) 0 (rwc x)).setCell ⟨w.heap.size + 1 + 1, 0, none⟩ (.bool true)) := by
      intro W1 g0 g1 g2 l1 hf
      have hbW1 := hbW.trans (l1.mono hbW.size)
      obtain ⟨V, hV2⟩ : ∃ V, V = putRow W1 (w.heap.size + 1) 0 (rwc x) := ⟨_, rfl⟩
      rw [← hV2]
      have v1 : V.heap[w.heap.size + 1]? = some (.cells (rwc x).toArray 65 (0, 0)) := by rw [hV2]; exact putRow_all (rwc x) g1 rfl
      have hbV : But (fun g => g = w.heap.size + 1 ∨ g = w.heap.size + 1 + 1) W1 V := by rw [hV2]; exact putRow_but (E := fun g => g = w.heap.size + 1 ∨ g = w.heap.size + 1 + 1) (n := w.heap.size + 1) (.inl rfl) (rwc x) 0 W1 W1 (But.refl _ _)
      have hbS := hbV.setCell (p := ⟨w.heap.size + 1 + 1, 0, none⟩) (.inr rfl) (.bool true)
      have hsz1 : w.heap.size ≤ W1.heap.size := hbW1.size
      have hbl := hbS.below hsz1 (fun k hk e => by rcases e with rfl | rfl <;> omega)
      refine ⟨⟨Nat.le_trans l1.size hbS.size, fun i o hi ho hc => ?_⟩, (l1.mono hbW.size).trans hbl, ⟨?_, ?_, ?_⟩, hbW1.trans hbl⟩
      · have := later_keep l1 ho
        exact (hbS.block i (Array.getElem?_eq_some_iff.1 this).1 (fun e => by rcases e with rfl | rfl <;> omega)).trans this
      · exact (hbS.block _ (Array.getElem?_eq_some_iff.1 g0).1 (fun e => by rcases e with e | e <;> omega)).trans g0
      · rw [hf]
        exact (Below.heap_setCell V ⟨w.heap.size + 1 + 1, 0, none⟩ _ (w.heap.size + 1) (by simp)).trans v1
      · rw [hf]
        have v2 : V.heap[w.heap.size + 1 + 1]? = some (.cells #[.bool (fst2 pre).2] 4 (0, 0)) := by
          rw [hV2]
          exact ((putRow_rb (rb := w.heap.size + 1) (rwc x) W1).block (w.heap.size + 1 + 1) (Array.getElem?_eq_some_iff.1 g2).1 (by omega)).trans g2
        exact heap_set1 v2 0 _
    have HST := hide hstore
    have HSN := hide hsn
    clear hstore hsn
    generalize fst2 pre = q at *
    obtain ⟨f, b⟩ := q
    simp only at h1 h2
    have HIN := hide (((callsIn_wide (n := 2)).2 (inOrder_any x f W)).inRound l)
    have Kb := block_cell hbo
    have K1 := block_cell h1
    have K2 := block_cell h2
    have F1 := block_frozen h1
    have F2 := block_frozen h2
    simp only [rwc] at K1
    cases b with
    | false =>
      have hf : fst2 (pre ++ [x]) = (x, true) := by rw [HSN.out, if_pos (.inl rfl)]
      have HF := hide hf
      clear hf
      gi_wp2
      refine ⟨trivial, ?_⟩
      gi_wp2
      exact HST.out W h0 h1 h2 (Later.refl _) HF.out
    | true =>
      gi_wp2
      refine ⟨trivial, ?_⟩
      refine HIN.out.mono ?_
      rintro e W1 ⟨rfl, hl1⟩
      have l1 : Later W W1 := hl1
      have g0 := later_keep l1 h0
      have g1 := later_keep l1 h1
      have g2 := later_keep l1 h2
      have gb := later_keep l1 hbo
      clear Kb K1 K2 F1 F2
      have Kb := block_cell gb
      have K1 := block_cell g1
      have K2 := block_cell g2
      have F1 := block_frozen g1
      have F2 := block_frozen g2
      simp only [rwc] at K1
      by_cases hlt : ordv x f < 0
      · have hf : fst2 (pre ++ [x]) = (x, true) := by rw [HSN.out, if_pos (.inr (by unfold ltR; simpa using hlt))]
        have HF := hide hf
        clear hf
        gi_wp2
        exact HST.out W1 g0 g1 g2 l1 HF.out
      · have hf : fst2 (pre ++ [x]) = (f, true) := by rw [HSN.out, if_neg (by unfold ltR; simpa using hlt)]
        have HF := hide hf
        clear hf
        gi_wp2
        exact ⟨⟨l1.size, fun i o hi ho hc => later_keep l1 ho⟩, l1.mono hbW.size, ⟨g0, by rw [HF.out]; exact g1, by rw [HF.out]; exact g2⟩, hbW.trans (l1.mono hbW.size)⟩
  case done =>
    rintro D xs W hD rfl ⟨⟨h0, h1, h2⟩, hbW⟩ hK
    generalize hq : fst2 (allR ls) = q at *
    have HQ := hide hq
    clear hq
    obtain ⟨f, b⟩ := q
    simp only at h1 h2
    gi_wp2
    refine wpIn_wide.2 (wp_calm ?_)
    refine anyT_begin (R := But (fun g => g = w.heap.size)) 5 rfl (by kernel_rfl) ?_
    have ld : Later W W.drew := Later.drew W
    have g0 := later_keep ld h0
    have g1 := later_keep ld h1
    have g2 := later_keep ld h2
    have gD := later_keep ld hK
    have hbd := hbW.trans (ld.mono hbW.size)
    clear h0 h1 h2 hK
    generalize W.drew = Wd at *
    have q1 : ∀ v1, But (fun g => g = w.heap.size) Wd v1 → ∀ j, v1.cell? ⟨w.heap.size + 1, j, none⟩ = (rwc f).toArray[j]? := fun v1 hv => block_cell ((hv.block _ (Array.getElem?_eq_some_iff.1 g1).1 (by omega)).trans g1)
    have q2 : ∀ v1, But (fun g => g = w.heap.size) Wd v1 → ∀ j, v1.cell? ⟨w.heap.size + 1 + 1, j, none⟩ = #[Value.bool b][j]? := fun v1 hv => block_cell ((hv.block _ (Array.getElem?_eq_some_iff.1 g2).1 (by omega)).trans g2)
    simp only [rwc] at q1
    refine anyT_val (But.pre _) 0 rfl (by kernel_rfl) (by kernel_rfl) (by kernel_rfl) (fun _ _ _ _ h => by cases h.1) rfl ?_; apply Exists.intro; refine ⟨fun v1 hv1 => ?_, ?_⟩; (· (go_simp; rfl)); simp only [Act.put, List.setIfInBounds_toArray, List.set_cons_zero, List.set_cons_succ]
    refine anyT_val (But.pre _) 1 rfl (by kernel_rfl) (by kernel_rfl) (by kernel_rfl) (fun _ _ _ _ h => by cases h.1) rfl ?_; apply Exists.intro; refine ⟨fun v1 hv1 => ?_, ?_⟩; (· (go_simp; rfl)); simp only [Act.put, List.setIfInBounds_toArray, List.set_cons_zero, List.set_cons_succ]
    refine anyT_val (But.pre _) 2 rfl (by kernel_rfl) (by kernel_rfl) (by kernel_rfl) (fun _ _ _ _ h => by cases h.1) rfl ?_; apply Exists.intro; refine ⟨fun v1 hv1 => ?_, ?_⟩; (· (go_simp; rfl)); simp only [Act.put, List.setIfInBounds_toArray, List.set_cons_zero, List.set_cons_succ]
    clear q1 q2
    refine anyT_one 3 rfl (by kernel_rfl) rfl ?_
    have K0 := block_cell g0
    have F0 := block_frozen g0
    unfold Oper.wp
    go_simp
    generalize hV : World.setCell _ _ _ = V
    replace hV : putRow Wd w.heap.size 0 (rwk f) = V := hV
    have v1 := putRow_all (rwk f) g0 rfl
    have hbV := putRow_rb (rb := w.heap.size) (rwk f) Wd
    rw [hV] at v1 hbV
    refine ⟨hbV, ?_⟩
    have hDV := (hbV.block D (Array.getElem?_eq_some_iff.1 gD).1 (by omega)).trans gD
    have hbf := hbd.trans (hbV.below hbd.size (fun k hk e => by omega))
    clear hV K0 F0
    refine anyT_val (But.pre _) 4 rfl (by kernel_rfl) (by kernel_rfl) (by kernel_rfl) (fun _ _ _ _ h => by cases h.1) rfl ?_; apply Exists.intro; refine ⟨fun v1 hv1 => ?_, ?_⟩; (· (go_simp; rfl)); simp only [Act.put, List.setIfInBounds_toArray, List.set_cons_zero, List.set_cons_succ]
    refine anyT_done (by kernel_rfl) ⟨rfl, ?_⟩
    gi_wp2
    refine ⟨by simp, .inl ⟨_, _, rfl, run_takeDeferred hDV, ?_⟩⟩
    have z1 := (CT.put (o' := .deferred none) hDV rfl).2 _ _ v1 rfl
    have k1 := block_cell z1
    simp only [rwk] at k1
    rw [HQ.out]
    exact ⟨.tuple #[.agg (rwk f).toArray, .bool b], by simp [results, Try.results22, go_sem, k1, rwk], hbf.trans (belowK_b (w := w) (Nat.le_refl _) V D _ _ (by omega) hDV rfl rfl), rfl⟩
  case stop =>
    rintro D pre W hD hSp hF hK
    exact hF.elim
end Go.Proofs.Ytahphjindjlcpaa

/- The law's same; the walk of TablePlays. -/
namespace Go.Proofs.Ytahphjindjlcpaa
open Go.RowKit Go.Shelf
set_option maxRecDepth 100000
set_option linter.unusedVariables false
set_option linter.unusedSimpArgs false

theorem rgv_form (p s d a b : Int) (l : List Rw) : ∃ x y c, rgv p s d a b l = .tuple #[.int .i64 x, .int .i64 y, .bool c] := by
  unfold rgv
  cases hk : kix p s d (kyp p a) b l with
  | none => exact ⟨_, _, _, rfl⟩
  | some k =>
    obtain ⟨hkl, _⟩ := kix_at hk
    simp only [List.getElem?_eq_getElem hkl]
    exact ⟨_, _, _, rfl⟩

set_option maxHeartbeats 8000000 in
theorem same6_gen (base bt bd : Nat) (lim lim2 trn trn2 : Int) (ls : Nat → List Rw) (v : Value) (l : List Rw) (p s d a b now : Int) (w : World) (hT : TB base w bt lim (l.length : Nat) trn ls) (hD : DT base w bd v lim2 trn2 l) (hR : Rel ls l) (hl8 : l.length ≤ 8) (hwt : l.Pairwise (fun x y => x.turn ≠ y.turn)) (hg : Rg5 p s d a b) :
    Calls Try.prog 9 #[.pointer (some ⟨bt, 0, none⟩), .pointer (some ⟨bd, 0, none⟩), .agg #[.int .u8 p, .int .u32 s, .int .u32 d, .int .u16 a, .int .u16 b], .int .i64 now] w fun e w' => e = .returned (.bool true) ∧ Later w w' := by
  have hpm := hR.perm
  have hal : (allR ls).length = l.length := hpm.length_eq
  have hdt : (allR ls).Pairwise (fun x y => x.turn ≠ y.turn) := (hpm.pairwise_iff (fun {x y} h e => h e.symm)).2 hwt
  have hso : isort (allR ls) = ordD l := ordD_isort hpm hwt
  have HGET := hide (fun W (hW : Later w W) => get_any base bt lim l.length trn ls p s d a b W (TB.later hT hW) hg.1 hg.2.1 hg.2.2.1 hg.2.2.2)
  have HRGET := hide (fun W (hW : Later w W) => rget6_any base bd v lim2 trn2 l p s d a b W (hD.later hW))
  have HFST := hide (fun W (hW : Later w W) => tfirst_any base bt lim l.length trn ls W (TB.later hT hW))
  have HRFST := hide (fun W (hW : Later w W) => rfirst6_any base bd v lim2 trn2 l W (hD.later hW) (by omega))
  have HLEN := hide (fun W (hW : Later w W) => len_any base bt lim l.length trn ls W (TB.later hT hW))
  have HRLEN := hide (fun W (hW : Later w W) => rlen6_any base bd v lim2 trn2 l W (hD.later hW))
  have HDUE := hide (fun W (hW : Later w W) => by
    have h := due_any base bt lim l.length trn now ls _ W (TB.later hT hW) (sorts_few (duR now (allR ls)) (by have := duR_length now (allR ls); omega)) (by omega)
    rw [isort_due hdt now, hso] at h
    exact h)
  have HRDUE := hide (fun W (hW : Later w W) => rdue6_any base bd v lim2 trn2 now l W (hD.later hW) (by omega))
  have hXl : (duR now (ordD l)).length ≤ 2000 := by have := duR_length now (ordD l); rw [ordD_length] at this; omega
  have HEQ := hide (rel_rgv hR p s d a b)
  have HFQ := hide (fst2_ordD hpm hwt)
  obtain ⟨x, y, c, hv⟩ := rgv_form p s d a b l
  have HV := hide hv
  clear hT hD hR hwt hpm hal hdt hso hv
  have lb0 : Later w (w.alloc (.cells #[.int .u8 p, .int .u32 s, .int .u32 d, .int .u16 a, .int .u16 b] 26)) := (Below.refl _ _).alloc (Nat.le_refl _) _
  have c0 := heap_alloc_new w (.cells #[.int .u8 p, .int .u32 s, .int .u32 d, .int .u16 a, .int .u16 b] 26)
  have k0 := block_cell c0
  go_enter Try.func9, Try.ntmps9
  go_wp2_with fail
  generalize w.alloc _ = w0 at *
  refine (HGET.out w0 lb0).mono ?_
  rintro e w1 ⟨l1, rfl⟩
  rw [HEQ.out, HV.out]
  have L1 : Later w w1 := lb0.trans l1
  have c1 := later_keep l1 c0
  clear k0 c0 l1 lb0
  have k1 := block_cell c1
  go_wp2_with fail
  refine (HRGET.out w1 L1).mono ?_
  rintro e w2 ⟨rfl, l2⟩
  rw [HV.out]
  have L2 := L1.trans l2
  clear k1 c1 l2 L1
  go_wp2_with fail
  refine (HFST.out w2 L2).mono ?_
  rintro e w3 ⟨l3, rfl⟩
  have L3 : Later w w3 := L2.trans l3
  clear l3 L2
  generalize fst2 (allR ls) = q at *
  obtain ⟨f, fb⟩ := q
  simp only [rwk] at HFQ ⊢
  have la3 : Later w3 (w3.alloc (.cells #[.int .u8 f.p, .int .u32 f.s, .int .u32 f.d, .int .u16 f.a, .int .u16 f.b] 26)) := (Below.refl _ _).alloc (Nat.le_refl _) _
  have c3 := heap_alloc_new w3 (.cells #[.int .u8 f.p, .int .u32 f.s, .int .u32 f.d, .int .u16 f.a, .int .u16 f.b] 26)
  go_wp2_with fail
  generalize w3.alloc _ = w4 at *
  have L4 := L3.trans la3
  refine (HRFST.out w4 L4).mono ?_
  rintro e w5 ⟨rfl, l5⟩
  rw [← HFQ.out]
  have L5 := L4.trans l5
  have c5 := later_keep l5 c3
  have la5 : Later w5 (w5.alloc (.cells #[.int .u8 f.p, .int .u32 f.s, .int .u32 f.d, .int .u16 f.a, .int .u16 f.b] 26)) := (Below.refl _ _).alloc (Nat.le_refl _) _
  have c6 := heap_alloc_new w5 (.cells #[.int .u8 f.p, .int .u32 f.s, .int .u32 f.d, .int .u16 f.a, .int .u16 f.b] 26)
  have c7 := later_keep la5 c5
  have L6 := L5.trans la5
  clear la3 c3 l5 L4 L3 c5 la5 L5
  have k6 := block_cell c6
  have k7 := block_cell c7
  go_wp2_with fail
  generalize w5.alloc _ = w6 at *
  refine (HLEN.out w6 L6).mono ?_
  rintro e w7 ⟨rfl, l7⟩
  have L7 : Later w w7 := L6.trans l7
  clear k6 k7 c6 c7 l7 L6
  go_wp2_with fail
  refine (HRLEN.out w7 L7).mono ?_
  rintro e w8 ⟨rfl, l8⟩
  have L8 : Later w w8 := L7.trans l8
  clear l8 L7
  go_wp2_with fail
  refine (HDUE.out w8 L8).mono ?_
  rintro e w9 ⟨l9, g9, rfl, _, h9⟩
  have L9 : Later w w9 := L8.trans l9
  clear l9 L8
  go_wp2_with fail
  refine (HRDUE.out w9 L9).mono ?_
  rintro e w10 ⟨l10, u, rfl, h10⟩
  have L10 : Later w w10 := L9.trans l10
  have h9' := later_keep l10 h9
  clear l10 L9
  have HK := hide (fun W (hW : W = w10) => sameKeys_eq g9 w9.heap.size u (duR now (ordD l)) w10 h9' h10 hXl)
  obtain ⟨su, cu, rfl⟩ := ownX_slice h10
  clear h9 h9' h10
  go_wp2_with fail
  refine (HK.out w10 rfl).mono ?_
  rintro e w11 ⟨rfl, l11⟩
  have L11 : Later w w11 := L10.trans l11
  go_wp2_with fail
  go_ret
  exact ⟨by simp, L11⟩

theorem same6_any (base bt bd : Nat) (lim : Int) (n : Nat) (p s d a b now : Int) (w : World) (h : PT base w bt bd lim n) (hlm : lim ≤ 8) (hg : Rg5 p s d a b) :
    Calls Try.prog 9 #[.pointer (some ⟨bt, 0, none⟩), .pointer (some ⟨bd, 0, none⟩), .agg #[.int .u8 p, .int .u32 s, .int .u32 d, .int .u16 a, .int .u16 b], .int .i64 now] w fun e w' => e = .returned (.bool true) ∧ Later w w' := by
  obtain ⟨ls, v, l, trn, hT, hD, hR, hl1, hl2, ht0, ht1, hwf, hwt, hwk⟩ := h
  exact same6_gen base bt bd lim lim trn trn ls v l p s d a b now w hT hD hR (by have := hwf.1; omega) hwt.2 hg

set_option maxHeartbeats 4000000 in
theorem plays_walk (w : World) (m : Int) (hm : 0 ≤ m ∧ m ≤ 255) (sv : Value) (ds : List De) (hI : RdE w.heap.size w sv ds) (hd : ∀ d ∈ ds, wfE d) (x : De) (hx : wfE x) :
    Calls Try.prog 3 #[.int .u8 m, sv, .agg (dec x).toArray] w fun e w' => e = .returned (.bool true) ∧ Below w.heap.size w w' := by
  obtain ⟨aa, ca, rfl, ha1, ha2⟩ := hI.slice
  have lb0 : Later w (w.alloc (.cells (dec x).toArray 28)) := (Below.refl _ _).alloc (Nat.le_refl _) _
  have c0 := heap_alloc_new w (.cells (dec x).toArray 28)
  simp only [dec] at lb0 c0 ⊢
  go_enter Try.func3, Try.ntmps3
  go_upto_region 1 with fail
  generalize w.alloc _ = w0 at *
  go_wp2_with fail
  refine (play6_any w.heap.size m _ ds w0 hm (hI.below lb0) hd lb0.size).mono ?_
  rintro e w1 ⟨l1, bt, bd, rfl, hP⟩
  have L1 := lb0.trans l1
  have c1 := later_keep l1 c0
  clear c0 l1 lb0
  go_wp2_with fail
  refine (live6_any w1).mono ?_
  rintro e w2 ⟨rfl, l2⟩
  have L2 := L1.trans l2
  have c2 := later_keep l2 c1
  have hP2 := hP.later l2
  clear c1 l2 L1 hP
  have k2 := block_cell c2
  have HS := hide (same6_any w0.heap.size bt bd (m % 8 + 1) 100 x.p x.s x.d x.a x.b x.till w2 hP2 (by omega) ⟨hx.2.1, hx.2.2.1, hx.2.2.2.1, hx.2.2.2.2.1⟩)
  go_wp2_with fail
  refine HS.out.mono ?_
  rintro e w3 ⟨rfl, l3⟩
  have L3 := L2.trans l3
  go_wp2_with fail
  go_ret
  exact ⟨by simp, L3⟩

theorem walk_TablePlays (w : World) (m : Int) (hm : 0 ≤ m ∧ m ≤ 255) (sv : Value) (ds : List De) (hI : RdE w.heap.size w sv ds) (hd : ∀ d ∈ ds, wfE d) (kd p s d a b id till : Int) (hk : -9223372036854775808 ≤ kd ∧ kd ≤ 9223372036854775807) (hp : 0 ≤ p ∧ p ≤ 255) (hs : 0 ≤ s ∧ s ≤ 4294967295) (hdd : 0 ≤ d ∧ d ≤ 4294967295) (ha : 0 ≤ a ∧ a ≤ 65535) (hb : 0 ≤ b ∧ b ≤ 65535) (hi : -9223372036854775808 ≤ id ∧ id ≤ 9223372036854775807) (ht : -9223372036854775808 ≤ till ∧ till ≤ 9223372036854775807) :
    Calls Try.prog 3 #[.int .u8 m, sv, .agg #[.int .i64 kd, .int .u8 p, .int .u32 s, .int .u32 d, .int .u16 a, .int .u16 b, .int .i64 id, .int .i64 till]] w fun e w' => e = .returned (.bool true) ∧ Below w.heap.size w w' :=
  plays_walk w m hm sv ds hI hd ⟨kd, p, s, d, a, b, id, till⟩ ⟨hp, hs, hdd, ha, hb, hk, hi, ht⟩
end Go.Proofs.Ytahphjindjlcpaa

/- Package table: Fork; the document's Fork. -/
namespace Go.Proofs.Ytahphjindjlcpaa
open Go.RowKit Go.Shelf
set_option maxRecDepth 100000
set_option linter.unusedVariables false
set_option linter.unusedSimpArgs false

/-- All of a list appended onto one's own. -/
theorem appR (w : World) (ty : TypeId) (base n₀ : Nat) (v : Value) (xs : List Rw) (sv : Value) (ys : List Rw) (hown : w.ownsRow base 65 8 v xs.length (rws xs)) (hI : RdR n₀ w sv ys) (hbase : base ≤ w.heap.size) (hs : xs.length + ys.length ≤ 10000) :
    ∃ v' w', (Builtin.append_ #[57, 57] ty #[v, sv]).run Try.prog w = .ok v' w' ∧ w'.ownsRow base 65 8 v' (xs ++ ys).length (rws (xs ++ ys)) ∧ w.grownBy w' v.ownBlock ∧ (v'.ownBlock = v.ownBlock ∨ v'.ownBlock = some w.heap.size) := by
  obtain ⟨i0, hi0, hz0, hz1, hz2⟩ := info_parts info_row
  rcases hI with ⟨a, cap, rfl, rfl, hcm, ha⟩ | ⟨b, off, cap, rfl, hne, hl, hm, hb, hc⟩
  · obtain ⟨av, cv, rfl, hv1, hv2⟩ := (ownR_rd hown).slice
    refine ⟨_, w, run_append_nothing w _ _ ty _ i0 Try.underlying57 hi0 av xs.length cv hv1 (.slice a 0 cap) ?_, by rw [List.append_nil]; exact hown, ⟨rfl, rfl, rfl, Nat.le_refl _, fun _ _ _ => rfl⟩, .inl rfl⟩
    refine ⟨.inl ⟨_, Try.underlying57⟩, fun w' => ?_, ?_, ?_, by simp, by simp⟩ <;> cases a <;> simp [Builtin.lenOf, Builtin.firstCells, go_sem]
  · have hp : 0 < ys.length := List.length_pos_iff.2 hne
    obtain ⟨g, cap', w', hr, h2, h3, h4, h5⟩ := run_append_lies (P := Try.prog) w 57 ty base 65 i0 _ 8 40 Try.underlying57 hi0 hz0 hz1 hz2 rfl (by decide) v xs.length (rws xs) hown ⟨b, off, none⟩ ys.length cap (rws ys) (rws_length ys) (fun j u hj => by
      have hlt := (List.getElem?_eq_some_iff.1 hj).1
      rw [rws_length] at hlt
      rw [addr_add']
      have h1 := hc (j / 8) (by omega) (j % 8) (Nat.mod_lt _ (by omega))
      rw [← rws_at ys (j / 8) (j % 8) (by omega) (Nat.mod_lt _ (by omega)), show j / 8 * 8 + j % 8 = j from by omega, hj] at h1
      rw [← h1]
      congr 2
      omega) (rws_oneD ys) hp (by unfold maxLen; omega) (by omega) hbase _ rfl
    refine ⟨_, w', hr, by rw [List.length_append, rws_append]; exact h2, h3, ?_⟩
    rcases h4 with h4 | h4
    · exact .inl (by rw [h4]; rfl)
    · exact .inr (by rw [h4]; rfl)


theorem madeR (w : World) : (w.alloc (.cells #[] 65)).ownsRow w.heap.size 65 8 (.slice (some ⟨w.heap.size, 0, none⟩) 0 0) ([] : List Rw).length (rws []) :=
  ⟨rfl, .inr ⟨w.heap.size, 0, #[], rfl, Nat.le_refl _, heap_alloc_new w _, Nat.le_refl _, by unfold maxLen; omega, rfl, rfl⟩⟩

/-- A copy of a list in memory of its own. -/
theorem copyR (w : World) (ty : TypeId) (n₀ : Nat) (sv : Value) (ys : List Rw) (hI : RdR n₀ w sv ys) (hn : n₀ ≤ w.heap.size) (hs : ys.length ≤ 10000) :
    ∃ v' w', (Builtin.append_ #[57, 57] ty #[.slice (some ⟨w.heap.size, 0, none⟩) 0 0, sv]).run Try.prog (w.alloc (.cells #[] 65)) = .ok v' w' ∧ w'.ownsRow w.heap.size 65 8 v' ys.length (rws ys) ∧ Later w w' ∧ (w.alloc (.cells #[] 65)).grownBy w' (some w.heap.size) := by
  have la : Later w (w.alloc (.cells #[] 65)) := (Below.refl _ _).alloc (Nat.le_refl _) _
  obtain ⟨v', w', h1, h2, h3, h4⟩ := appR (w.alloc (.cells #[] 65)) ty w.heap.size n₀ _ [] sv ys (madeR w) (hI.below (la.mono hn)) la.size (by simpa using hs)
  refine ⟨v', w', h1, by simpa using h2, ?_, h3⟩
  exact Below.trans la ⟨h3.os, h3.tape, h3.output, h3.size, fun k hk => h3.block k (by simp; omega) (fun e => by simp [Value.ownBlock] at e; omega)⟩

theorem madeD (w : World) : (w.alloc (.cells #[] 86)).ownsRow w.heap.size 86 8 (.slice (some ⟨w.heap.size, 0, none⟩) 0 0) ([] : List Rw).length (rws []) :=
  ⟨rfl, .inr ⟨w.heap.size, 0, #[], rfl, Nat.le_refl _, heap_alloc_new w _, Nat.le_refl _, by unfold maxLen; omega, rfl, rfl⟩⟩

/-- A copy of a list in memory of its own. -/
theorem copyD (w : World) (ty : TypeId) (n₀ : Nat) (sv : Value) (ys : List Rw) (hI : RdR n₀ w sv ys) (hn : n₀ ≤ w.heap.size) (hs : ys.length ≤ 10000) :
    ∃ v' w', (Builtin.append_ #[67, 67] ty #[.slice (some ⟨w.heap.size, 0, none⟩) 0 0, sv]).run Try.prog (w.alloc (.cells #[] 86)) = .ok v' w' ∧ w'.ownsRow w.heap.size 86 8 v' ys.length (rws ys) ∧ Later w w' ∧ (w.alloc (.cells #[] 86)).grownBy w' (some w.heap.size) := by
  have la : Later w (w.alloc (.cells #[] 86)) := (Below.refl _ _).alloc (Nat.le_refl _) _
  obtain ⟨v', w', h1, h2, h3, h4⟩ := appD (w.alloc (.cells #[] 86)) ty w.heap.size n₀ _ [] sv ys (madeD w) (hI.below (la.mono hn)) la.size (by simpa using hs)
  refine ⟨v', w', h1, by simpa using h2, ?_, h3⟩
  exact Below.trans la ⟨h3.os, h3.tape, h3.output, h3.size, fun k hk => h3.block k (by simp; omega) (fun e => by simp [Value.ownBlock] at e; omega)⟩

theorem wpList_appv {P : Program} {ops : Array Oper} {rest : List Oper} {o : Oper} {a : Act} {Q : Exit → Act → World → Prop} {w : World} (hg : o.guard = none) (s x : Operand) (t : TypeId) (hop : o.op = Op.call { callee := Callee.builtin Builtin.append, args := #[s, x], argTypes := #[t, t] })
    (v sx : Value) (hs : a.eval s = v) (hx : a.eval x = sx) (v' : Value) (w' : World) (hrun : (Builtin.append_ #[t, t] o.type #[v, sx]).run P w = .ok v' w') (hk : wpList P ops Q rest (a.put o.dst v') w') : wpList P ops Q (o :: rest) a w :=
  wpList_plain hg fun K hK => wp_app s x t hop v sx hs hx v' w' hrun (hK _ _ hk)

set_option maxHeartbeats 2000000 in
theorem clone6_any (n₀ : Nat) (v : Value) (l : List Rw) (w : World) (hO : RdR n₀ w v l) (hn : n₀ ≤ w.heap.size) (hnil : ∀ n c, v = .slice none n c → l = []) (hl : l.length ≤ 5000) :
    Calls Try.prog 44 #[v] w fun e w' => Later w w' ∧ ∃ v', e = .returned v' ∧ w'.ownsRow w.heap.size 65 8 v' l.length (rws l) := by
  obtain ⟨u, W1, hrun, hrow, hlat, _⟩ := copyR w 57 n₀ v l hO hn (by omega)
  obtain ⟨av, cv, rfl, _, _⟩ := hO.slice
  obtain ⟨au, cu, rfl, _, _⟩ := (ownR_rd hrow).slice
  have HRUN := hide hrun
  have HROW := hide hrow
  have HN := hide (fun (h : av = none) => hnil _ _ (by rw [h]))
  clear hrun hrow hO hnil
  go_enter Try.func44, Try.ntmps44
  cases av with
  | none =>
    go_wp2_with fail
    rw [Go.Lib.run_eql_slice_nil _ _ _ _ _ _ _ _ Try.underlying57]
    go_wp2_with fail
    go_ret
    obtain rfl := HN.out trivial
    exact ⟨Later.refl _, _, rfl, rfl, .inl ⟨rfl, rfl⟩⟩
  | some a =>
    go_wp2_with fail
    rw [Go.Lib.run_eql_slice_nil _ _ _ _ _ _ _ _ Try.underlying57]
    go_wp2_with (at_builtin; refine wpList_appv rfl (.tmp 5) (.tmp 6) 57 rfl _ _ rfl rfl _ W1 HRUN.out ?_)
    go_ret
    exact ⟨hlat, _, rfl, HROW.out⟩

set_option maxHeartbeats 4000000 in
theorem rfork6_any (base bt : Nat) (v : Value) (lim sq : Int) (l : List Rw) (w : World) (hT : DT base w bt v lim sq l) (hl : l.length ≤ 5000) :
    Calls Try.prog 11 #[.pointer (some ⟨bt, 0, none⟩)] w fun e w' => Later w w' ∧ ∃ b' v', e = .returned (.pointer (some ⟨b', 0, none⟩)) ∧ DT w.heap.size w' b' v' lim sq l := by
  obtain ⟨av, cv, rfl, _, _⟩ := (ownD_rd hT.2.2).slice
  go_enter Try.func11, Try.ntmps11
  go_upto_region 3 with fail
  refine anyT_begin (R := But (fun g => w.heap.size ≤ g)) 17 rfl (by kernel_rfl) ?_
  have ld : Later w w.drew := Later.drew w
  have hTd := hT.later ld
  generalize w.drew = Wd at *
  have hB : ∀ v1, But (fun g => w.heap.size ≤ g) Wd v1 → ∀ j, v1.cell? ⟨bt, j, none⟩ = #[Value.slice av l.length cv, .int .i64 lim, .int .i64 sq][j]? := fun v1 hv => block_cell ((hv.block bt (Array.getElem?_eq_some_iff.1 hTd.2.1).1 (by have := hT.blt; omega)).trans hTd.2.1)
  refine anyT_val (But.pre _) 1 rfl (by kernel_rfl) (by kernel_rfl) (by kernel_rfl) (fun _ _ _ _ h => h) rfl ?_; apply Exists.intro; refine ⟨fun v1 hv1 => ?_, ?_⟩; (· (go_simp; rfl)); simp only [Act.put, List.setIfInBounds_toArray, List.set_cons_zero, List.set_cons_succ]
  refine anyT_val (But.pre _) 2 rfl (by kernel_rfl) (by kernel_rfl) (by kernel_rfl) (fun _ _ _ _ h => h) rfl ?_; apply Exists.intro; refine ⟨fun v1 hv1 => ?_, ?_⟩; (· (go_simp; rfl)); simp only [Act.put, List.setIfInBounds_toArray, List.set_cons_zero, List.set_cons_succ]
  refine anyT_val (But.pre _) 3 rfl (by kernel_rfl) (by kernel_rfl) (by kernel_rfl) (fun _ _ _ _ h => h) rfl ?_; apply Exists.intro; refine ⟨fun v1 hv1 => ?_, ?_⟩; (· (go_simp; rfl)); simp only [Act.put, List.setIfInBounds_toArray, List.set_cons_zero, List.set_cons_succ]
  refine anyT_val (But.pre _) 4 rfl (by kernel_rfl) (by kernel_rfl) (by kernel_rfl) (fun _ _ _ _ h => h) rfl ?_; apply Exists.intro; refine ⟨fun v1 hv1 => ?_, ?_⟩; (· (go_simp; rfl)); simp only [Act.put, List.setIfInBounds_toArray, List.set_cons_zero, List.set_cons_succ]
  refine anyT_val (But.pre _) 6 rfl (by kernel_rfl) (by kernel_rfl) (by kernel_rfl) (fun _ _ _ _ h => h) rfl ?_; apply Exists.intro; refine ⟨fun v1 hv1 => ?_, ?_⟩; (· (go_simp; rfl)); simp only [Act.put, List.setIfInBounds_toArray, List.set_cons_zero, List.set_cons_succ]
  refine anyT_val (But.pre _) 7 rfl (by kernel_rfl) (by kernel_rfl) (by kernel_rfl) (fun _ _ _ _ h => h) rfl ?_; apply Exists.intro; refine ⟨fun v1 hv1 => ?_, ?_⟩; (· (go_simp; rfl)); simp only [Act.put, List.setIfInBounds_toArray, List.set_cons_zero, List.set_cons_succ]
  refine anyT_val (But.pre _) 8 rfl (by kernel_rfl) (by kernel_rfl) (by kernel_rfl) (fun _ _ _ _ h => h) rfl ?_; apply Exists.intro; refine ⟨fun v1 hv1 => ?_, ?_⟩; (· (go_simp; rfl)); simp only [Act.put, List.setIfInBounds_toArray, List.set_cons_zero, List.set_cons_succ]
  refine anyT_val (But.pre _) 9 rfl (by kernel_rfl) (by kernel_rfl) (by kernel_rfl) (fun _ _ _ _ h => h) rfl ?_; apply Exists.intro; refine ⟨fun v1 hv1 => ?_, ?_⟩; (· (go_simp; rfl)); simp only [Act.put, List.setIfInBounds_toArray, List.set_cons_zero, List.set_cons_succ]
  refine anyT_val (But.pre _) 10 rfl (by kernel_rfl) (by kernel_rfl) (by kernel_rfl) (fun _ _ _ _ h => h) rfl ?_; apply Exists.intro; refine ⟨fun v1 hv1 => ?_, ?_⟩; (· (go_simp; rfl)); simp only [Act.put, List.setIfInBounds_toArray, List.set_cons_zero, List.set_cons_succ]
  refine anyT_val (But.pre _) 11 rfl (by kernel_rfl) (by kernel_rfl) (by kernel_rfl) (fun _ _ _ _ h => h) rfl ?_; apply Exists.intro; refine ⟨fun v1 hv1 => ?_, ?_⟩; (· (go_simp; rfl)); simp only [Act.put, List.setIfInBounds_toArray, List.set_cons_zero, List.set_cons_succ]
  refine anyT_val (But.pre _) 12 rfl (by kernel_rfl) (by kernel_rfl) (by kernel_rfl) (fun _ _ _ _ h => h) rfl ?_; apply Exists.intro; refine ⟨fun v1 hv1 => ?_, ?_⟩; (· (go_simp; rfl)); simp only [Act.put, List.setIfInBounds_toArray, List.set_cons_zero, List.set_cons_succ]
  refine anyT_val (But.pre _) 13 rfl (by kernel_rfl) (by kernel_rfl) (by kernel_rfl) (fun _ _ _ _ h => h) rfl ?_; apply Exists.intro; refine ⟨fun v1 hv1 => ?_, ?_⟩; (· (go_simp; rfl)); simp only [Act.put, List.setIfInBounds_toArray, List.set_cons_zero, List.set_cons_succ]
  clear hB
  obtain ⟨u, W1, hrun, hrow, hlat, hgr⟩ := copyD Wd 67 Wd.heap.size (.slice av l.length cv) l (ownD_rd hTd.2.2) (Nat.le_refl _) (by omega)
  refine anyT_one 0 rfl (by kernel_rfl) rfl ?_
  unfold Oper.wp
  go_simp
  refine ⟨But.of ((Below.refl _ _).alloc (Nat.le_refl _) _), ?_⟩
  refine anyT_one 5 rfl (by kernel_rfl) rfl ?_
  refine wp_app (.tmp 5) (.tmp 9) 67 rfl _ _ rfl rfl u W1 hrun ?_
  obtain ⟨au, cu, rfl, _, _⟩ := (ownD_rd hrow).slice
  have hWs := ld.size
  refine ⟨⟨hgr.os, hgr.tape, hgr.output, hgr.size, fun k hk he => hgr.block k hk (fun e => he (by simp at e; omega))⟩, ?_⟩
  simp only [Act.put, List.setIfInBounds_toArray, List.set_cons_zero, List.set_cons_succ]
  clear hrun hgr
  refine anyT_val (But.pre _) 14 rfl (by kernel_rfl) (by kernel_rfl) (by kernel_rfl) (fun _ _ _ _ h => h) rfl ?_; apply Exists.intro; refine ⟨fun v1 hv1 => ?_, ?_⟩; (· (go_simp; rfl)); simp only [Act.put, List.setIfInBounds_toArray, List.set_cons_zero, List.set_cons_succ]
  refine anyT_one 15 rfl (by kernel_rfl) rfl ?_
  have la : Later W1 (W1.alloc (.cells #[.slice au l.length cu, .int .i64 lim, .int .i64 sq] 69)) := (Below.refl _ _).alloc (Nat.le_refl _) _
  have hn := heap_alloc_new W1 (.cells #[.slice au l.length cu, .int .i64 lim, .int .i64 sq] 69)
  have hr := ownD_later hrow la
  unfold Oper.wp
  go_simp
  refine ⟨But.of la, ?_⟩
  refine anyT_val (But.pre _) 16 rfl (by kernel_rfl) (by kernel_rfl) (by kernel_rfl) (fun _ _ _ _ h => h) rfl ?_; apply Exists.intro; refine ⟨fun v1 hv1 => ?_, ?_⟩; (· (go_simp; rfl)); simp only [Act.put, List.setIfInBounds_toArray, List.set_cons_zero, List.set_cons_succ]
  refine anyT_done (by kernel_rfl) ?_
  have hL := ld.trans (hlat.trans la)
  have hs1 := hlat.size
  have HR := hide (ownD_base (b2 := w.heap.size) hr hWs)
  clear hr hrow la
  generalize W1.alloc _ = W2 at *
  go_wp2_with fail
  go_ret
  exact ⟨hL, _, _, rfl, by omega, hn, HR.out⟩
end Go.Proofs.Ytahphjindjlcpaa

/- Package table: copied, Fork. -/
namespace Go.Proofs.Ytahphjindjlcpaa
open Go.RowKit Go.Shelf
set_option maxRecDepth 100000
set_option linter.unusedVariables false
set_option linter.unusedSimpArgs false

theorem zero_bkts : Try.zeroCells60 = (List.replicate 256 (Value.slice none 0 0)).toArray := by kernel_rfl

theorem wpList_valE {P : Program} {ops : Array Oper} {rest : List Oper} {o : Oper} {a : Act} {Q : Exit → Act → World → Prop} {w : World} (hg : o.guard = none) (v : Value) (h : (execOp a.eval o).run P w = .ok (.value v) w)
    (hk : wpList P ops Q rest (a.put o.dst v) w) : wpList P ops Q (o :: rest) a w := wpList_plain hg fun K hK => by unfold Oper.wp; rw [h]; exact hK _ _ hk

/-- Lists of one's own so far. -/
def CPi (base k : Nat) (W : World) (us : List Value) (ls : Nat → List Rw) : Prop := us.length = k ∧ (∀ j, j < k → W.ownsRow base 65 8 (us[j]?.getD undef) (ls j).length (rws (ls j))) ∧ ∀ i j, i < k → j < k → i ≠ j → ∀ g, (us[i]?.getD undef).ownBlock = some g → (us[j]?.getD undef).ownBlock ≠ some g

theorem CPi.later {base k : Nat} {A B : World} {us : List Value} {ls : Nat → List Rw} (h : CPi base k A us ls) (l : ∀ j, j < k → A.ownsRow base 65 8 (us[j]?.getD undef) (ls j).length (rws (ls j)) → B.ownsRow base 65 8 (us[j]?.getD undef) (ls j).length (rws (ls j))) : CPi base k B us ls := ⟨h.1, fun j hj => l j hj (h.2.1 j hj), h.2.2⟩

theorem CPi.add {base k : Nat} {A B : World} {us : List Value} {ls : Nat → List Rw} (h : CPi base k A us ls) (l : Later A B) {v : Value} (hb : base ≤ A.heap.size) (hv : B.ownsRow A.heap.size 65 8 v (ls k).length (rws (ls k))) : CPi base (k + 1) B (us ++ [v]) ls := by
  have ha : ∀ j, j < k → (us ++ [v])[j]?.getD undef = us[j]?.getD undef := fun j hj => by rw [List.getElem?_append_left (by rw [h.1]; exact hj)]
  have hk : (us ++ [v])[k]?.getD undef = v := by rw [List.getElem?_append_right (by rw [h.1]; exact Nat.le_refl _), h.1, Nat.sub_self]; rfl
  refine ⟨by simp [h.1], fun j hj => ?_, fun i j hi hj hij g hg => ?_⟩
  · by_cases e : j = k
    · subst e
      rw [hk]
      exact ownX_base hv hb
    · rw [ha j (by omega)]
      exact ownX_later (h.2.1 j (by omega)) l
  · by_cases ei : i = k
    · subst ei
      rw [hk] at hg
      rw [ha j (by omega)]
      intro e
      have h1 := (hv.lt g hg).1
      have h2 := ((h.2.1 j (by omega)).lt g e).2
      omega
    · rw [ha i (by omega)] at hg
      have h2 := ((h.2.1 i (by omega)).lt g hg).2
      by_cases ej : j = k
      · subst ej
        rw [hk]
        intro e
        have h1 := (hv.lt g e).1
        omega
      · rw [ha j (by omega)]
        exact h.2.2 i j (by omega) (by omega) hij g hg

theorem CPi.one {base k : Nat} {W : World} {us : List Value} {ls : Nat → List Rw} (h : CPi base k W us ls) : ∀ v ∈ us, v.oneCell' = true := fun v hv => by
  obtain ⟨j, hj, e⟩ := List.getElem_of_mem hv
  have h1 := h.2.1 j (by rw [← h.1]; exact hj)
  rw [List.getElem?_eq_getElem hj, e] at h1
  obtain ⟨sa, cap, e2, _, _⟩ := (ownR_rd h1).slice
  rw [show v = .slice sa (ls j).length cap from e2]
  rfl

theorem ownX_but {E : Nat → Prop} {t : TypeId} {sz base : Nat} {A B : World} {v : Value} {n : Nat} {xs : List Value} (h : A.ownsRow base t sz v n xs) (k : But E A B) (hE : ∀ g, base ≤ g → ¬ E g) : B.ownsRow base t sz v n xs := by
  obtain ⟨h1, h2 | ⟨g, cap, cur, hv, hg, hh, r⟩⟩ := h
  · exact ⟨h1, .inl h2⟩
  · exact ⟨h1, .inr ⟨g, cap, cur, hv, hg, (k.block g (Array.getElem?_eq_some_iff.1 hh).1 (hE g hg)).trans hh, r⟩⟩

theorem setRow_but (W : World) (g : Nat) (cs : Array Value) : But (fun i => i = g) W (W.setRow g cs) := by
  refine ⟨rfl, rfl, rfl, ?_, fun i hi he => ?_⟩
  · unfold World.setRow
    simp
  · unfold World.setRow
    simp only
    rw [Array.getElem?_modify, if_neg (fun e => he e.symm)]

theorem results_cell {P : Program} {fn : Func} {a : Nat} {t : TypeId} (h : fn.results = #[.cell a t]) {tmps : Array Value} {ad : Addr} (ha : tmps.getD a undef = .pointer (some ad)) {v : Value} {w : World} (hl : (loadVar t ad).run P w = .ok v w) : (results fn tmps).run P w = .ok v w := by
  unfold results
  rw [h]
  rw [Array.getD_eq_getD_getElem?] at ha
  simp [Sem.run_bind, ha, asAddr, hl]

set_option maxHeartbeats 8000000 in
theorem copied_any (base bt : Nat) (lim cnt trn : Int) (vs : List Value) (ls : Nat → List Rw) (w : World) (hT : TBv base w bt lim cnt trn vs ls) (hln : ∀ i, (ls i).length ≤ 5000) :
    Calls Try.prog 27 #[.pointer (some ⟨bt, 3, none⟩)] w fun e w' => Later w w' ∧ ∃ us, e = .returned (.agg us.toArray) ∧ CPi w.heap.size 256 w' us ls := by
  have hv : vs.length = 256 := hT.1
  have hb2 : Later w ((w.alloc (.cells Try.zeroCells60 60)).alloc (.cells Try.zeroCells60 60)) := ((Below.refl _ _).alloc (Nat.le_refl _) _).alloc (by simp) _
  have z0 : ((w.alloc (.cells Try.zeroCells60 60)).alloc (.cells Try.zeroCells60 60)).heap[w.heap.size]? = some (.cells (List.replicate 256 (Value.slice none 0 0)).toArray 60) := by
    rw [← zero_bkts]
    exact (Below.heap_alloc _ _ _ (by simp)).trans (heap_alloc_new w _)
  have z1 : ((w.alloc (.cells Try.zeroCells60 60)).alloc (.cells Try.zeroCells60 60)).heap[w.heap.size + 1]? = some (.cells (List.replicate 256 (Value.slice none 0 0)).toArray 60) := by
    rw [← zero_bkts]
    have := heap_alloc_new (w.alloc (.cells Try.zeroCells60 60)) (.cells Try.zeroCells60 60)
    rw [World.size_alloc] at this
    exact this
  have hs2 : ((w.alloc (.cells Try.zeroCells60 60)).alloc (.cells Try.zeroCells60 60)).heap.size = w.heap.size + 1 + 1 := by simp
  have HRD := hide (fun i (hi : i < 256) => ownR_rd (hT.2.2.2.1 i hi))
  have HNL := hide (fun i (hi : i < 256) (n c : Nat) (e : vs[i]?.getD undef = .slice none n c) => by
    have h := hT.2.2.2.1 i hi
    rw [e] at h
    obtain ⟨_, ⟨_, h0⟩ | ⟨g, cap, cur, h0, _⟩⟩ := h
    · exact (List.eq_nil_of_length_eq_zero h0 : ls i = [])
    · cases h0)
  have Z0 := hide z0
  have Z1 := hide z1
  have HS2 := hide hs2
  clear z0 z1 hs2
  go_enter Try.func27, Try.ntmps27
  go_upto_region 2 with fail
  generalize (w.alloc (.cells Try.zeroCells60 60)).alloc (.cells Try.zeroCells60 60) = w2 at *
  have hT2 := hT.later hb2
  have hra : w2.rangeAt bt 3 vs := fun j v hj => by
    have hlt : j < 256 := by have := (List.getElem?_eq_some_iff.1 hj).1; omega
    rw [hT2.cell j hlt, hj]; rfl
  have HRA := hide hra
  clear hra
  go_wp2_with (refine wpList_load_mid rfl 58 (.tmp 8) rfl bt 3 rfl vs _ HRA.out Try.underlying58 rfl (by rw [hv]; kernel_rfl) ?_)
  have hS2 : w2.heap.size = w.heap.size + 1 + 1 := HS2.out
  have hB2 : w.heap.size + 1 + 1 ≤ w2.heap.size := by omega
  go_loopw [10] (fun i wr => ∃ (k : Nat) (us : List Value), k ≤ 256 ∧ i = .int .i64 (k : Int) ∧ wr.heap[w.heap.size]? = some (.cells (List.replicate 256 (Value.slice none 0 0)).toArray 60 (0, 0)) ∧ wr.heap[w.heap.size + 1]? = some (.cells (us ++ List.replicate (256 - k) (Value.slice none 0 0)).toArray 60 (0, 0)) ∧ CPi (w.heap.size + 1 + 1) k wr us ls ∧ Later w wr) (fun i _ => 256 - (intOf i).toNat)
  case atStart => exact ⟨0, [], by omega, rfl, Z0.out, Z1.out, ⟨rfl, fun j hj => by omega, fun i j hi => by omega⟩, hb2⟩
  case round =>
    obtain ⟨k, us, hk, rfl, g0, g1, hC, hlw⟩ := hrel
    by_cases hlt : k < 256
    · have hlt' : (k : Int) < 256 := by omega
      have hix := idx_arr vs k wr hv hlt
      have hRp := (HRD.out k hlt).below hlw
      have hnl := HNL.out k hlt
      generalize vs[k]?.getD undef = v at *
      have hC2 := hC
      have hul : us.length = k := hC.1
      have HC := hide hC
      have HCL := hide (clone6_any w.heap.size v (ls k) wr hRp hlw.size hnl (hln k))
      obtain ⟨sa, cap, rfl, hc1, hc2⟩ := hRp.slice
      have HIX := hide hix
      have HUL := hide hul
      clear hix hRp hnl hC hC2 hul
      go_wp2_with (refine wpList_valE rfl (.slice sa (ls k).length cap) (by go_loud (show Sem.run _ (Instr.index 58 (.agg vs.toArray) (.int .i64 (k : Int)) >>= fun v => pure (Next.value v)) _ = _; rw [Sem.run_bind, HIX.out]; rfl)) ?_)
      refine HCL.out.mono ?_
      rintro e w5 ⟨l5, v', rfl, hv5⟩
      have g05 := later_keep l5 g0
      have g15 := later_keep l5 g1
      have hnx : w5.cell? ⟨w.heap.size + 1, k, none⟩ = some (Value.slice none 0 0) := by
        rw [block_cell g15, List.getElem?_toArray, List.getElem?_append_right (by rw [HUL.out]; exact Nat.le_refl _), HUL.out, Nat.sub_self]
        rw [List.getElem?_replicate, if_pos (by omega)]
      have F15 := block_frozen g15
      have hws : w.heap.size + 1 < wr.heap.size := (Array.getElem?_eq_some_iff.1 g1).1
      have hCa := HC.out.add l5 (by omega) hv5
      have HV5 := hide hCa
      have hset := heap_set1 g15 k v'
      have e1 : (us ++ List.replicate (256 - k) (Value.slice none 0 0)).toArray.setIfInBounds k v' = ((us ++ [v']) ++ List.replicate (256 - (k + 1)) (Value.slice none 0 0)).toArray := by
        obtain ⟨m, hm⟩ : ∃ m, 256 - k = m + 1 := ⟨255 - k, by omega⟩
        rw [hm, show 256 - (k + 1) = m from by omega, List.replicate_succ]
        have : k = us.length := HUL.out.symm
        subst this
        simp
      rw [e1] at hset
      have HSET := hide hset
      have L5 : Later w w5 := hlw.trans l5
      clear hset e1 hCa HCL g1 g0 l5
      obtain ⟨sb, cb, rfl, _, _⟩ := (ownR_rd hv5).slice
      clear hv5
      have hbS : But (fun g => g = w.heap.size + 1) w5 (w5.setCell ⟨w.heap.size + 1, k, none⟩ (.slice sb (ls k).length cb)) := (But.refl (fun g => g = w.heap.size + 1) _).setCell (p := ⟨w.heap.size + 1, k, none⟩) rfl _
      have HB := hide hbS
      clear hbS
      go_wp2_with fail
      generalize hV : w5.setCell _ _ = V
      have HSV := HSET.out
      have HBV := HB.out
      rw [hV] at HSV HBV
      go_roundw
      case rel => exact ⟨k + 1, _, by omega, by go_num, (HBV.block _ (Array.getElem?_eq_some_iff.1 g05).1 (by omega)).trans g05, HSV, HV5.out.later (fun j hj h => ownX_but h HBV (fun g hg e => by omega)), Below.trans L5 (HBV.below L5.size (fun x hx e => by omega))⟩
      case measure => simp [intOf]; omega
    · obtain rfl : k = 256 := by omega
      simp only [Nat.sub_self, List.replicate_zero, List.append_nil] at g1
      have hul : us.length = 256 := hC.1
      have hra : wr.rangeAt (w.heap.size + 1) 0 us := fun j v hj => by rw [Nat.zero_add, block_cell g1, List.getElem?_toArray]; exact hj
      have HRA2 := hide hra
      have HONE := hide (all_oneCell_toArray hC.one)
      have HUL := hide hul
      have HC := hide hC
      have hset := setRow_heap wr w.heap.size _ us.toArray 60 (0, 0) g0
      have HSR := hide hset
      clear hra hul hC hset
      go_wp2_with (first | (refine wpList_load_mid rfl 60 (.tmp 3) rfl (w.heap.size + 1) 0 rfl us _ HRA2.out Try.underlying60 rfl (by rw [HUL.out]; kernel_rfl) ?_) | (refine wpList_store_row rfl 60 (.tmp 2) (.tmp 20) rfl w.heap.size us.toArray rfl rfl 60 _ g0 (by simp only [List.size_toArray]; rw [HUL.out]; kernel_rfl) (by simp [HUL.out]) HONE.out ?_))
      have hbR : But (fun g => g = w.heap.size) wr (wr.setRow w.heap.size us.toArray) := setRow_but wr w.heap.size us.toArray
      have hs3 := HSR.out
      generalize wr.setRow w.heap.size us.toArray = V at *
      have hra3 : V.rangeAt w.heap.size 0 us := fun j v hj => by rw [Nat.zero_add, block_cell hs3, List.getElem?_toArray]; exact hj
      have hrun := run_loadVar_mid (P := Try.prog) V w.heap.size 0 60 us _ hra3 Try.underlying60 rfl (by rw [HUL.out]; kernel_rfl)
      refine bodyPost_ret (v := .agg us.toArray) ?_ rfl ⟨Below.trans hlw (hbR.below hlw.size (fun x hx e => by omega)), us, rfl, ?_⟩
      · exact results_cell Try.results27 rfl hrun
      · have h2 := HC.out.later (fun j hj h => ownX_but h hbR (fun g hg e => by omega))
        exact ⟨h2.1, fun j hj => ownX_base (h2.2.1 j hj) (by omega), h2.2.2⟩

theorem info_table : (Try.prog.info? 62).map (·.size) = some 259 := by kernel_rfl

theorem setCells_putRow (b : Nat) : ∀ (vs : List Value) (o : Nat) (W : World), W.setCells b o vs = putRow W b o vs
  | [], _, _ => rfl
  | v :: r, o, W => setCells_putRow b r (o + 1) (W.setCell ⟨b, o, none⟩ v)

set_option maxHeartbeats 8000000 in
theorem fork6_any (base bt : Nat) (lim cnt trn : Int) (ls : Nat → List Rw) (w : World) (hT : TB base w bt lim cnt trn ls) (hln : ∀ i, (ls i).length ≤ 5000) :
    Calls Try.prog 10 #[.pointer (some ⟨bt, 0, none⟩)] w fun e w' => Later w w' ∧ ∃ b', e = .returned (.pointer (some ⟨b', 0, none⟩)) ∧ TB w.heap.size w' b' lim cnt trn ls := by
  obtain ⟨vs, hT⟩ := hT
  have hv : vs.length = 256 := hT.1
  have hra : w.rangeAt bt 0 (.int .i64 lim :: .int .i64 cnt :: .int .i64 trn :: vs) := fun j v hj => by rw [Nat.zero_add, block_cell hT.2.2.1, List.getElem?_toArray]; exact hj
  have hone : ∀ v ∈ (Value.int .i64 lim :: .int .i64 cnt :: .int .i64 trn :: vs), v.oneCell' = true := by
    have hCP : CPi base 256 w vs ls := ⟨hT.1, fun j hj => hT.2.2.2.1 j hj, fun i j hi hj => hT.2.2.2.2 i j hi hj⟩
    intro v hm
    rcases List.mem_cons.1 hm with rfl | hm
    · rfl
    · rcases List.mem_cons.1 hm with rfl | hm
      · rfl
      · rcases List.mem_cons.1 hm with rfl | hm
        · rfl
        · exact hCP.one v hm
  have la : Later w (w.alloc (.cells Try.zeroCells62 62)) := (Below.refl _ _).alloc (Nat.le_refl _) _
  have z0 := heap_alloc_new w (.cells Try.zeroCells62 62)
  have hzs : Try.zeroCells62.size = 259 := by kernel_rfl
  have HRA := hide hra
  have HONE := hide (all_oneCell_toArray hone)
  have hsr := setRow_heap (w.alloc (.cells Try.zeroCells62 62)) w.heap.size _ (Value.int .i64 lim :: .int .i64 cnt :: .int .i64 trn :: vs).toArray 62 (0, 0) z0
  have hsb := setRow_but (w.alloc (.cells Try.zeroCells62 62)) w.heap.size (Value.int .i64 lim :: .int .i64 cnt :: .int .i64 trn :: vs).toArray
  have HSR := hide hsr
  have HSB := hide hsb
  have HZS := hide hzs
  have Z0 := hide z0
  clear hra hone hsr hsb hzs z0
  go_enter Try.func10, Try.ntmps10
  go_wp2_with (first | (refine wpList_load_mid rfl 62 (.tmp 7) rfl bt 0 rfl (.int .i64 lim :: .int .i64 cnt :: .int .i64 trn :: vs) _ HRA.out Try.underlying62 rfl (by rw [info_table]; simp [hv]) ?_) | (refine wpList_store_row rfl 62 (.tmp 3) (.tmp 8) rfl w.heap.size (Value.int .i64 lim :: .int .i64 cnt :: .int .i64 trn :: vs).toArray rfl rfl 62 _ Z0.out (by rw [info_table]; simp [hv]) (by rw [HZS.out]; simp [hv]) HONE.out ?_))
  have hb1 := Below.trans la (HSB.out.below la.size (fun x hx e => by omega))
  have h1 := HSR.out
  generalize World.setRow _ _ _ = w1 at *
  refine (copied_any base bt lim cnt trn vs ls w1 (hT.later hb1) hln).mono ?_
  rintro e w2 ⟨l2, us, rfl, hC⟩
  have h2 := later_keep l2 h1
  have hL2 : Later w w2 := Below.trans hb1 (Below.mono l2 (Below.size hb1))
  have hws : w.heap.size < w1.heap.size := (Array.getElem?_eq_some_iff.1 h1).1
  have hth : w2.there w.heap.size 3 us.toArray.size := fun j hj => by
    have hj' : j < 256 := by simpa [hC.1] using hj
    refine ⟨?_, block_frozen h2 _⟩
    rw [block_cell h2, List.getElem?_toArray, List.getElem?_eq_getElem (by simp [hv]; omega)]
    rfl
  have hpm := putRow_mid us [.int .i64 lim, .int .i64 cnt, .int .i64 trn] vs [] w2 (by simpa using h2) (by rw [hv, hC.1])
  have hpb := putRow_but (E := fun g => g = w.heap.size) (n := w.heap.size) rfl us 3 w2 w2 (But.refl _ _)
  have e3 : ([Value.int .i64 lim, .int .i64 cnt, .int .i64 trn] : List Value).length = 3 := rfl
  rw [e3, ← setCells_putRow] at hpm
  rw [← setCells_putRow] at hpb
  have HTH := hide hth
  have HON2 := hide (all_oneCell_toArray hC.one)
  have HUL := hide hC.1
  have HC := hide hC
  have HPM := hide hpm
  have HPB := hide hpb
  clear hth hC hpm hpb e3
  go_wp2_with (refine wpList_store_mid rfl 60 (.tmp 13) (.tmp 12) rfl w.heap.size 3 us.toArray rfl rfl HTH.out (by simp only [List.size_toArray]; rw [HUL.out]; kernel_rfl) HON2.out ?_)
  have hbw := HPB.out
  have hhw := HPM.out
  generalize hV : World.setCells _ _ _ _ = V
  have hV' : w2.setCells w.heap.size 3 us = V := hV
  rw [hV'] at hbw hhw
  go_ret
  have h3 := HC.out.later (fun j hj h => ownX_but h hbw (fun g hg e => by omega))
  exact ⟨Below.trans hL2 (hbw.below hL2.size (fun x hx e => by omega)), _, rfl, us, h3.1, Nat.le_refl _, by simpa using hhw, fun i hi => ownX_base (h3.2.1 i hi) (by omega), fun i j hi hj => h3.2.2 i j hi hj⟩
end Go.Proofs.Ytahphjindjlcpaa

/- The walk of TableForks. -/
namespace Go.Proofs.Ytahphjindjlcpaa
open Go.RowKit Go.Shelf
set_option maxRecDepth 100000
set_option linter.unusedVariables false
set_option linter.unusedSimpArgs false

theorem DT.base {b1 b2 : Nat} {W : World} {b : Nat} {v : Value} {lim sq : Int} {l : List Rw} (h : DT b1 W b v lim sq l) (hb : b2 ≤ b1) : DT b2 W b v lim sq l := ⟨Nat.le_trans hb h.1, h.2.1, ownD_base h.2.2 hb⟩

/-- Both Forks, which hold the same. -/
theorem pt_fork (base bt bd : Nat) (lim : Int) (n : Nat) (w : World) (h : PT base w bt bd lim n) (hn : n ≤ 1000) :
    Calls Try.prog 10 #[.pointer (some ⟨bt, 0, none⟩)] w fun e w1 => ∃ bf, e = .returned (.pointer (some ⟨bf, 0, none⟩)) ∧ Later w w1 ∧
      Calls Try.prog 11 #[.pointer (some ⟨bd, 0, none⟩)] w1 fun e w2 => ∃ bg, e = .returned (.pointer (some ⟨bg, 0, none⟩)) ∧ Later w1 w2 ∧ PT w.heap.size w2 bf bg lim n := by
  obtain ⟨ls, v, l, trn, hT, hD, hR, hl1, hl2, ht0, ht1, hwf, hwt, hwk⟩ := h
  refine (fork6_any base bt lim l.length trn ls w hT (fun i => by have := hl1 i; omega)).mono ?_
  rintro e w1 ⟨l1, bf, rfl, hT1⟩
  refine ⟨bf, rfl, l1, ?_⟩
  refine (rfork6_any base bd v lim trn l w1 (hD.later l1) (by omega)).mono ?_
  rintro e w2 ⟨l2, bg, v', rfl, hD2⟩
  exact ⟨bg, rfl, l2, ls, v', l, trn, TB.later hT1 l2, hD2.base l1.size, hR, hl1, hl2, ht0, ht1, hwf, hwt, hwk⟩

set_option maxHeartbeats 8000000 in
theorem walk_TableForks (w : World) (m : Int) (hm : 0 ≤ m ∧ m ≤ 255) (sv : Value) (ds : List De) (hI : RdE w.heap.size w sv ds) (hd : ∀ d ∈ ds, wfE d) (sv2 : Value) (ds2 : List De) (hI2 : RdE w.heap.size w sv2 ds2) (hd2 : ∀ d ∈ ds2, wfE d) :
    Calls Try.prog 4 #[.int .u8 m, sv, sv2] w fun e w' => e = .returned (.bool true) ∧ Below w.heap.size w w' := by
  obtain ⟨aa, ca, rfl, ha1, ha2⟩ := hI.slice
  obtain ⟨ab, cb, rfl, hb1, hb2⟩ := hI2.slice
  have HI2 := hide hI2
  clear hI2
  have hr2 : m % 8 + 1 ≤ 8 := by omega
  go_enter Try.func4, Try.ntmps4
  go_wp2_with fail
  refine (play6_any w.heap.size m _ ds w hm hI hd (Nat.le_refl _)).mono ?_
  rintro e w1 ⟨l1, bt, bd, rfl, hP⟩
  go_wp2_with fail
  refine (live6_any w1).mono ?_
  rintro e w2 ⟨rfl, l2⟩
  have L2 := l1.trans l2
  have hP2 := hP.later l2
  clear l2 l1 hP
  generalize hlm : m % 8 + 1 = lim at *
  clear hlm
  go_wp2_with fail
  refine (pt_fork w.heap.size bt bd lim 100 w2 hP2 (by omega)).mono ?_
  rintro e w3 ⟨bf, rfl, l3, hF⟩
  have HF := hide hF
  clear hF
  go_wp2_with fail
  refine HF.out.mono ?_
  rintro e w4 ⟨bg, rfl, l4, hQ⟩
  have L24 : Later w2 w4 := l3.trans l4
  have hs24 := L24.size
  have HSM := hide (fun (p s d a b now : Int) (hg : Rg5 p s d a b) (W : World) (hW : Later w2 W) => same6_any w.heap.size bt bd lim 100 p s d a b now W (hP2.later hW) hr2 hg)
  clear HF l3 l4 hP2
  go_wp2_with fail
  go_loopw [12] (fun i wr => ∃ k : Nat, k ≤ ds2.length ∧ k ≤ 40 ∧ i = .int .i64 (k : Int) ∧ PT w2.heap.size wr bf bg lim (100 + k) ∧ Later w2 wr) (fun i _ => ds2.length - (intOf i).toNat)
  case atStart => exact ⟨0, by omega, by omega, rfl, hQ, L24⟩
  case round =>
    obtain ⟨k, hk, hk6, rfl, hPk, hbw⟩ := hrel
    have hbz : Later w wr := L2.trans hbw
    by_cases hgo : k < ds2.length ∧ k < 40
    · obtain ⟨hlt, h60⟩ := hgo
      have hlt' : (k : Int) < ds2.length := by omega
      have h60' : (k : Int) < 40 := by omega
      obtain ⟨bb, off, cp, e, _, _, hbb, hcs⟩ := (HI2.out.below hbz).cells (by omega)
      simp at e
      obtain ⟨rfl, rfl⟩ := e
      have d0 := hcs k hlt 0 (by omega)
      have d1 := hcs k hlt 1 (by omega)
      have d2 := hcs k hlt 2 (by omega)
      have d3 := hcs k hlt 3 (by omega)
      have d4 := hcs k hlt 4 (by omega)
      have d5 := hcs k hlt 5 (by omega)
      have d6 := hcs k hlt 6 (by omega)
      have d7 := hcs k hlt 7 (by omega)
      have hwf := hd2 ds2[k] (List.getElem_mem hlt)
      clear hcs
      generalize ds2[k] = r at *
      simp only [dec, List.getElem?_cons_zero, List.getElem?_cons_succ, Nat.add_zero] at d0 d1 d2 d3 d4 d5 d6 d7
      have HDO := hide (do6_any w2.heap.size bf bg lim (100 + k) r.k r.p r.s r.d r.a r.b r.id r.till wr hPk (by omega) (by omega) ⟨hwf.2.1, hwf.2.2.1, hwf.2.2.2.1, hwf.2.2.2.2.1⟩ hbw.size)
      go_wp2_with fail
      refine HDO.out.mono ?_
      rintro e W3 ⟨rfl, hP3, hb3⟩
      clear d0 d1 d2 d3 d4 d5 d6 d7
      go_wp2_with fail
      go_roundw
      case rel => exact ⟨k + 1, by omega, by omega, by go_num, hP3, Below.trans hbw hb3⟩
      case measure => simp [intOf]; omega
    · have hxx : ¬ ((k : Int) < ds2.length) ∨ ((k : Int) < ds2.length ∧ k = 40) := by omega
      have HSF := hide (fun (p s d a b now : Int) (hg : Rg5 p s d a b) (W : World) (hW : Later wr W) => same6_any w2.heap.size bf bg lim (100 + k) p s d a b now W (hPk.later hW) hr2 hg)
      have hz0 : Rg5 0 0 0 0 0 := ⟨by omega, by omega, by omega, by omega⟩
      rename World => wl
      rcases hxx with hnl | ⟨hnl, rfl⟩
      all_goals
        go_wp2_with fail
        clear hnl
        go_loopw [13] (fun i wr => ∃ k : Nat, k ≤ ds2.length ∧ k ≤ 40 ∧ i = .int .i64 (k : Int) ∧ Later wl wr) (fun i _ => ds2.length - (intOf i).toNat)
        case atStart => exact ⟨0, by omega, by omega, rfl, Later.refl _⟩
        case round =>
          obtain ⟨j, hj, hj4, rfl, hlj⟩ := hrel
          have hb2j : Later w2 wr := hbw.trans hlj
          have hbzj : Later w wr := hbz.trans hlj
          by_cases hgj : j < ds2.length ∧ j < 40
          · obtain ⟨hlt, h40⟩ := hgj
            have hlt' : (j : Int) < ds2.length := by omega
            have h40' : (j : Int) < 40 := by omega
            obtain ⟨bb, off, cp, e, _, _, hbb, hcs⟩ := (HI2.out.below hbzj).cells (by omega)
            simp at e
            obtain ⟨rfl, rfl⟩ := e
            have d1 := hcs j hlt 1 (by omega)
            have d2 := hcs j hlt 2 (by omega)
            have d3 := hcs j hlt 3 (by omega)
            have d4 := hcs j hlt 4 (by omega)
            have d5 := hcs j hlt 5 (by omega)
            have d7 := hcs j hlt 7 (by omega)
            have hwf := hd2 ds2[j] (List.getElem_mem hlt)
            clear hcs
            generalize ds2[j] = r at *
            simp only [dec, List.getElem?_cons_zero, List.getElem?_cons_succ, Nat.add_zero] at d1 d2 d3 d4 d5 d7
            have hg : Rg5 r.p r.s r.d r.a r.b := ⟨hwf.2.1, hwf.2.2.1, hwf.2.2.2.1, hwf.2.2.2.2.1⟩
            have HS1 := hide (fun W (hW : Later w2 W) => HSM.out r.p r.s r.d r.a r.b r.till hg W hW)
            have HS2 := hide (fun W (hW : Later wl W) => HSF.out r.p r.s r.d r.a r.b r.till hg W hW)
            clear hwf
            go_upto_region 13 with fail
            refine anyR_begin (R := Later) Later.pre Later.drew 30 rfl (by kernel_rfl) (fun V1 hV1 => ?_)
            have q1 : ∀ v1, Later V1 v1 → v1.cell? ⟨bb, off + j * 8 + 1, none⟩ = some (.int .u8 r.p) := fun v1 h => (hV1.trans h).cell d1
            have q2 : ∀ v1, Later V1 v1 → v1.cell? ⟨bb, off + j * 8 + 2, none⟩ = some (.int .u32 r.s) := fun v1 h => (hV1.trans h).cell d2
            have q3 : ∀ v1, Later V1 v1 → v1.cell? ⟨bb, off + j * 8 + 3, none⟩ = some (.int .u32 r.d) := fun v1 h => (hV1.trans h).cell d3
            have q4 : ∀ v1, Later V1 v1 → v1.cell? ⟨bb, off + j * 8 + 4, none⟩ = some (.int .u16 r.a) := fun v1 h => (hV1.trans h).cell d4
            have q5 : ∀ v1, Later V1 v1 → v1.cell? ⟨bb, off + j * 8 + 5, none⟩ = some (.int .u16 r.b) := fun v1 h => (hV1.trans h).cell d5
            have q7 : ∀ v1, Later V1 v1 → v1.cell? ⟨bb, off + j * 8 + 7, none⟩ = some (.int .i64 r.till) := fun v1 h => (hV1.trans h).cell d7
            clear d1 d2 d3 d4 d5 d7
            refine anyR_val Later.pre 0 rfl (by kernel_rfl) (by kernel_rfl) (by kernel_rfl) (fun _ _ _ _ h => h) rfl ?_; apply Exists.intro; refine ⟨fun w1 hw1 => ?_, ?_⟩; (· (go_simp; rfl)); simp only [Act.put, List.setIfInBounds_toArray, List.set_cons_zero, List.set_cons_succ]
            refine anyR_val Later.pre 1 rfl (by kernel_rfl) (by kernel_rfl) (by kernel_rfl) (fun _ _ _ _ h => h) rfl ?_; apply Exists.intro; refine ⟨fun w1 hw1 => ?_, ?_⟩; (· (go_simp; rfl)); simp only [Act.put, List.setIfInBounds_toArray, List.set_cons_zero, List.set_cons_succ]
            refine anyR_val Later.pre 2 rfl (by kernel_rfl) (by kernel_rfl) (by kernel_rfl) (fun _ _ _ _ h => h) rfl ?_; apply Exists.intro; refine ⟨fun w1 hw1 => ?_, ?_⟩; (· (go_simp; rfl)); simp only [Act.put, List.setIfInBounds_toArray, List.set_cons_zero, List.set_cons_succ]
            refine anyR_val Later.pre 3 rfl (by kernel_rfl) (by kernel_rfl) (by kernel_rfl) (fun _ _ _ _ h => h) rfl ?_; apply Exists.intro; refine ⟨fun w1 hw1 => ?_, ?_⟩; (· (go_simp; rfl)); simp only [Act.put, List.setIfInBounds_toArray, List.set_cons_zero, List.set_cons_succ]
            refine anyR_val Later.pre 4 rfl (by kernel_rfl) (by kernel_rfl) (by kernel_rfl) (fun _ _ _ _ h => h) rfl ?_; apply Exists.intro; refine ⟨fun w1 hw1 => ?_, ?_⟩; (· (go_simp; rfl)); simp only [Act.put, List.setIfInBounds_toArray, List.set_cons_zero, List.set_cons_succ]
            refine anyR_val Later.pre 5 rfl (by kernel_rfl) (by kernel_rfl) (by kernel_rfl) (fun _ _ _ _ h => h) rfl ?_; apply Exists.intro; refine ⟨fun w1 hw1 => ?_, ?_⟩; (· (go_simp; rfl)); simp only [Act.put, List.setIfInBounds_toArray, List.set_cons_zero, List.set_cons_succ]
            refine anyR_val Later.pre 6 rfl (by kernel_rfl) (by kernel_rfl) (by kernel_rfl) (fun _ _ _ _ h => h) rfl ?_; apply Exists.intro; refine ⟨fun w1 hw1 => ?_, ?_⟩; (· (go_simp; rfl)); simp only [Act.put, List.setIfInBounds_toArray, List.set_cons_zero, List.set_cons_succ]
            refine anyR_val Later.pre 7 rfl (by kernel_rfl) (by kernel_rfl) (by kernel_rfl) (fun _ _ _ _ h => h) rfl ?_; apply Exists.intro; refine ⟨fun w1 hw1 => ?_, ?_⟩; (· (go_simp; rfl)); simp only [Act.put, List.setIfInBounds_toArray, List.set_cons_zero, List.set_cons_succ]
            refine anyR_val Later.pre 8 rfl (by kernel_rfl) (by kernel_rfl) (by kernel_rfl) (fun _ _ _ _ h => h) rfl ?_; apply Exists.intro; refine ⟨fun w1 hw1 => ?_, ?_⟩; (· (go_simp; rfl)); simp only [Act.put, List.setIfInBounds_toArray, List.set_cons_zero, List.set_cons_succ]
            refine anyR_val Later.pre 9 rfl (by kernel_rfl) (by kernel_rfl) (by kernel_rfl) (fun _ _ _ _ h => h) rfl ?_; apply Exists.intro; refine ⟨fun w1 hw1 => ?_, ?_⟩; (· (go_simp; rfl)); simp only [Act.put, List.setIfInBounds_toArray, List.set_cons_zero, List.set_cons_succ]
            refine anyR_val Later.pre 10 rfl (by kernel_rfl) (by kernel_rfl) (by kernel_rfl) (fun _ _ _ _ h => h) rfl ?_; apply Exists.intro; refine ⟨fun w1 hw1 => ?_, ?_⟩; (· (go_simp; rfl)); simp only [Act.put, List.setIfInBounds_toArray, List.set_cons_zero, List.set_cons_succ]
            refine anyR_val Later.pre 11 rfl (by kernel_rfl) (by kernel_rfl) (by kernel_rfl) (fun _ _ _ _ h => h) rfl ?_; apply Exists.intro; refine ⟨fun w1 hw1 => ?_, ?_⟩; (· (go_simp; rfl)); simp only [Act.put, List.setIfInBounds_toArray, List.set_cons_zero, List.set_cons_succ]
            refine anyR_take Later.pre 12 (.bool true) rfl (by kernel_rfl) (by kernel_rfl) (by kernel_rfl) (fun _ _ _ h => h) rfl (fun w1 hw1 => goes_call 9 #[.pointer (some ⟨bt, 0, none⟩), .pointer (some ⟨bd, 0, none⟩), .agg #[.int .u8 r.p, .int .u32 r.s, .int .u32 r.d, .int .u16 r.a, .int .u16 r.b], .int .i64 r.till] (by go_simp) (HS1.out w1 (hb2j.trans (hV1.trans hw1)))) ?_
            simp only [Act.put, List.setIfInBounds_toArray, List.set_cons_zero, List.set_cons_succ]
            refine anyR_val Later.pre 13 rfl (by kernel_rfl) (by kernel_rfl) (by kernel_rfl) (fun _ _ _ _ h => h) rfl ?_; apply Exists.intro; refine ⟨fun w1 hw1 => ?_, ?_⟩; (· (go_simp; rfl)); simp only [Act.put, List.setIfInBounds_toArray, List.set_cons_zero, List.set_cons_succ]
            refine anyR_val Later.pre 14 rfl (by kernel_rfl) (by kernel_rfl) (by kernel_rfl) (fun _ _ _ _ h => h) rfl ?_; apply Exists.intro; refine ⟨fun w1 hw1 => ?_, ?_⟩; (· (go_simp; rfl)); simp only [Act.put, List.setIfInBounds_toArray, List.set_cons_zero, List.set_cons_succ]
            refine anyR_valG Later.pre 15 rfl (by kernel_rfl) (by kernel_rfl) (by kernel_rfl) (fun _ _ _ _ h => h) (by rfl) ?_; apply Exists.intro; refine ⟨fun w1 hw1 => ?_, ?_⟩; (· (go_simp; rfl)); simp only [Act.put, List.setIfInBounds_toArray, List.set_cons_zero, List.set_cons_succ]
            refine anyR_valG Later.pre 16 rfl (by kernel_rfl) (by kernel_rfl) (by kernel_rfl) (fun _ _ _ _ h => h) (by rfl) ?_; apply Exists.intro; refine ⟨fun w1 hw1 => ?_, ?_⟩; (· (go_simp; rfl)); simp only [Act.put, List.setIfInBounds_toArray, List.set_cons_zero, List.set_cons_succ]
            refine anyR_valG Later.pre 17 rfl (by kernel_rfl) (by kernel_rfl) (by kernel_rfl) (fun _ _ _ _ h => h) (by rfl) ?_; apply Exists.intro; refine ⟨fun w1 hw1 => ?_, ?_⟩; (· (go_simp; rfl)); simp only [Act.put, List.setIfInBounds_toArray, List.set_cons_zero, List.set_cons_succ]
            refine anyR_valG Later.pre 18 rfl (by kernel_rfl) (by kernel_rfl) (by kernel_rfl) (fun _ _ _ _ h => h) (by rfl) ?_; apply Exists.intro; refine ⟨fun w1 hw1 => ?_, ?_⟩; (· (go_simp; rfl)); simp only [Act.put, List.setIfInBounds_toArray, List.set_cons_zero, List.set_cons_succ]
            refine anyR_valG Later.pre 19 rfl (by kernel_rfl) (by kernel_rfl) (by kernel_rfl) (fun _ _ _ _ h => h) (by rfl) ?_; apply Exists.intro; refine ⟨fun w1 hw1 => ?_, ?_⟩; (· (go_simp; rfl)); simp only [Act.put, List.setIfInBounds_toArray, List.set_cons_zero, List.set_cons_succ]
            refine anyR_valG Later.pre 20 rfl (by kernel_rfl) (by kernel_rfl) (by kernel_rfl) (fun _ _ _ _ h => h) (by rfl) ?_; apply Exists.intro; refine ⟨fun w1 hw1 => ?_, ?_⟩; (· (go_simp; rfl)); simp only [Act.put, List.setIfInBounds_toArray, List.set_cons_zero, List.set_cons_succ]
            refine anyR_valG Later.pre 21 rfl (by kernel_rfl) (by kernel_rfl) (by kernel_rfl) (fun _ _ _ _ h => h) (by rfl) ?_; apply Exists.intro; refine ⟨fun w1 hw1 => ?_, ?_⟩; (· (go_simp; rfl)); simp only [Act.put, List.setIfInBounds_toArray, List.set_cons_zero, List.set_cons_succ]
            refine anyR_valG Later.pre 22 rfl (by kernel_rfl) (by kernel_rfl) (by kernel_rfl) (fun _ _ _ _ h => h) (by rfl) ?_; apply Exists.intro; refine ⟨fun w1 hw1 => ?_, ?_⟩; (· (go_simp; rfl)); simp only [Act.put, List.setIfInBounds_toArray, List.set_cons_zero, List.set_cons_succ]
            refine anyR_valG Later.pre 23 rfl (by kernel_rfl) (by kernel_rfl) (by kernel_rfl) (fun _ _ _ _ h => h) (by rfl) ?_; apply Exists.intro; refine ⟨fun w1 hw1 => ?_, ?_⟩; (· (go_simp; rfl)); simp only [Act.put, List.setIfInBounds_toArray, List.set_cons_zero, List.set_cons_succ]
            refine anyR_valG Later.pre 24 rfl (by kernel_rfl) (by kernel_rfl) (by kernel_rfl) (fun _ _ _ _ h => h) (by rfl) ?_; apply Exists.intro; refine ⟨fun w1 hw1 => ?_, ?_⟩; (· (go_simp; rfl)); simp only [Act.put, List.setIfInBounds_toArray, List.set_cons_zero, List.set_cons_succ]
            refine anyR_valG Later.pre 25 rfl (by kernel_rfl) (by kernel_rfl) (by kernel_rfl) (fun _ _ _ _ h => h) (by rfl) ?_; apply Exists.intro; refine ⟨fun w1 hw1 => ?_, ?_⟩; (· (go_simp; rfl)); simp only [Act.put, List.setIfInBounds_toArray, List.set_cons_zero, List.set_cons_succ]
            refine anyR_valG Later.pre 26 rfl (by kernel_rfl) (by kernel_rfl) (by kernel_rfl) (fun _ _ _ _ h => h) (by rfl) ?_; apply Exists.intro; refine ⟨fun w1 hw1 => ?_, ?_⟩; (· (go_simp; rfl)); simp only [Act.put, List.setIfInBounds_toArray, List.set_cons_zero, List.set_cons_succ]
            refine anyR_takeG Later.pre 27 (.bool true) rfl (by kernel_rfl) (by kernel_rfl) (by kernel_rfl) (fun _ _ _ h => h) (by rfl) (fun w1 hw1 => goes_call 9 #[.pointer (some ⟨bf, 0, none⟩), .pointer (some ⟨bg, 0, none⟩), .agg #[.int .u8 r.p, .int .u32 r.s, .int .u32 r.d, .int .u16 r.a, .int .u16 r.b], .int .i64 r.till] (by go_simp) (HS2.out w1 (hlj.trans (hV1.trans hw1)))) ?_
            simp only [Act.put, List.setIfInBounds_toArray, List.set_cons_zero, List.set_cons_succ]
            refine anyR_valG Later.pre 28 rfl (by kernel_rfl) (by kernel_rfl) (by kernel_rfl) (fun _ _ _ _ h => h) (by rfl) ?_; apply Exists.intro; refine ⟨fun w1 hw1 => ?_, ?_⟩; (· (go_simp; rfl)); simp only [Act.put, List.setIfInBounds_toArray, List.set_cons_zero, List.set_cons_succ]
            refine anyR_val Later.pre 29 rfl (by kernel_rfl) (by kernel_rfl) (by kernel_rfl) (fun _ _ _ _ h => h) rfl ?_; apply Exists.intro; refine ⟨fun w1 hw1 => ?_, ?_⟩; (· (go_simp; rfl)); simp only [Act.put, List.setIfInBounds_toArray, List.set_cons_zero, List.set_cons_succ]
            refine anyR_done (by kernel_rfl) (fun V2 hV2 => ?_)
            have hl2 := hlj.trans (hV1.trans hV2)
            clear q1 q2 q3 q4 q5 q7
            go_wp2_with fail
            go_roundw
            case rel => exact ⟨j + 1, by omega, by omega, by go_num, hl2⟩
            case measure => simp [intOf]; omega
          · have hxx : ¬ ((j : Int) < ds2.length) ∨ ((j : Int) < ds2.length ∧ j = 40) := by omega
            rcases hxx with hnl | ⟨hnl, rfl⟩
            all_goals
              go_wp2_with fail
              refine (HSM.out 0 0 0 0 0 1099511627776 hz0 wr hb2j).mono ?_
              rintro e w9 ⟨rfl, l9⟩
              have hL := hbzj.trans l9
              go_wp2_with fail
              go_ret
              exact ⟨by simp, hL⟩
end Go.Proofs.Ytahphjindjlcpaa
